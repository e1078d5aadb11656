/- loop.example/g01062/laws.szSighting as a plain function, and the contract of the program's: where the plain one has an answer, the program has it. Conditions: slices read as lists. -/
import Derived.Test.YtpaakpbbahbhcaaDoorChecked
import Derived.Test.YtpaakpbbahbhcaaDoorGoM
import Derived.Test.YtpaakpbbahbhcaaDoorGoRSighting
import Derived.Test.YtpaakpbbahbhcaaDoorHelpInt
import Derived.Test.YtpaakpbbahbhcaaDoorGlSzIntS
import Derived.WalkKit
import Derived.WalkSpells
import Derived.WalkLawsBesides
import Derived.BigQuiet
import Derived.OwnWalk
import Derived.Deep.LoopGhost
import Derived.Deep.QuietTactic
import Derived.IntWalk
import Derived.Lib.QuietBelow
namespace Go.Proofs.YtpaakpbbahbhcaaDoor.GlSzSighting
set_option linter.unusedVariables false
set_option linter.unusedSimpArgs false
open Go.RowKit
open Go.Proofs.YtpaakpbbahbhcaaDoor.Rowed Go.Proofs.YtpaakpbbahbhcaaDoor.Turn Go.Proofs.YtpaakpbbahbhcaaDoor.Aid Go.Proofs.YtpaakpbbahbhcaaDoor.GoP Go.Proofs.YtpaakpbbahbhcaaDoor.GoM

def P (a_id : Int) (a_year : Int) (a_town : ByteArray) (a_traits : (List Int)) (left : Int) : Option (Int) :=
  letK (IntKind.i64.wrap (left - (a_town.size : Int))) fun (t_6 : Int) =>
  letK (decide (t_6 < 0)) fun (t_9 : Bool) =>
  iteK t_9
  (some (-1))
  (Option.bind (Go.Proofs.YtpaakpbbahbhcaaDoor.GlSzIntS.P a_traits t_6) fun (t_14 : Int) =>
  letK (decide (t_14 < 0)) fun (t_17 : Bool) =>
  iteK t_17
  (some (-1))
  (some t_14))

set_option maxRecDepth 100000 in
set_option maxHeartbeats 2000000 in
theorem C (a_id : Int) (a_year : Int) (a_town : ByteArray) (a_traits : (List Int)) (left : Int) (A0_3 : Option Addr) (c0_3 : Nat)  (w : World) (M0_3 : Hid (Cells w 1 A0_3 a_traits.length (Go.Proofs.YtpaakpbbahbhcaaDoor.HelpInt.iv a_traits))) (N0_3 : Hid (a_traits.length ≤ 9223372036854775807))  {r : Int} (H : Hid (P a_id a_year a_town a_traits left = some r)) :
    Calls Tryd.prog 4 #[.agg #[.int .i64 a_id, .int .i64 a_year, .string a_town, .slice A0_3 a_traits.length c0_3], .int .i64 left] w (Gives (.int .i64 r) w) := by
  have HB := Lib.hid (Below.refl w.heap.size w)
  unfold P at H
  have N0_3o := N0_3.out
  go_enter Tryd.func4, Tryd.ntmps4
  obtain ⟨w_a_0, hw_a_0⟩ : ∃ x, w.alloc (.cells #[.int .i64 a_id, .int .i64 a_year, .string a_town, .slice A0_3 a_traits.length c0_3] 24) = x := ⟨_, rfl⟩
  have bw_a_0 : Below w.heap.size w w_a_0 := by rw [← hw_a_0]; exact (Below.refl _ _).alloc (Nat.le_refl _) _
  have HBw_a_0 := Lib.hid (Below.step HB.out bw_a_0)
  clear bw_a_0
  have ka_0_0 : w_a_0.cell? ⟨w.heap.size, 0, none⟩ = some (.int .i64 a_id) := by rw [← hw_a_0]; exact box_new _ _ _ 0 _ rfl
  have ka_0_1 : w_a_0.cell? ⟨w.heap.size, 1, none⟩ = some (.int .i64 a_year) := by rw [← hw_a_0]; exact box_new _ _ _ 1 _ rfl
  have ka_0_2 : w_a_0.cell? ⟨w.heap.size, 2, none⟩ = some (.string a_town) := by rw [← hw_a_0]; exact box_new _ _ _ 2 _ rfl
  have ka_0_3 : w_a_0.cell? ⟨w.heap.size, 3, none⟩ = some (.slice A0_3 a_traits.length c0_3) := by rw [← hw_a_0]; exact box_new _ _ _ 3 _ rfl
  replace H := let_hid H
  obtain ⟨t_6, ht_6, H⟩ := H
  replace H := let_hid H
  obtain ⟨t_9, ht_9, H⟩ := H
  cases t_9 with
  | false =>
    replace H := ite_f H
    replace H := bind_hid H
    obtain ⟨t_14, qt_14, H⟩ := H
    go_wp2_with fail
    go_at_call 9
    refine (Go.Proofs.YtpaakpbbahbhcaaDoor.GlSzIntS.C (a_traits) (t_6) A0_3 c0_3 _   (Lib.hid (Cells.below M0_3.out HBw_a_0.out)) N0_3 qt_14).mono ?_
    rintro e_t_14 wt_14 ⟨rfl, bt_14⟩
    have HBwt_14 := Lib.hid (Below.step HBw_a_0.out bt_14)
    replace ka_0_0 := cell_below bt_14 ka_0_0
    replace ka_0_1 := cell_below bt_14 ka_0_1
    replace ka_0_2 := cell_below bt_14 ka_0_2
    replace ka_0_3 := cell_below bt_14 ka_0_3
    clear bt_14
    replace H := let_hid H
    obtain ⟨t_17, ht_17, H⟩ := H
    cases t_17 with
    | false =>
      replace H := ite_f H
      obtain rfl := ret_hid H
      go_wp2_with fail
      go_ret
      exact ⟨rfl, HBwt_14.out⟩
    | true =>
      replace H := ite_t H
      obtain rfl := ret_hid H
      go_wp2_with fail
      go_ret
      exact ⟨rfl, HBwt_14.out⟩
  | true =>
    replace H := ite_t H
    obtain rfl := ret_hid H
    go_wp2_with fail
    go_ret
    exact ⟨rfl, HBw_a_0.out⟩
end Go.Proofs.YtpaakpbbahbhcaaDoor.GlSzSighting
