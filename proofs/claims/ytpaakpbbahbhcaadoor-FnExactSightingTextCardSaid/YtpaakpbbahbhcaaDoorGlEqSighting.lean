/- loop.example/g01062/laws.eqSighting as a plain function, and the contract of the program's: where the plain one has an answer, the program has it. Conditions: slices read as lists. -/
import Derived.Test.YtpaakpbbahbhcaaDoorChecked
import Derived.Test.YtpaakpbbahbhcaaDoorGoM
import Derived.Test.YtpaakpbbahbhcaaDoorGoRSighting
import Derived.Test.YtpaakpbbahbhcaaDoorHelpInt
import Derived.Test.YtpaakpbbahbhcaaDoorGlEqIntS
import Derived.WalkKit
import Derived.WalkSpells
import Derived.WalkLawsBesides
import Derived.BigQuiet
import Derived.OwnWalk
import Derived.Deep.LoopGhost
import Derived.Deep.QuietTactic
import Derived.IntWalk
import Derived.Lib.QuietBelow
namespace Go.Proofs.YtpaakpbbahbhcaaDoor.GlEqSighting
set_option linter.unusedVariables false
set_option linter.unusedSimpArgs false
open Go.RowKit
open Go.Proofs.YtpaakpbbahbhcaaDoor.Rowed Go.Proofs.YtpaakpbbahbhcaaDoor.Turn Go.Proofs.YtpaakpbbahbhcaaDoor.Aid Go.Proofs.YtpaakpbbahbhcaaDoor.GoP Go.Proofs.YtpaakpbbahbhcaaDoor.GoM

def P (a_id : Int) (a_year : Int) (a_town : ByteArray) (a_traits : (List Int)) (b_id : Int) (b_year : Int) (b_town : ByteArray) (b_traits : (List Int)) : Option (Bool) :=
  letK (a_id != b_id) fun (t_7 : Bool) =>
  iteK t_7
  (some false)
  (letK (a_year != b_year) fun (t_13 : Bool) =>
  iteK t_13
  (some false)
  (letK (!(a_town.toList == b_town.toList)) fun (t_19 : Bool) =>
  iteK t_19
  (some false)
  (Option.bind (Go.Proofs.YtpaakpbbahbhcaaDoor.GlEqIntS.P a_traits b_traits) fun (t_25 : Bool) =>
  letK (!t_25) fun (t_26 : Bool) =>
  iteK t_26
  (some false)
  (some true))))

set_option maxRecDepth 100000 in
set_option maxHeartbeats 2000000 in
theorem C (a_id : Int) (a_year : Int) (a_town : ByteArray) (a_traits : (List Int)) (b_id : Int) (b_year : Int) (b_town : ByteArray) (b_traits : (List Int)) (A0_3 : Option Addr) (c0_3 : Nat) (A1_3 : Option Addr) (c1_3 : Nat)  (w : World) (M0_3 : Hid (Cells w 1 A0_3 a_traits.length (Go.Proofs.YtpaakpbbahbhcaaDoor.HelpInt.iv a_traits))) (N0_3 : Hid (a_traits.length ≤ 9223372036854775807)) (M1_3 : Hid (Cells w 1 A1_3 b_traits.length (Go.Proofs.YtpaakpbbahbhcaaDoor.HelpInt.iv b_traits))) (N1_3 : Hid (b_traits.length ≤ 9223372036854775807))  {r : Bool} (H : Hid (P a_id a_year a_town a_traits b_id b_year b_town b_traits = some r)) :
    Calls Tryd.prog 8 #[.agg #[.int .i64 a_id, .int .i64 a_year, .string a_town, .slice A0_3 a_traits.length c0_3], .agg #[.int .i64 b_id, .int .i64 b_year, .string b_town, .slice A1_3 b_traits.length c1_3]] w (Gives (.bool r) w) := by
  have HB := Lib.hid (Below.refl w.heap.size w)
  unfold P at H
  have N0_3o := N0_3.out
  have N1_3o := N1_3.out
  go_enter Tryd.func8, Tryd.ntmps8
  obtain ⟨w_a_0, hw_a_0⟩ : ∃ x, w.alloc (.cells #[.int .i64 a_id, .int .i64 a_year, .string a_town, .slice A0_3 a_traits.length c0_3] 28) = x := ⟨_, rfl⟩
  have bw_a_0 : Below w.heap.size w w_a_0 := by rw [← hw_a_0]; exact (Below.refl _ _).alloc (Nat.le_refl _) _
  have HBw_a_0 := Lib.hid (Below.step HB.out bw_a_0)
  clear bw_a_0
  have ka_0_0 : w_a_0.cell? ⟨w.heap.size, 0, none⟩ = some (.int .i64 a_id) := by rw [← hw_a_0]; exact box_new _ _ _ 0 _ rfl
  have ka_0_1 : w_a_0.cell? ⟨w.heap.size, 1, none⟩ = some (.int .i64 a_year) := by rw [← hw_a_0]; exact box_new _ _ _ 1 _ rfl
  have ka_0_2 : w_a_0.cell? ⟨w.heap.size, 2, none⟩ = some (.string a_town) := by rw [← hw_a_0]; exact box_new _ _ _ 2 _ rfl
  have ka_0_3 : w_a_0.cell? ⟨w.heap.size, 3, none⟩ = some (.slice A0_3 a_traits.length c0_3) := by rw [← hw_a_0]; exact box_new _ _ _ 3 _ rfl
  obtain ⟨w_b_1, hw_b_1⟩ : ∃ x, w_a_0.alloc (.cells #[.int .i64 b_id, .int .i64 b_year, .string b_town, .slice A1_3 b_traits.length c1_3] 28) = x := ⟨_, rfl⟩
  have bw_b_1 : Below w_a_0.heap.size w_a_0 w_b_1 := by rw [← hw_b_1]; exact (Below.refl _ _).alloc (Nat.le_refl _) _
  have HBw_b_1 := Lib.hid (Below.step HBw_a_0.out bw_b_1)
  have ka_0_0__75 := cell_below bw_b_1 ka_0_0
  have ka_0_1__76 := cell_below bw_b_1 ka_0_1
  have ka_0_2__77 := cell_below bw_b_1 ka_0_2
  have ka_0_3__78 := cell_below bw_b_1 ka_0_3
  clear bw_b_1
  have kb_1_0 : w_b_1.cell? ⟨w_a_0.heap.size, 0, none⟩ = some (.int .i64 b_id) := by rw [← hw_b_1]; exact box_new _ _ _ 0 _ rfl
  have kb_1_1 : w_b_1.cell? ⟨w_a_0.heap.size, 1, none⟩ = some (.int .i64 b_year) := by rw [← hw_b_1]; exact box_new _ _ _ 1 _ rfl
  have kb_1_2 : w_b_1.cell? ⟨w_a_0.heap.size, 2, none⟩ = some (.string b_town) := by rw [← hw_b_1]; exact box_new _ _ _ 2 _ rfl
  have kb_1_3 : w_b_1.cell? ⟨w_a_0.heap.size, 3, none⟩ = some (.slice A1_3 b_traits.length c1_3) := by rw [← hw_b_1]; exact box_new _ _ _ 3 _ rfl
  replace H := let_hid H
  obtain ⟨t_7, ht_7, H⟩ := H
  cases t_7 with
  | false =>
    replace H := ite_f H
    replace H := let_hid H
    obtain ⟨t_13, ht_13, H⟩ := H
    cases t_13 with
    | false =>
      replace H := ite_f H
      replace H := let_hid H
      obtain ⟨t_19, ht_19, H⟩ := H
      cases t_19 with
      | false =>
        replace H := ite_f H
        replace H := bind_hid H
        obtain ⟨t_25, qt_25, H⟩ := H
        go_wp2_with fail
        clear ka_0_0 ka_0_1 ka_0_2 ka_0_3
        go_at_call 15
        refine (Go.Proofs.YtpaakpbbahbhcaaDoor.GlEqIntS.C (a_traits) (b_traits) A0_3 c0_3 A1_3 c1_3 _   (Lib.hid (Cells.below M0_3.out HBw_b_1.out)) N0_3 (Lib.hid (Cells.below M1_3.out HBw_b_1.out)) N1_3 qt_25).mono ?_
        rintro e_t_25 wt_25 ⟨rfl, bt_25⟩
        have HBwt_25 := Lib.hid (Below.step HBw_b_1.out bt_25)
        replace ka_0_0__75 := cell_below bt_25 ka_0_0__75
        replace ka_0_1__76 := cell_below bt_25 ka_0_1__76
        replace ka_0_2__77 := cell_below bt_25 ka_0_2__77
        replace ka_0_3__78 := cell_below bt_25 ka_0_3__78
        replace kb_1_0 := cell_below bt_25 kb_1_0
        replace kb_1_1 := cell_below bt_25 kb_1_1
        replace kb_1_2 := cell_below bt_25 kb_1_2
        replace kb_1_3 := cell_below bt_25 kb_1_3
        clear bt_25
        cases t_25 with
        | false =>
          replace H := let_hid H
          obtain ⟨t_26, ht_26, H⟩ := H
          obtain rfl : t_26 = true := ht_26.symm
          replace H := ite_t H
          obtain rfl := ret_hid H
          go_wp2_with fail
          go_ret
          exact ⟨rfl, HBwt_25.out⟩
        | true =>
          replace H := let_hid H
          obtain ⟨t_26, ht_26, H⟩ := H
          obtain rfl : t_26 = false := ht_26.symm
          replace H := ite_f H
          obtain rfl := ret_hid H
          go_wp2_with fail
          go_ret
          exact ⟨rfl, HBwt_25.out⟩
      | true =>
        replace H := ite_t H
        obtain rfl := ret_hid H
        go_wp2_with fail
        go_ret
        exact ⟨rfl, HBw_b_1.out⟩
    | true =>
      replace H := ite_t H
      obtain rfl := ret_hid H
      go_wp2_with fail
      go_ret
      exact ⟨rfl, HBw_b_1.out⟩
  | true =>
    replace H := ite_t H
    obtain rfl := ret_hid H
    go_wp2_with fail
    go_ret
    exact ⟨rfl, HBw_b_1.out⟩
end Go.Proofs.YtpaakpbbahbhcaaDoor.GlEqSighting
