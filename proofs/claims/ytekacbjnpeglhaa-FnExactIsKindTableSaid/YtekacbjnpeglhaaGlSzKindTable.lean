/- loop.example/g01062/laws.szKindTable as a plain function, and the contract of the program's: where the plain one has an answer, the program has it. Conditions: slices read as lists. -/
import Derived.Test.YtekacbjnpeglhaaChecked
import Derived.Test.YtekacbjnpeglhaaGoM
import Derived.Test.YtekacbjnpeglhaaGoRBan
import Derived.Test.YtekacbjnpeglhaaGoRKindTable
import Derived.Test.YtekacbjnpeglhaaHelpInt
import Derived.Test.YtekacbjnpeglhaaGlSzIntS
import Derived.Test.YtekacbjnpeglhaaGlSzBanS
import Derived.WalkKit
import Derived.WalkSpells
import Derived.WalkLawsBesides
import Derived.BigQuiet
import Derived.OwnWalk
import Derived.Deep.LoopGhost
import Derived.Deep.QuietTactic
import Derived.IntWalk
import Derived.Lib.QuietBelow
namespace Go.Proofs.Ytekacbjnpeglhaa.GlSzKindTable
set_option linter.unusedVariables false
set_option linter.unusedSimpArgs false
open Go.RowKit
open Go.Proofs.Ytekacbjnpeglhaa.Rowed Go.Proofs.Ytekacbjnpeglhaa.Turn Go.Proofs.Ytekacbjnpeglhaa.Aid Go.Proofs.Ytekacbjnpeglhaa.GoP Go.Proofs.Ytekacbjnpeglhaa.GoM

def P (a_sizes : (List Int)) (a_bans : (List Go.Proofs.Ytekacbjnpeglhaa.PBan.Ban)) (left : Int) : Option (Int) :=
  Option.bind (Go.Proofs.Ytekacbjnpeglhaa.GlSzIntS.P a_sizes left) fun (t_5 : Int) =>
  letK (decide (t_5 < 0)) fun (t_8 : Bool) =>
  iteK t_8
  (some (-1))
  (Option.bind (Go.Proofs.Ytekacbjnpeglhaa.GlSzBanS.P a_bans t_5) fun (t_13 : Int) =>
  letK (decide (t_13 < 0)) fun (t_16 : Bool) =>
  iteK t_16
  (some (-1))
  (some t_13))

set_option maxRecDepth 100000 in
set_option maxHeartbeats 2000000 in
theorem C (a_sizes : (List Int)) (a_bans : (List Go.Proofs.Ytekacbjnpeglhaa.PBan.Ban)) (left : Int) (A0_0 : Option Addr) (c0_0 : Nat) (A0_1 : Option Addr) (c0_1 : Nat)  (w : World) (M0_0 : Hid (Cells w 1 A0_0 a_sizes.length (Go.Proofs.Ytekacbjnpeglhaa.HelpInt.iv a_sizes))) (N0_0 : Hid (a_sizes.length ≤ 9223372036854775807)) (M0_1 : Hid (Cells w 4 A0_1 a_bans.length (Go.Proofs.Ytekacbjnpeglhaa.PBan.flat a_bans))) (N0_1 : Hid (a_bans.length ≤ 9223372036854775807))  {r : Int} (H : Hid (P a_sizes a_bans left = some r)) :
    Calls Try.prog 13 #[.agg #[.slice A0_0 a_sizes.length c0_0, .slice A0_1 a_bans.length c0_1], .int .i64 left] w (Gives (.int .i64 r) w) := by
  have HB := Lib.hid (Below.refl w.heap.size w)
  unfold P at H
  have N0_0o := N0_0.out
  have N0_1o := N0_1.out
  go_enter Try.func13, Try.ntmps13
  obtain ⟨w_a_0, hw_a_0⟩ : ∃ x, w.alloc (.cells #[.slice A0_0 a_sizes.length c0_0, .slice A0_1 a_bans.length c0_1] 25) = x := ⟨_, rfl⟩
  have bw_a_0 : Below w.heap.size w w_a_0 := by rw [← hw_a_0]; exact (Below.refl _ _).alloc (Nat.le_refl _) _
  have HBw_a_0 := Lib.hid (Below.step HB.out bw_a_0)
  clear bw_a_0
  have ka_0_0 : w_a_0.cell? ⟨w.heap.size, 0, none⟩ = some (.slice A0_0 a_sizes.length c0_0) := by rw [← hw_a_0]; exact box_new _ _ _ 0 _ rfl
  have ka_0_1 : w_a_0.cell? ⟨w.heap.size, 1, none⟩ = some (.slice A0_1 a_bans.length c0_1) := by rw [← hw_a_0]; exact box_new _ _ _ 1 _ rfl
  replace H := bind_hid H
  obtain ⟨t_5, qt_5, H⟩ := H
  go_wp2_with fail
  go_at_call 51
  refine (Go.Proofs.Ytekacbjnpeglhaa.GlSzIntS.C (a_sizes) (left) A0_0 c0_0 _   (Lib.hid (Cells.below M0_0.out HBw_a_0.out)) N0_0 qt_5).mono ?_
  rintro e_t_5 wt_5 ⟨rfl, bt_5⟩
  have HBwt_5 := Lib.hid (Below.step HBw_a_0.out bt_5)
  replace ka_0_0 := cell_below bt_5 ka_0_0
  replace ka_0_1 := cell_below bt_5 ka_0_1
  clear bt_5
  replace H := let_hid H
  obtain ⟨t_8, ht_8, H⟩ := H
  cases t_8 with
  | false =>
    replace H := ite_f H
    replace H := bind_hid H
    obtain ⟨t_13, qt_13, H⟩ := H
    go_wp2_with fail
    go_at_call 52
    refine (Go.Proofs.Ytekacbjnpeglhaa.GlSzBanS.C (a_bans) (t_5) A0_1 c0_1 _   (Lib.hid (Cells.below M0_1.out HBwt_5.out)) N0_1 qt_13).mono ?_
    rintro e_t_13 wt_13 ⟨rfl, bt_13⟩
    have HBwt_13 := Lib.hid (Below.step HBwt_5.out bt_13)
    replace ka_0_0 := cell_below bt_13 ka_0_0
    replace ka_0_1 := cell_below bt_13 ka_0_1
    clear bt_13
    replace H := let_hid H
    obtain ⟨t_16, ht_16, H⟩ := H
    cases t_16 with
    | false =>
      replace H := ite_f H
      obtain rfl := ret_hid H
      go_wp2_with fail
      go_ret
      exact ⟨rfl, HBwt_13.out⟩
    | true =>
      replace H := ite_t H
      obtain rfl := ret_hid H
      go_wp2_with fail
      go_ret
      exact ⟨rfl, HBwt_13.out⟩
  | true =>
    replace H := ite_t H
    obtain rfl := ret_hid H
    go_wp2_with fail
    go_ret
    exact ⟨rfl, HBwt_5.out⟩
end Go.Proofs.Ytekacbjnpeglhaa.GlSzKindTable
