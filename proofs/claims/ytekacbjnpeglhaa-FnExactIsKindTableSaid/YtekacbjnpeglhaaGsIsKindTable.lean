/- loop.example/g01062/spec.IsKindTable as a plain function, and the contract of the program's: where the plain one has an answer, the program has it. Conditions: slices read as lists. -/
import Derived.Test.YtekacbjnpeglhaaChecked
import Derived.Test.YtekacbjnpeglhaaGoM
import Derived.Test.YtekacbjnpeglhaaGoRBan
import Derived.Test.YtekacbjnpeglhaaGoRKindTable
import Derived.Test.YtekacbjnpeglhaaHelpInt
import Derived.Test.YtekacbjnpeglhaaGsL6Good
import Derived.WalkKit
import Derived.WalkSpells
import Derived.WalkLawsBesides
import Derived.BigQuiet
import Derived.OwnWalk
import Derived.Deep.LoopGhost
import Derived.Deep.QuietTactic
import Derived.IntWalk
import Derived.Lib.QuietBelow
namespace Go.Proofs.Ytekacbjnpeglhaa.GsIsKindTable
set_option linter.unusedVariables false
set_option linter.unusedSimpArgs false
open Go.RowKit
open Go.Proofs.Ytekacbjnpeglhaa.Rowed Go.Proofs.Ytekacbjnpeglhaa.Turn Go.Proofs.Ytekacbjnpeglhaa.Aid Go.Proofs.Ytekacbjnpeglhaa.GoP Go.Proofs.Ytekacbjnpeglhaa.GoM

def P (fuel : Nat) (t_sizes : (List Int)) (t_bans : (List Go.Proofs.Ytekacbjnpeglhaa.PBan.Ban)) : Option (Bool) :=
  Option.bind (Go.Proofs.Ytekacbjnpeglhaa.GsL6Good.P fuel t_sizes t_bans) fun (t_3 : Bool) =>
  some t_3

set_option maxRecDepth 100000 in
set_option maxHeartbeats 2000000 in
theorem C (fuel : Nat) (t_sizes : (List Int)) (t_bans : (List Go.Proofs.Ytekacbjnpeglhaa.PBan.Ban)) (A0_0 : Option Addr) (c0_0 : Nat) (A0_1 : Option Addr) (c0_1 : Nat)  (w : World) (M0_0 : Hid (Cells w 1 A0_0 t_sizes.length (Go.Proofs.Ytekacbjnpeglhaa.HelpInt.iv t_sizes))) (N0_0 : Hid (t_sizes.length ≤ 9223372036854775807)) (M0_1 : Hid (Cells w 4 A0_1 t_bans.length (Go.Proofs.Ytekacbjnpeglhaa.PBan.flat t_bans))) (N0_1 : Hid (t_bans.length ≤ 9223372036854775807))  {r : Bool} (H : Hid (P fuel t_sizes t_bans = some r)) :
    Calls Try.prog 14 #[.agg #[.slice A0_0 t_sizes.length c0_0, .slice A0_1 t_bans.length c0_1]] w (Gives (.bool r) w) := by
  have HB := Lib.hid (Below.refl w.heap.size w)
  unfold P at H
  have N0_0o := N0_0.out
  have N0_1o := N0_1.out
  go_enter Try.func14, Try.ntmps14
  obtain ⟨w_t_0, hw_t_0⟩ : ∃ x, w.alloc (.cells #[.slice A0_0 t_sizes.length c0_0, .slice A0_1 t_bans.length c0_1] 30) = x := ⟨_, rfl⟩
  have bw_t_0 : Below w.heap.size w w_t_0 := by rw [← hw_t_0]; exact (Below.refl _ _).alloc (Nat.le_refl _) _
  have HBw_t_0 := Lib.hid (Below.step HB.out bw_t_0)
  clear bw_t_0
  have kt_0_0 : w_t_0.cell? ⟨w.heap.size, 0, none⟩ = some (.slice A0_0 t_sizes.length c0_0) := by rw [← hw_t_0]; exact box_new _ _ _ 0 _ rfl
  have kt_0_1 : w_t_0.cell? ⟨w.heap.size, 1, none⟩ = some (.slice A0_1 t_bans.length c0_1) := by rw [← hw_t_0]; exact box_new _ _ _ 1 _ rfl
  replace H := bind_hid H
  obtain ⟨t_3, qt_3, H⟩ := H
  go_wp2_with fail
  go_at_call 53
  refine (Go.Proofs.Ytekacbjnpeglhaa.GsL6Good.C fuel (t_sizes) (t_bans) A0_0 c0_0 A0_1 c0_1 _   (Lib.hid (Cells.below M0_0.out HBw_t_0.out)) N0_0 (Lib.hid (Cells.below M0_1.out HBw_t_0.out)) N0_1 qt_3).mono ?_
  rintro e_t_3 wt_3 ⟨rfl, bt_3⟩
  have HBwt_3 := Lib.hid (Below.step HBw_t_0.out bt_3)
  replace kt_0_0 := cell_below bt_3 kt_0_0
  replace kt_0_1 := cell_below bt_3 kt_0_1
  clear bt_3
  obtain rfl := ret_hid H
  go_wp2_with fail
  go_ret
  exact ⟨rfl, HBwt_3.out⟩
end Go.Proofs.Ytekacbjnpeglhaa.GsIsKindTable
