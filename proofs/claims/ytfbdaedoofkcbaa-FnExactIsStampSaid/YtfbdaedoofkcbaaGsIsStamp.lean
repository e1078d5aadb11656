/- loop.example/g01062/spec.IsStamp as a plain function, and the contract of the program's: where the plain one has an answer, the program has it. Conditions: slices read as lists. -/
import Derived.Test.YtfbdaedoofkcbaaChecked
import Derived.Test.YtfbdaedoofkcbaaGoM
import Derived.Test.YtfbdaedoofkcbaaGoRStamp
import Derived.Test.YtfbdaedoofkcbaaGsL2Stamp
import Derived.WalkKit
import Derived.WalkSpells
import Derived.WalkLawsBesides
import Derived.BigQuiet
import Derived.OwnWalk
import Derived.Deep.LoopGhost
import Derived.Deep.QuietTactic
import Derived.IntWalk
import Derived.Lib.QuietBelow
namespace Go.Proofs.Ytfbdaedoofkcbaa.GsIsStamp
set_option linter.unusedVariables false
set_option linter.unusedSimpArgs false
open Go.RowKit
open Go.Proofs.Ytfbdaedoofkcbaa.Rowed Go.Proofs.Ytfbdaedoofkcbaa.Turn Go.Proofs.Ytfbdaedoofkcbaa.Aid Go.Proofs.Ytfbdaedoofkcbaa.GoP Go.Proofs.Ytfbdaedoofkcbaa.GoM

def P (s_0 : Go.Proofs.Ytfbdaedoofkcbaa.PlainStamp.St) : Option (Bool) :=
  unStamp s_0 fun (s_0_id : Int) (s_0_face : Int) (s_0_color : Int) (s_0_year : Int) =>
  Option.bind (Go.Proofs.Ytfbdaedoofkcbaa.GsL2Stamp.P (Go.Proofs.Ytfbdaedoofkcbaa.PlainStamp.St.mk s_0_id s_0_face s_0_color s_0_year)) fun (t_3 : Bool) =>
  some t_3

set_option maxRecDepth 100000 in
set_option maxHeartbeats 2000000 in
theorem C (s_0 : Go.Proofs.Ytfbdaedoofkcbaa.PlainStamp.St)   (w : World)   {r : Bool} (H : Hid (P s_0 = some r)) :
    Calls Try.prog 57 #[s_0.val] w (Gives (.bool r) w) := by
  have HB := Lib.hid (Below.refl w.heap.size w)
  unfold P at H
  obtain ⟨s_0_id, s_0_face, s_0_color, s_0_year⟩ := s_0
  replace H := unStamp_hid H
  unfold Go.Proofs.Ytfbdaedoofkcbaa.PlainStamp.St.val
  go_enter Try.func57, Try.ntmps57
  obtain ⟨w_s_0, hw_s_0⟩ : ∃ x, w.alloc (.cells #[.int .i64 s_0_id, .int .i64 s_0_face, .int .i64 s_0_color, .int .i64 s_0_year] 75) = x := ⟨_, rfl⟩
  have bw_s_0 : Below w.heap.size w w_s_0 := by rw [← hw_s_0]; exact (Below.refl _ _).alloc (Nat.le_refl _) _
  have HBw_s_0 := Lib.hid (Below.step HB.out bw_s_0)
  clear bw_s_0
  have ks_0_0 : w_s_0.cell? ⟨w.heap.size, 0, none⟩ = some (.int .i64 s_0_id) := by rw [← hw_s_0]; exact box_new _ _ _ 0 _ rfl
  have ks_0_1 : w_s_0.cell? ⟨w.heap.size, 1, none⟩ = some (.int .i64 s_0_face) := by rw [← hw_s_0]; exact box_new _ _ _ 1 _ rfl
  have ks_0_2 : w_s_0.cell? ⟨w.heap.size, 2, none⟩ = some (.int .i64 s_0_color) := by rw [← hw_s_0]; exact box_new _ _ _ 2 _ rfl
  have ks_0_3 : w_s_0.cell? ⟨w.heap.size, 3, none⟩ = some (.int .i64 s_0_year) := by rw [← hw_s_0]; exact box_new _ _ _ 3 _ rfl
  replace H := bind_hid H
  obtain ⟨t_3, qt_3, H⟩ := H
  go_wp2_with fail
  go_at_call 86
  refine (Go.Proofs.Ytfbdaedoofkcbaa.GsL2Stamp.C ((Go.Proofs.Ytfbdaedoofkcbaa.PlainStamp.St.mk s_0_id s_0_face s_0_color s_0_year))  _  qt_3).mono ?_
  rintro e_t_3 wt_3 ⟨rfl, bt_3⟩
  have HBwt_3 := Lib.hid (Below.step HBw_s_0.out bt_3)
  replace ks_0_0 := cell_below bt_3 ks_0_0
  replace ks_0_1 := cell_below bt_3 ks_0_1
  replace ks_0_2 := cell_below bt_3 ks_0_2
  replace ks_0_3 := cell_below bt_3 ks_0_3
  clear bt_3
  obtain rfl := ret_hid H
  go_wp2_with fail
  go_ret
  exact ⟨rfl, HBwt_3.out⟩
end Go.Proofs.Ytfbdaedoofkcbaa.GsIsStamp
