/- loop.example/g01062/spec.IsPaper as a plain function, and the contract of the program's: where the plain one has an answer, the program has it. Conditions: slices read as lists. -/
import Derived.Test.YtfbdaedoofkcbabChecked
import Derived.Test.YtfbdaedoofkcbabGoM
import Derived.Test.YtfbdaedoofkcbabGoRPaper
import Derived.Test.YtfbdaedoofkcbabGsL3One
import Derived.WalkKit
import Derived.WalkSpells
import Derived.WalkLawsBesides
import Derived.BigQuiet
import Derived.OwnWalk
import Derived.Deep.LoopGhost
import Derived.Deep.QuietTactic
import Derived.IntWalk
import Derived.Lib.QuietBelow
namespace Go.Proofs.Ytfbdaedoofkcbab.GsIsPaper
set_option linter.unusedVariables false
set_option linter.unusedSimpArgs false
open Go.RowKit
open Go.Proofs.Ytfbdaedoofkcbab.Rowed Go.Proofs.Ytfbdaedoofkcbab.Turn Go.Proofs.Ytfbdaedoofkcbab.Aid Go.Proofs.Ytfbdaedoofkcbab.GoP Go.Proofs.Ytfbdaedoofkcbab.GoM

def P (p : Go.Proofs.Ytfbdaedoofkcbab.PPaper.Paper) : Option (Bool) :=
  unPaper p fun (p_id : Int) (p_thick : Int) (p_tint : Int) (p_mark : ByteArray) (p_laid : Bool) =>
  Option.bind (Go.Proofs.Ytfbdaedoofkcbab.GsL3One.P (Go.Proofs.Ytfbdaedoofkcbab.PPaper.Paper.mk p_id p_thick p_tint p_mark p_laid)) fun (t_3 : Bool) =>
  some t_3

set_option maxRecDepth 100000 in
set_option maxHeartbeats 2000000 in
theorem C (p : Go.Proofs.Ytfbdaedoofkcbab.PPaper.Paper)   (w : World)   {r : Bool} (H : Hid (P p = some r)) :
    Calls Try.prog 30 #[p.val] w (Gives (.bool r) w) := by
  have HB := Lib.hid (Below.refl w.heap.size w)
  unfold P at H
  obtain ⟨p_id, p_thick, p_tint, p_mark, p_laid⟩ := p
  replace H := unPaper_hid H
  unfold Go.Proofs.Ytfbdaedoofkcbab.PPaper.Paper.val
  go_enter Try.func30, Try.ntmps30
  obtain ⟨w_p_0, hw_p_0⟩ : ∃ x, w.alloc (.cells #[.int .i64 p_id, .int .i64 p_thick, .int .i64 p_tint, .string p_mark, .bool p_laid] 44) = x := ⟨_, rfl⟩
  have bw_p_0 : Below w.heap.size w w_p_0 := by rw [← hw_p_0]; exact (Below.refl _ _).alloc (Nat.le_refl _) _
  have HBw_p_0 := Lib.hid (Below.step HB.out bw_p_0)
  clear bw_p_0
  have kp_0_0 : w_p_0.cell? ⟨w.heap.size, 0, none⟩ = some (.int .i64 p_id) := by rw [← hw_p_0]; exact box_new _ _ _ 0 _ rfl
  have kp_0_1 : w_p_0.cell? ⟨w.heap.size, 1, none⟩ = some (.int .i64 p_thick) := by rw [← hw_p_0]; exact box_new _ _ _ 1 _ rfl
  have kp_0_2 : w_p_0.cell? ⟨w.heap.size, 2, none⟩ = some (.int .i64 p_tint) := by rw [← hw_p_0]; exact box_new _ _ _ 2 _ rfl
  have kp_0_3 : w_p_0.cell? ⟨w.heap.size, 3, none⟩ = some (.string p_mark) := by rw [← hw_p_0]; exact box_new _ _ _ 3 _ rfl
  have kp_0_4 : w_p_0.cell? ⟨w.heap.size, 4, none⟩ = some (.bool p_laid) := by rw [← hw_p_0]; exact box_new _ _ _ 4 _ rfl
  replace H := bind_hid H
  obtain ⟨t_3, qt_3, H⟩ := H
  go_wp2_with fail
  go_at_call 59
  refine (Go.Proofs.Ytfbdaedoofkcbab.GsL3One.C ((Go.Proofs.Ytfbdaedoofkcbab.PPaper.Paper.mk p_id p_thick p_tint p_mark p_laid))  _  qt_3).mono ?_
  rintro e_t_3 wt_3 ⟨rfl, bt_3⟩
  have HBwt_3 := Lib.hid (Below.step HBw_p_0.out bt_3)
  replace kp_0_0 := cell_below bt_3 kp_0_0
  replace kp_0_1 := cell_below bt_3 kp_0_1
  replace kp_0_2 := cell_below bt_3 kp_0_2
  replace kp_0_3 := cell_below bt_3 kp_0_3
  replace kp_0_4 := cell_below bt_3 kp_0_4
  clear bt_3
  obtain rfl := ret_hid H
  go_wp2_with fail
  go_ret
  exact ⟨rfl, HBwt_3.out⟩
end Go.Proofs.Ytfbdaedoofkcbab.GsIsPaper
