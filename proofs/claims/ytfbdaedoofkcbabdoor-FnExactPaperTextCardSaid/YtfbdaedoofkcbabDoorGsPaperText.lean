/- loop.example/g01062/spec.PaperText as a plain function, and the contract of the program's: where the plain one has an answer, the program has it. Conditions: slices read as lists. -/
import Derived.Test.YtfbdaedoofkcbabDoorChecked
import Derived.Test.YtfbdaedoofkcbabDoorGoM
import Derived.Test.YtfbdaedoofkcbabDoorGoRPaper
import Derived.Test.YtfbdaedoofkcbabDoorGsL3One
import Derived.Test.YtfbdaedoofkcbabDoorGsL3Text
import Derived.WalkKit
import Derived.WalkSpells
import Derived.WalkLawsBesides
import Derived.BigQuiet
import Derived.OwnWalk
import Derived.Deep.LoopGhost
import Derived.Deep.QuietTactic
import Derived.IntWalk
import Derived.Lib.QuietBelow
namespace Go.Proofs.YtfbdaedoofkcbabDoor.GsPaperText
set_option linter.unusedVariables false
set_option linter.unusedSimpArgs false
open Go.RowKit
open Go.Proofs.YtfbdaedoofkcbabDoor.Rowed Go.Proofs.YtfbdaedoofkcbabDoor.Turn Go.Proofs.YtfbdaedoofkcbabDoor.Aid Go.Proofs.YtfbdaedoofkcbabDoor.GoP Go.Proofs.YtfbdaedoofkcbabDoor.GoM

def P (p : Go.Proofs.YtfbdaedoofkcbabDoor.PPaper.Paper) : Option (ByteArray × Bool) :=
  unPaper p fun (p_id : Int) (p_thick : Int) (p_tint : Int) (p_mark : ByteArray) (p_laid : Bool) =>
  Option.bind (Go.Proofs.YtfbdaedoofkcbabDoor.GsL3One.P (Go.Proofs.YtfbdaedoofkcbabDoor.PPaper.Paper.mk p_id p_thick p_tint p_mark p_laid)) fun (t_4 : Bool) =>
  letK (!t_4) fun (t_5 : Bool) =>
  iteK t_5
  (some ((⟨#[]⟩ : ByteArray), false))
  (Option.bind (Go.Proofs.YtfbdaedoofkcbabDoor.GsL3Text.P (Go.Proofs.YtfbdaedoofkcbabDoor.PPaper.Paper.mk p_id p_thick p_tint p_mark p_laid)) fun (t_9 : ByteArray) =>
  some (t_9, true))

set_option maxRecDepth 100000 in
set_option maxHeartbeats 2000000 in
theorem C (p : Go.Proofs.YtfbdaedoofkcbabDoor.PPaper.Paper)   (w : World)   {r0 : ByteArray} {r1 : Bool} (H : Hid (P p = some (r0, r1))) :
    Calls Tryd.prog 9 #[p.val] w (Gives (.tuple #[.string r0, .bool r1]) w) := by
  have HB := Lib.hid (Below.refl w.heap.size w)
  unfold P at H
  obtain ⟨p_id, p_thick, p_tint, p_mark, p_laid⟩ := p
  replace H := unPaper_hid H
  unfold Go.Proofs.YtfbdaedoofkcbabDoor.PPaper.Paper.val
  go_enter Tryd.func9, Tryd.ntmps9
  obtain ⟨w_p_0, hw_p_0⟩ : ∃ x, w.alloc (.cells #[.int .i64 p_id, .int .i64 p_thick, .int .i64 p_tint, .string p_mark, .bool p_laid] 33) = x := ⟨_, rfl⟩
  have bw_p_0 : Below w.heap.size w w_p_0 := by rw [← hw_p_0]; exact (Below.refl _ _).alloc (Nat.le_refl _) _
  have HBw_p_0 := Lib.hid (Below.step HB.out bw_p_0)
  clear bw_p_0
  have kp_0_0 : w_p_0.cell? ⟨w.heap.size, 0, none⟩ = some (.int .i64 p_id) := by rw [← hw_p_0]; exact box_new _ _ _ 0 _ rfl
  have kp_0_1 : w_p_0.cell? ⟨w.heap.size, 1, none⟩ = some (.int .i64 p_thick) := by rw [← hw_p_0]; exact box_new _ _ _ 1 _ rfl
  have kp_0_2 : w_p_0.cell? ⟨w.heap.size, 2, none⟩ = some (.int .i64 p_tint) := by rw [← hw_p_0]; exact box_new _ _ _ 2 _ rfl
  have kp_0_3 : w_p_0.cell? ⟨w.heap.size, 3, none⟩ = some (.string p_mark) := by rw [← hw_p_0]; exact box_new _ _ _ 3 _ rfl
  have kp_0_4 : w_p_0.cell? ⟨w.heap.size, 4, none⟩ = some (.bool p_laid) := by rw [← hw_p_0]; exact box_new _ _ _ 4 _ rfl
  replace H := bind_hid H
  obtain ⟨t_4, qt_4, H⟩ := H
  go_wp2_with fail
  go_at_call 17
  refine (Go.Proofs.YtfbdaedoofkcbabDoor.GsL3One.C ((Go.Proofs.YtfbdaedoofkcbabDoor.PPaper.Paper.mk p_id p_thick p_tint p_mark p_laid))  _   qt_4).mono ?_
  rintro e_t_4 wt_4 ⟨rfl, bt_4⟩
  have HBwt_4 := Lib.hid (Below.step HBw_p_0.out bt_4)
  replace kp_0_0 := cell_below bt_4 kp_0_0
  replace kp_0_1 := cell_below bt_4 kp_0_1
  replace kp_0_2 := cell_below bt_4 kp_0_2
  replace kp_0_3 := cell_below bt_4 kp_0_3
  replace kp_0_4 := cell_below bt_4 kp_0_4
  clear bt_4
  cases t_4 with
  | false =>
    replace H := let_hid H
    obtain ⟨t_5, ht_5, H⟩ := H
    obtain rfl : t_5 = true := ht_5.symm
    replace H := ite_t H
    cases ret_hid H
    go_wp2_with fail
    go_ret2
    exact ⟨rfl, HBwt_4.out⟩
  | true =>
    replace H := let_hid H
    obtain ⟨t_5, ht_5, H⟩ := H
    obtain rfl : t_5 = false := ht_5.symm
    replace H := ite_f H
    replace H := bind_hid H
    obtain ⟨t_9, qt_9, H⟩ := H
    go_wp2_with fail
    go_at_call 18
    refine (Go.Proofs.YtfbdaedoofkcbabDoor.GsL3Text.C ((Go.Proofs.YtfbdaedoofkcbabDoor.PPaper.Paper.mk p_id p_thick p_tint p_mark p_laid))  _   qt_9).mono ?_
    rintro e_t_9 wt_9 ⟨rfl, bt_9⟩
    have HBwt_9 := Lib.hid (Below.step HBwt_4.out bt_9)
    replace kp_0_0 := cell_below bt_9 kp_0_0
    replace kp_0_1 := cell_below bt_9 kp_0_1
    replace kp_0_2 := cell_below bt_9 kp_0_2
    replace kp_0_3 := cell_below bt_9 kp_0_3
    replace kp_0_4 := cell_below bt_9 kp_0_4
    clear bt_9
    cases ret_hid H
    go_wp2_with fail
    go_ret2
    exact ⟨rfl, HBwt_9.out⟩
end Go.Proofs.YtfbdaedoofkcbabDoor.GsPaperText
