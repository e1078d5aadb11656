/- loop.example/g01062/laws.FnExactIsStamp as a plain function, and the contract of the program's: where the plain one has an answer, the program has it. Conditions: slices read as lists. -/
import Derived.Test.YtfbdaedoofkcbaaChecked
import Derived.Test.YtfbdaedoofkcbaaGoM
import Derived.Test.YtfbdaedoofkcbaaGoRStamp
import Derived.Test.YtfbdaedoofkcbaaGlToStamp
import Derived.Test.YtfbdaedoofkcbaaGsIsStamp
import Derived.Test.YtfbdaedoofkcbaaGiIsStamp
import Derived.WalkKit
import Derived.WalkSpells
import Derived.WalkLawsBesides
import Derived.BigQuiet
import Derived.OwnWalk
import Derived.Deep.LoopGhost
import Derived.Deep.QuietTactic
import Derived.IntWalk
import Derived.Lib.QuietBelow
namespace Go.Proofs.Ytfbdaedoofkcbaa.GlFnExactIsStamp
set_option linter.unusedVariables false
set_option linter.unusedSimpArgs false
open Go.RowKit
open Go.Proofs.Ytfbdaedoofkcbaa.Rowed Go.Proofs.Ytfbdaedoofkcbaa.Turn Go.Proofs.Ytfbdaedoofkcbaa.Aid Go.Proofs.Ytfbdaedoofkcbaa.GoP Go.Proofs.Ytfbdaedoofkcbaa.GoM

def P (aS : Go.Proofs.Ytfbdaedoofkcbaa.PlainStamp.St) : Option (Bool) :=
  unStamp aS fun (aS_id : Int) (aS_face : Int) (aS_color : Int) (aS_year : Int) =>
  Option.bind (Go.Proofs.Ytfbdaedoofkcbaa.GlToStamp.P (Go.Proofs.Ytfbdaedoofkcbaa.PlainStamp.St.mk aS_id aS_face aS_color aS_year)) fun (t_3 : Go.Proofs.Ytfbdaedoofkcbaa.PlainStamp.St) =>
  unStamp t_3 fun (t_3_id : Int) (t_3_face : Int) (t_3_color : Int) (t_3_year : Int) =>
  Option.bind (Go.Proofs.Ytfbdaedoofkcbaa.GsIsStamp.P (Go.Proofs.Ytfbdaedoofkcbaa.PlainStamp.St.mk t_3_id t_3_face t_3_color t_3_year)) fun (t_4 : Bool) =>
  Option.bind (Go.Proofs.Ytfbdaedoofkcbaa.GlToStamp.P (Go.Proofs.Ytfbdaedoofkcbaa.PlainStamp.St.mk aS_id aS_face aS_color aS_year)) fun (t_7 : Go.Proofs.Ytfbdaedoofkcbaa.PlainStamp.St) =>
  unStamp t_7 fun (t_7_id : Int) (t_7_face : Int) (t_7_color : Int) (t_7_year : Int) =>
  Option.bind (Go.Proofs.Ytfbdaedoofkcbaa.GiIsStamp.P (Go.Proofs.Ytfbdaedoofkcbaa.PlainStamp.St.mk t_7_id t_7_face t_7_color t_7_year)) fun (t_8 : Bool) =>
  letK (t_8 != t_4) fun (t_12 : Bool) =>
  iteK t_12
  (some false)
  (some true)

set_option maxRecDepth 100000 in
set_option maxHeartbeats 2000000 in
theorem C (aS : Go.Proofs.Ytfbdaedoofkcbaa.PlainStamp.St)   (w : World)   {r : Bool} (H : Hid (P aS = some r)) :
    Calls Try.prog 14 #[aS.val] w (Gives (.bool r) w) := by
  have HB := Lib.hid (Below.refl w.heap.size w)
  unfold P at H
  obtain ⟨aS_id, aS_face, aS_color, aS_year⟩ := aS
  replace H := unStamp_hid H
  unfold Go.Proofs.Ytfbdaedoofkcbaa.PlainStamp.St.val
  go_enter Try.func14, Try.ntmps14
  obtain ⟨w_aS_0, hw_aS_0⟩ : ∃ x, w.alloc (.cells #[.int .i64 aS_id, .int .i64 aS_face, .int .i64 aS_color, .int .i64 aS_year] 73) = x := ⟨_, rfl⟩
  have bw_aS_0 : Below w.heap.size w w_aS_0 := by rw [← hw_aS_0]; exact (Below.refl _ _).alloc (Nat.le_refl _) _
  have HBw_aS_0 := Lib.hid (Below.step HB.out bw_aS_0)
  clear bw_aS_0
  have kaS_0_0 : w_aS_0.cell? ⟨w.heap.size, 0, none⟩ = some (.int .i64 aS_id) := by rw [← hw_aS_0]; exact box_new _ _ _ 0 _ rfl
  have kaS_0_1 : w_aS_0.cell? ⟨w.heap.size, 1, none⟩ = some (.int .i64 aS_face) := by rw [← hw_aS_0]; exact box_new _ _ _ 1 _ rfl
  have kaS_0_2 : w_aS_0.cell? ⟨w.heap.size, 2, none⟩ = some (.int .i64 aS_color) := by rw [← hw_aS_0]; exact box_new _ _ _ 2 _ rfl
  have kaS_0_3 : w_aS_0.cell? ⟨w.heap.size, 3, none⟩ = some (.int .i64 aS_year) := by rw [← hw_aS_0]; exact box_new _ _ _ 3 _ rfl
  replace H := bind_hid H
  obtain ⟨t_3, qt_3, H⟩ := H
  obtain ⟨t_3_id, t_3_face, t_3_color, t_3_year⟩ := t_3
  replace H := unStamp_hid H
  go_wp2_with fail
  go_at_call 58
  refine (Go.Proofs.Ytfbdaedoofkcbaa.GlToStamp.C ((Go.Proofs.Ytfbdaedoofkcbaa.PlainStamp.St.mk aS_id aS_face aS_color aS_year))  _  qt_3).mono ?_
  rintro e_t_3 wt_3 ⟨rfl, bt_3⟩
  unfold Go.Proofs.Ytfbdaedoofkcbaa.PlainStamp.St.val
  have HBwt_3 := Lib.hid (Below.step HBw_aS_0.out bt_3)
  replace kaS_0_0 := cell_below bt_3 kaS_0_0
  replace kaS_0_1 := cell_below bt_3 kaS_0_1
  replace kaS_0_2 := cell_below bt_3 kaS_0_2
  replace kaS_0_3 := cell_below bt_3 kaS_0_3
  clear bt_3
  replace H := bind_hid H
  obtain ⟨t_4, qt_4, H⟩ := H
  go_wp2_with fail
  go_at_call 57
  refine (Go.Proofs.Ytfbdaedoofkcbaa.GsIsStamp.C ((Go.Proofs.Ytfbdaedoofkcbaa.PlainStamp.St.mk t_3_id t_3_face t_3_color t_3_year))  _  qt_4).mono ?_
  rintro e_t_4 wt_4 ⟨rfl, bt_4⟩
  have HBwt_4 := Lib.hid (Below.step HBwt_3.out bt_4)
  replace kaS_0_0 := cell_below bt_4 kaS_0_0
  replace kaS_0_1 := cell_below bt_4 kaS_0_1
  replace kaS_0_2 := cell_below bt_4 kaS_0_2
  replace kaS_0_3 := cell_below bt_4 kaS_0_3
  clear bt_4
  replace H := bind_hid H
  obtain ⟨t_7, qt_7, H⟩ := H
  obtain ⟨t_7_id, t_7_face, t_7_color, t_7_year⟩ := t_7
  replace H := unStamp_hid H
  go_wp2_with fail
  go_at_call 58
  refine (Go.Proofs.Ytfbdaedoofkcbaa.GlToStamp.C ((Go.Proofs.Ytfbdaedoofkcbaa.PlainStamp.St.mk aS_id aS_face aS_color aS_year))  _  qt_7).mono ?_
  rintro e_t_7 wt_7 ⟨rfl, bt_7⟩
  unfold Go.Proofs.Ytfbdaedoofkcbaa.PlainStamp.St.val
  have HBwt_7 := Lib.hid (Below.step HBwt_4.out bt_7)
  replace kaS_0_0 := cell_below bt_7 kaS_0_0
  replace kaS_0_1 := cell_below bt_7 kaS_0_1
  replace kaS_0_2 := cell_below bt_7 kaS_0_2
  replace kaS_0_3 := cell_below bt_7 kaS_0_3
  clear bt_7
  replace H := bind_hid H
  obtain ⟨t_8, qt_8, H⟩ := H
  go_wp2_with fail
  go_at_call 59
  refine (Go.Proofs.Ytfbdaedoofkcbaa.GiIsStamp.C ((Go.Proofs.Ytfbdaedoofkcbaa.PlainStamp.St.mk t_7_id t_7_face t_7_color t_7_year))  _  qt_8).mono ?_
  rintro e_t_8 wt_8 ⟨rfl, bt_8⟩
  have HBwt_8 := Lib.hid (Below.step HBwt_7.out bt_8)
  replace kaS_0_0 := cell_below bt_8 kaS_0_0
  replace kaS_0_1 := cell_below bt_8 kaS_0_1
  replace kaS_0_2 := cell_below bt_8 kaS_0_2
  replace kaS_0_3 := cell_below bt_8 kaS_0_3
  clear bt_8
  cases t_8 with
  | false =>
    cases t_4 with
    | false =>
      replace H := let_hid H
      obtain ⟨t_12, ht_12, H⟩ := H
      obtain rfl : t_12 = false := ht_12.symm
      replace H := ite_f H
      obtain rfl := ret_hid H
      go_wp2_with fail
      go_ret
      exact ⟨rfl, HBwt_8.out⟩
    | true =>
      replace H := let_hid H
      obtain ⟨t_12, ht_12, H⟩ := H
      obtain rfl : t_12 = true := ht_12.symm
      replace H := ite_t H
      obtain rfl := ret_hid H
      go_wp2_with fail
      go_ret
      exact ⟨rfl, HBwt_8.out⟩
  | true =>
    cases t_4 with
    | false =>
      replace H := let_hid H
      obtain ⟨t_12, ht_12, H⟩ := H
      obtain rfl : t_12 = true := ht_12.symm
      replace H := ite_t H
      obtain rfl := ret_hid H
      go_wp2_with fail
      go_ret
      exact ⟨rfl, HBwt_8.out⟩
    | true =>
      replace H := let_hid H
      obtain ⟨t_12, ht_12, H⟩ := H
      obtain rfl : t_12 = false := ht_12.symm
      replace H := ite_f H
      obtain rfl := ret_hid H
      go_wp2_with fail
      go_ret
      exact ⟨rfl, HBwt_8.out⟩
end Go.Proofs.Ytfbdaedoofkcbaa.GlFnExactIsStamp
