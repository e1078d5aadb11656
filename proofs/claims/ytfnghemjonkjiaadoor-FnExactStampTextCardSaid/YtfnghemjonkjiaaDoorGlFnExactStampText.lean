/- loop.example/g01062/laws.FnExactStampText as a plain function, and the contract of the program's: where the plain one has an answer, the program has it. Conditions: slices read as lists. -/
import Derived.Test.YtfnghemjonkjiaaDoorChecked
import Derived.Test.YtfnghemjonkjiaaDoorGoM
import Derived.Test.YtfnghemjonkjiaaDoorTab
import Derived.Test.YtfnghemjonkjiaaDoorGoRStamp
import Derived.Test.YtfnghemjonkjiaaDoorGlToStamp
import Derived.Test.YtfnghemjonkjiaaDoorGsStampText
import Derived.Test.YtfnghemjonkjiaaDoorGiStampText
import Derived.WalkKit
import Derived.WalkSpells
import Derived.WalkLawsBesides
import Derived.BigQuiet
import Derived.OwnWalk
import Derived.Deep.LoopGhost
import Derived.Deep.QuietTactic
import Derived.IntWalk
import Derived.Lib.QuietBelow
namespace Go.Proofs.YtfnghemjonkjiaaDoor.GlFnExactStampText
set_option linter.unusedVariables false
set_option linter.unusedSimpArgs false
open Go.RowKit
open Go.Proofs.YtfnghemjonkjiaaDoor.Rowed Go.Proofs.YtfnghemjonkjiaaDoor.Turn Go.Proofs.YtfnghemjonkjiaaDoor.Aid Go.Proofs.YtfnghemjonkjiaaDoor.GoP Go.Proofs.YtfnghemjonkjiaaDoor.GoM Go.Proofs.YtfnghemjonkjiaaDoor.Tab

def P (aS : Go.Proofs.YtfnghemjonkjiaaDoor.PlainStamp.St) : Option (Bool) :=
  unStamp aS fun (aS_id : Int) (aS_face : Int) (aS_color : Int) (aS_year : Int) =>
  Option.bind (Go.Proofs.YtfnghemjonkjiaaDoor.GlToStamp.P (Go.Proofs.YtfnghemjonkjiaaDoor.PlainStamp.St.mk aS_id aS_face aS_color aS_year)) fun (t_3 : Go.Proofs.YtfnghemjonkjiaaDoor.PlainStamp.St) =>
  unStamp t_3 fun (t_3_id : Int) (t_3_face : Int) (t_3_color : Int) (t_3_year : Int) =>
  bind2 (Go.Proofs.YtfnghemjonkjiaaDoor.GsStampText.P (Go.Proofs.YtfnghemjonkjiaaDoor.PlainStamp.St.mk t_3_id t_3_face t_3_color t_3_year)) fun (t_4a : ByteArray) (t_4b : Bool) =>
  Option.bind (Go.Proofs.YtfnghemjonkjiaaDoor.GlToStamp.P (Go.Proofs.YtfnghemjonkjiaaDoor.PlainStamp.St.mk aS_id aS_face aS_color aS_year)) fun (t_11 : Go.Proofs.YtfnghemjonkjiaaDoor.PlainStamp.St) =>
  unStamp t_11 fun (t_11_id : Int) (t_11_face : Int) (t_11_color : Int) (t_11_year : Int) =>
  bind2 (Go.Proofs.YtfnghemjonkjiaaDoor.GiStampText.P (Go.Proofs.YtfnghemjonkjiaaDoor.PlainStamp.St.mk t_11_id t_11_face t_11_color t_11_year)) fun (t_12a : ByteArray) (t_12b : Bool) =>
  letK (!(t_12a.toList == t_4a.toList)) fun (t_20 : Bool) =>
  joinK (fun (t_25 : Bool) =>
  iteK t_25
  (some false)
  (some true)) fun jt_25 => iteK t_20 (appK jt_25 true) (letK (!(t_12b == t_4b)) fun (t_24 : Bool) =>
  appK jt_25 t_24)

set_option maxRecDepth 100000 in
set_option maxHeartbeats 2000000 in
theorem C (aS : Go.Proofs.YtfnghemjonkjiaaDoor.PlainStamp.St)   (w : World) (HT : Hid (Tab w))   {r : Bool} (H : Hid (P aS = some r)) :
    Calls Tryd.prog 3 #[aS.val] w (Gives (.bool r) w) := by
  have HB := Lib.hid (Below.refl w.heap.size w)
  unfold P at H
  obtain ⟨aS_id, aS_face, aS_color, aS_year⟩ := aS
  replace H := unStamp_hid H
  unfold Go.Proofs.YtfnghemjonkjiaaDoor.PlainStamp.St.val
  go_enter Tryd.func3, Tryd.ntmps3
  obtain ⟨w_aS_0, hw_aS_0⟩ : ∃ x, w.alloc (.cells #[.int .i64 aS_id, .int .i64 aS_face, .int .i64 aS_color, .int .i64 aS_year] 23) = x := ⟨_, rfl⟩
  have bw_aS_0 : Below w.heap.size w w_aS_0 := by rw [← hw_aS_0]; exact (Below.refl _ _).alloc (Nat.le_refl _) _
  have HBw_aS_0 := Lib.hid (Below.step HB.out bw_aS_0)
  clear bw_aS_0
  have kaS_0_0 : w_aS_0.cell? ⟨w.heap.size, 0, none⟩ = some (.int .i64 aS_id) := by rw [← hw_aS_0]; exact box_new _ _ _ 0 _ rfl
  have kaS_0_1 : w_aS_0.cell? ⟨w.heap.size, 1, none⟩ = some (.int .i64 aS_face) := by rw [← hw_aS_0]; exact box_new _ _ _ 1 _ rfl
  have kaS_0_2 : w_aS_0.cell? ⟨w.heap.size, 2, none⟩ = some (.int .i64 aS_color) := by rw [← hw_aS_0]; exact box_new _ _ _ 2 _ rfl
  have kaS_0_3 : w_aS_0.cell? ⟨w.heap.size, 3, none⟩ = some (.int .i64 aS_year) := by rw [← hw_aS_0]; exact box_new _ _ _ 3 _ rfl
  replace H := bind_hid H
  obtain ⟨t_3, qt_3, H⟩ := H
  obtain ⟨t_3_id, t_3_face, t_3_color, t_3_year⟩ := t_3
  replace H := unStamp_hid H
  go_wp2_with fail
  go_at_call 5
  refine (Go.Proofs.YtfnghemjonkjiaaDoor.GlToStamp.C ((Go.Proofs.YtfnghemjonkjiaaDoor.PlainStamp.St.mk aS_id aS_face aS_color aS_year))  _    qt_3).mono ?_
  rintro e_t_3 wt_3 ⟨rfl, bt_3⟩
  unfold Go.Proofs.YtfnghemjonkjiaaDoor.PlainStamp.St.val
  have HBwt_3 := Lib.hid (Below.step HBw_aS_0.out bt_3)
  replace kaS_0_0 := cell_below bt_3 kaS_0_0
  replace kaS_0_1 := cell_below bt_3 kaS_0_1
  replace kaS_0_2 := cell_below bt_3 kaS_0_2
  replace kaS_0_3 := cell_below bt_3 kaS_0_3
  clear bt_3
  replace H := bind2_hid H
  obtain ⟨t_4a, t_4b, qt_4, H⟩ := H
  go_wp2_with fail
  go_at_call 4
  refine (Go.Proofs.YtfnghemjonkjiaaDoor.GsStampText.C ((Go.Proofs.YtfnghemjonkjiaaDoor.PlainStamp.St.mk t_3_id t_3_face t_3_color t_3_year))  _    qt_4).mono ?_
  rintro e_t_4 wt_4 ⟨rfl, bt_4⟩
  have HBwt_4 := Lib.hid (Below.step HBwt_3.out bt_4)
  replace kaS_0_0 := cell_below bt_4 kaS_0_0
  replace kaS_0_1 := cell_below bt_4 kaS_0_1
  replace kaS_0_2 := cell_below bt_4 kaS_0_2
  replace kaS_0_3 := cell_below bt_4 kaS_0_3
  clear bt_4
  replace H := bind_hid H
  obtain ⟨t_11, qt_11, H⟩ := H
  obtain ⟨t_11_id, t_11_face, t_11_color, t_11_year⟩ := t_11
  replace H := unStamp_hid H
  go_wp2_with fail
  go_at_call 5
  refine (Go.Proofs.YtfnghemjonkjiaaDoor.GlToStamp.C ((Go.Proofs.YtfnghemjonkjiaaDoor.PlainStamp.St.mk aS_id aS_face aS_color aS_year))  _    qt_11).mono ?_
  rintro e_t_11 wt_11 ⟨rfl, bt_11⟩
  unfold Go.Proofs.YtfnghemjonkjiaaDoor.PlainStamp.St.val
  have HBwt_11 := Lib.hid (Below.step HBwt_4.out bt_11)
  replace kaS_0_0 := cell_below bt_11 kaS_0_0
  replace kaS_0_1 := cell_below bt_11 kaS_0_1
  replace kaS_0_2 := cell_below bt_11 kaS_0_2
  replace kaS_0_3 := cell_below bt_11 kaS_0_3
  clear bt_11
  replace H := bind2_hid H
  obtain ⟨t_12a, t_12b, qt_12, H⟩ := H
  go_wp2_with fail
  go_at_call 6
  refine (Go.Proofs.YtfnghemjonkjiaaDoor.GiStampText.C ((Go.Proofs.YtfnghemjonkjiaaDoor.PlainStamp.St.mk t_11_id t_11_face t_11_color t_11_year))  _ (tab_below HBwt_11.out HT)   qt_12).mono ?_
  rintro e_t_12 wt_12 ⟨rfl, bt_12⟩
  have HBwt_12 := Lib.hid (Below.step HBwt_11.out bt_12)
  replace kaS_0_0 := cell_below bt_12 kaS_0_0
  replace kaS_0_1 := cell_below bt_12 kaS_0_1
  replace kaS_0_2 := cell_below bt_12 kaS_0_2
  replace kaS_0_3 := cell_below bt_12 kaS_0_3
  clear bt_12
  replace H := let_hid H
  obtain ⟨t_20, ht_20, H⟩ := H
  replace H := join_hid H
  cases t_20 with
  | false =>
    replace H := ite_f H
    replace H := let_hid H
    obtain ⟨t_24, ht_24, H⟩ := H
    replace H := app_hid H
    cases t_24 with
    | false =>
      replace H := ite_f H
      obtain rfl := ret_hid H
      go_wp2_with fail
      go_ret
      exact ⟨rfl, HBwt_12.out⟩
    | true =>
      replace H := ite_t H
      obtain rfl := ret_hid H
      go_wp2_with fail
      go_ret
      exact ⟨rfl, HBwt_12.out⟩
  | true =>
    replace H := ite_t H
    replace H := app_hid H
    replace H := ite_t H
    obtain rfl := ret_hid H
    go_wp2_with fail
    go_ret
    exact ⟨rfl, HBwt_12.out⟩
end Go.Proofs.YtfnghemjonkjiaaDoor.GlFnExactStampText
