/- loop.example/g01062/laws.FnExactShadeText as a plain function, and the contract of the program's: where the plain one has an answer, the program has it. Conditions: slices read as lists. -/
import Derived.Test.YtpbbechgpgnpbaaDoorChecked
import Derived.Test.YtpbbechgpgnpbaaDoorGoM
import Derived.Test.YtpbbechgpgnpbaaDoorTab
import Derived.Test.YtpbbechgpgnpbaaDoorGoRShade
import Derived.Test.YtpbbechgpgnpbaaDoorGlSzShade
import Derived.Test.YtpbbechgpgnpbaaDoorGlToShade
import Derived.Test.YtpbbechgpgnpbaaDoorGsShadeText
import Derived.Test.YtpbbechgpgnpbaaDoorGiShadeText
import Derived.WalkKit
import Derived.WalkSpells
import Derived.WalkLawsBesides
import Derived.BigQuiet
import Derived.OwnWalk
import Derived.Deep.LoopGhost
import Derived.Deep.QuietTactic
import Derived.IntWalk
import Derived.Lib.QuietBelow
namespace Go.Proofs.YtpbbechgpgnpbaaDoor.GlFnExactShadeText
set_option linter.unusedVariables false
set_option linter.unusedSimpArgs false
open Go.RowKit
open Go.Proofs.YtpbbechgpgnpbaaDoor.Rowed Go.Proofs.YtpbbechgpgnpbaaDoor.Turn Go.Proofs.YtpbbechgpgnpbaaDoor.Aid Go.Proofs.YtpbbechgpgnpbaaDoor.GoP Go.Proofs.YtpbbechgpgnpbaaDoor.GoM Go.Proofs.YtpbbechgpgnpbaaDoor.Tab

def P (aX : Go.Proofs.YtpbbechgpgnpbaaDoor.PShade.Shade) : Option (Bool) :=
  unShade aX fun (aX_name : ByteArray) (aX_hue : Int) (aX_width : Int) (aX_dark : Int) (aX_light : Int) =>
  Option.bind (Go.Proofs.YtpbbechgpgnpbaaDoor.GlSzShade.P (Go.Proofs.YtpbbechgpgnpbaaDoor.PShade.Shade.mk aX_name aX_hue aX_width aX_dark aX_light) 1048576) fun (t_5 : Int) =>
  letK (decide (t_5 < 0)) fun (t_8 : Bool) =>
  iteK t_8
  (some true)
  (Option.bind (Go.Proofs.YtpbbechgpgnpbaaDoor.GlToShade.P (Go.Proofs.YtpbbechgpgnpbaaDoor.PShade.Shade.mk aX_name aX_hue aX_width aX_dark aX_light)) fun (t_11 : Go.Proofs.YtpbbechgpgnpbaaDoor.PShade.Shade) =>
  unShade t_11 fun (t_11_name : ByteArray) (t_11_hue : Int) (t_11_width : Int) (t_11_dark : Int) (t_11_light : Int) =>
  bind2 (Go.Proofs.YtpbbechgpgnpbaaDoor.GsShadeText.P (Go.Proofs.YtpbbechgpgnpbaaDoor.PShade.Shade.mk t_11_name t_11_hue t_11_width t_11_dark t_11_light)) fun (t_12a : ByteArray) (t_12b : Bool) =>
  Option.bind (Go.Proofs.YtpbbechgpgnpbaaDoor.GlToShade.P (Go.Proofs.YtpbbechgpgnpbaaDoor.PShade.Shade.mk aX_name aX_hue aX_width aX_dark aX_light)) fun (t_19 : Go.Proofs.YtpbbechgpgnpbaaDoor.PShade.Shade) =>
  unShade t_19 fun (t_19_name : ByteArray) (t_19_hue : Int) (t_19_width : Int) (t_19_dark : Int) (t_19_light : Int) =>
  bind2 (Go.Proofs.YtpbbechgpgnpbaaDoor.GiShadeText.P (Go.Proofs.YtpbbechgpgnpbaaDoor.PShade.Shade.mk t_19_name t_19_hue t_19_width t_19_dark t_19_light)) fun (t_20a : ByteArray) (t_20b : Bool) =>
  letK (!(t_20a.toList == t_12a.toList)) fun (t_28 : Bool) =>
  joinK (fun (t_33 : Bool) =>
  iteK t_33
  (some false)
  (some true)) fun jt_33 => iteK t_28 (appK jt_33 true) (letK (!(t_20b == t_12b)) fun (t_32 : Bool) =>
  appK jt_33 t_32))

set_option maxRecDepth 100000 in
set_option maxHeartbeats 2000000 in
theorem C (aX : Go.Proofs.YtpbbechgpgnpbaaDoor.PShade.Shade)   (w : World) (HT : Hid (Tab w))   {r : Bool} (H : Hid (P aX = some r)) :
    Calls Tryd.prog 3 #[aX.val] w (Gives (.bool r) w) := by
  have HB := Lib.hid (Below.refl w.heap.size w)
  unfold P at H
  obtain ⟨aX_name, aX_hue, aX_width, aX_dark, aX_light⟩ := aX
  replace H := unShade_hid H
  unfold Go.Proofs.YtpbbechgpgnpbaaDoor.PShade.Shade.val
  go_enter Tryd.func3, Tryd.ntmps3
  obtain ⟨w_aX_0, hw_aX_0⟩ : ∃ x, w.alloc (.cells #[.string aX_name, .int .i64 aX_hue, .int .i64 aX_width, .int .i64 aX_dark, .int .i64 aX_light] 23) = x := ⟨_, rfl⟩
  have bw_aX_0 : Below w.heap.size w w_aX_0 := by rw [← hw_aX_0]; exact (Below.refl _ _).alloc (Nat.le_refl _) _
  have HBw_aX_0 := Lib.hid (Below.step HB.out bw_aX_0)
  clear bw_aX_0
  have kaX_0_0 : w_aX_0.cell? ⟨w.heap.size, 0, none⟩ = some (.string aX_name) := by rw [← hw_aX_0]; exact box_new _ _ _ 0 _ rfl
  have kaX_0_1 : w_aX_0.cell? ⟨w.heap.size, 1, none⟩ = some (.int .i64 aX_hue) := by rw [← hw_aX_0]; exact box_new _ _ _ 1 _ rfl
  have kaX_0_2 : w_aX_0.cell? ⟨w.heap.size, 2, none⟩ = some (.int .i64 aX_width) := by rw [← hw_aX_0]; exact box_new _ _ _ 2 _ rfl
  have kaX_0_3 : w_aX_0.cell? ⟨w.heap.size, 3, none⟩ = some (.int .i64 aX_dark) := by rw [← hw_aX_0]; exact box_new _ _ _ 3 _ rfl
  have kaX_0_4 : w_aX_0.cell? ⟨w.heap.size, 4, none⟩ = some (.int .i64 aX_light) := by rw [← hw_aX_0]; exact box_new _ _ _ 4 _ rfl
  replace H := bind_hid H
  obtain ⟨t_5, qt_5, H⟩ := H
  go_wp2_with fail
  go_at_call 5
  refine (Go.Proofs.YtpbbechgpgnpbaaDoor.GlSzShade.C ((Go.Proofs.YtpbbechgpgnpbaaDoor.PShade.Shade.mk aX_name aX_hue aX_width aX_dark aX_light)) (1048576)  _    qt_5).mono ?_
  rintro e_t_5 wt_5 ⟨rfl, bt_5⟩
  have HBwt_5 := Lib.hid (Below.step HBw_aX_0.out bt_5)
  replace kaX_0_0 := cell_below bt_5 kaX_0_0
  replace kaX_0_1 := cell_below bt_5 kaX_0_1
  replace kaX_0_2 := cell_below bt_5 kaX_0_2
  replace kaX_0_3 := cell_below bt_5 kaX_0_3
  replace kaX_0_4 := cell_below bt_5 kaX_0_4
  clear bt_5
  replace H := let_hid H
  obtain ⟨t_8, ht_8, H⟩ := H
  cases t_8 with
  | false =>
    replace H := ite_f H
    replace H := bind_hid H
    obtain ⟨t_11, qt_11, H⟩ := H
    obtain ⟨t_11_name, t_11_hue, t_11_width, t_11_dark, t_11_light⟩ := t_11
    replace H := unShade_hid H
    go_wp2_with fail
    go_at_call 7
    refine (Go.Proofs.YtpbbechgpgnpbaaDoor.GlToShade.C ((Go.Proofs.YtpbbechgpgnpbaaDoor.PShade.Shade.mk aX_name aX_hue aX_width aX_dark aX_light))  _    qt_11).mono ?_
    rintro e_t_11 wt_11 ⟨rfl, bt_11⟩
    unfold Go.Proofs.YtpbbechgpgnpbaaDoor.PShade.Shade.val
    have HBwt_11 := Lib.hid (Below.step HBwt_5.out bt_11)
    replace kaX_0_0 := cell_below bt_11 kaX_0_0
    replace kaX_0_1 := cell_below bt_11 kaX_0_1
    replace kaX_0_2 := cell_below bt_11 kaX_0_2
    replace kaX_0_3 := cell_below bt_11 kaX_0_3
    replace kaX_0_4 := cell_below bt_11 kaX_0_4
    clear bt_11
    replace H := bind2_hid H
    obtain ⟨t_12a, t_12b, qt_12, H⟩ := H
    go_wp2_with fail
    go_at_call 6
    refine (Go.Proofs.YtpbbechgpgnpbaaDoor.GsShadeText.C ((Go.Proofs.YtpbbechgpgnpbaaDoor.PShade.Shade.mk t_11_name t_11_hue t_11_width t_11_dark t_11_light))  _    qt_12).mono ?_
    rintro e_t_12 wt_12 ⟨rfl, bt_12⟩
    have HBwt_12 := Lib.hid (Below.step HBwt_11.out bt_12)
    replace kaX_0_0 := cell_below bt_12 kaX_0_0
    replace kaX_0_1 := cell_below bt_12 kaX_0_1
    replace kaX_0_2 := cell_below bt_12 kaX_0_2
    replace kaX_0_3 := cell_below bt_12 kaX_0_3
    replace kaX_0_4 := cell_below bt_12 kaX_0_4
    clear bt_12
    replace H := bind_hid H
    obtain ⟨t_19, qt_19, H⟩ := H
    obtain ⟨t_19_name, t_19_hue, t_19_width, t_19_dark, t_19_light⟩ := t_19
    replace H := unShade_hid H
    go_wp2_with fail
    go_at_call 7
    refine (Go.Proofs.YtpbbechgpgnpbaaDoor.GlToShade.C ((Go.Proofs.YtpbbechgpgnpbaaDoor.PShade.Shade.mk aX_name aX_hue aX_width aX_dark aX_light))  _    qt_19).mono ?_
    rintro e_t_19 wt_19 ⟨rfl, bt_19⟩
    unfold Go.Proofs.YtpbbechgpgnpbaaDoor.PShade.Shade.val
    have HBwt_19 := Lib.hid (Below.step HBwt_12.out bt_19)
    replace kaX_0_0 := cell_below bt_19 kaX_0_0
    replace kaX_0_1 := cell_below bt_19 kaX_0_1
    replace kaX_0_2 := cell_below bt_19 kaX_0_2
    replace kaX_0_3 := cell_below bt_19 kaX_0_3
    replace kaX_0_4 := cell_below bt_19 kaX_0_4
    clear bt_19
    replace H := bind2_hid H
    obtain ⟨t_20a, t_20b, qt_20, H⟩ := H
    go_wp2_with fail
    go_at_call 8
    refine (Go.Proofs.YtpbbechgpgnpbaaDoor.GiShadeText.C ((Go.Proofs.YtpbbechgpgnpbaaDoor.PShade.Shade.mk t_19_name t_19_hue t_19_width t_19_dark t_19_light))  _ (tab_below HBwt_19.out HT)   qt_20).mono ?_
    rintro e_t_20 wt_20 ⟨rfl, bt_20⟩
    have HBwt_20 := Lib.hid (Below.step HBwt_19.out bt_20)
    replace kaX_0_0 := cell_below bt_20 kaX_0_0
    replace kaX_0_1 := cell_below bt_20 kaX_0_1
    replace kaX_0_2 := cell_below bt_20 kaX_0_2
    replace kaX_0_3 := cell_below bt_20 kaX_0_3
    replace kaX_0_4 := cell_below bt_20 kaX_0_4
    clear bt_20
    replace H := let_hid H
    obtain ⟨t_28, ht_28, H⟩ := H
    replace H := join_hid H
    cases t_28 with
    | false =>
      replace H := ite_f H
      replace H := let_hid H
      obtain ⟨t_32, ht_32, H⟩ := H
      replace H := app_hid H
      cases t_32 with
      | false =>
        replace H := ite_f H
        obtain rfl := ret_hid H
        go_wp2_with fail
        go_ret
        exact ⟨rfl, HBwt_20.out⟩
      | true =>
        replace H := ite_t H
        obtain rfl := ret_hid H
        go_wp2_with fail
        go_ret
        exact ⟨rfl, HBwt_20.out⟩
    | true =>
      replace H := ite_t H
      replace H := app_hid H
      replace H := ite_t H
      obtain rfl := ret_hid H
      go_wp2_with fail
      go_ret
      exact ⟨rfl, HBwt_20.out⟩
  | true =>
    replace H := ite_t H
    obtain rfl := ret_hid H
    go_wp2_with fail
    go_ret
    exact ⟨rfl, HBwt_5.out⟩
end Go.Proofs.YtpbbechgpgnpbaaDoor.GlFnExactShadeText
