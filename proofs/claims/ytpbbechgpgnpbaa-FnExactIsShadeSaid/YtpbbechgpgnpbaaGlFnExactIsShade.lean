/- loop.example/g01062/laws.FnExactIsShade as a plain function, and the contract of the program's: where the plain one has an answer, the program has it. Conditions: slices read as lists. -/
import Derived.Test.YtpbbechgpgnpbaaChecked
import Derived.Test.YtpbbechgpgnpbaaGoM
import Derived.Test.YtpbbechgpgnpbaaGoRShade
import Derived.Test.YtpbbechgpgnpbaaGlSzShade
import Derived.Test.YtpbbechgpgnpbaaGlToShade
import Derived.Test.YtpbbechgpgnpbaaGsIsShade
import Derived.Test.YtpbbechgpgnpbaaGiIsShade
import Derived.WalkKit
import Derived.WalkSpells
import Derived.WalkLawsBesides
import Derived.BigQuiet
import Derived.OwnWalk
import Derived.Deep.LoopGhost
import Derived.Deep.QuietTactic
import Derived.IntWalk
import Derived.Lib.QuietBelow
namespace Go.Proofs.Ytpbbechgpgnpbaa.GlFnExactIsShade
set_option linter.unusedVariables false
set_option linter.unusedSimpArgs false
open Go.RowKit
open Go.Proofs.Ytpbbechgpgnpbaa.Rowed Go.Proofs.Ytpbbechgpgnpbaa.Turn Go.Proofs.Ytpbbechgpgnpbaa.Aid Go.Proofs.Ytpbbechgpgnpbaa.GoP Go.Proofs.Ytpbbechgpgnpbaa.GoM

def P (aX : Go.Proofs.Ytpbbechgpgnpbaa.PShade.Shade) : Option (Bool) :=
  unShade aX fun (aX_name : ByteArray) (aX_hue : Int) (aX_width : Int) (aX_dark : Int) (aX_light : Int) =>
  Option.bind (Go.Proofs.Ytpbbechgpgnpbaa.GlSzShade.P (Go.Proofs.Ytpbbechgpgnpbaa.PShade.Shade.mk aX_name aX_hue aX_width aX_dark aX_light) 1048576) fun (t_5 : Int) =>
  letK (decide (t_5 < 0)) fun (t_8 : Bool) =>
  iteK t_8
  (some true)
  (Option.bind (Go.Proofs.Ytpbbechgpgnpbaa.GlToShade.P (Go.Proofs.Ytpbbechgpgnpbaa.PShade.Shade.mk aX_name aX_hue aX_width aX_dark aX_light)) fun (t_11 : Go.Proofs.Ytpbbechgpgnpbaa.PShade.Shade) =>
  unShade t_11 fun (t_11_name : ByteArray) (t_11_hue : Int) (t_11_width : Int) (t_11_dark : Int) (t_11_light : Int) =>
  Option.bind (Go.Proofs.Ytpbbechgpgnpbaa.GsIsShade.P (Go.Proofs.Ytpbbechgpgnpbaa.PShade.Shade.mk t_11_name t_11_hue t_11_width t_11_dark t_11_light)) fun (t_12 : Bool) =>
  Option.bind (Go.Proofs.Ytpbbechgpgnpbaa.GlToShade.P (Go.Proofs.Ytpbbechgpgnpbaa.PShade.Shade.mk aX_name aX_hue aX_width aX_dark aX_light)) fun (t_15 : Go.Proofs.Ytpbbechgpgnpbaa.PShade.Shade) =>
  unShade t_15 fun (t_15_name : ByteArray) (t_15_hue : Int) (t_15_width : Int) (t_15_dark : Int) (t_15_light : Int) =>
  Option.bind (Go.Proofs.Ytpbbechgpgnpbaa.GiIsShade.P (Go.Proofs.Ytpbbechgpgnpbaa.PShade.Shade.mk t_15_name t_15_hue t_15_width t_15_dark t_15_light)) fun (t_16 : Bool) =>
  letK (!(t_16 == t_12)) fun (t_20 : Bool) =>
  iteK t_20
  (some false)
  (some true))

set_option maxRecDepth 100000 in
set_option maxHeartbeats 2000000 in
theorem C (aX : Go.Proofs.Ytpbbechgpgnpbaa.PShade.Shade)   (w : World)   {r : Bool} (H : Hid (P aX = some r)) :
    Calls Try.prog 3 #[aX.val] w (Gives (.bool r) w) := by
  have HB := Lib.hid (Below.refl w.heap.size w)
  unfold P at H
  obtain ⟨aX_name, aX_hue, aX_width, aX_dark, aX_light⟩ := aX
  replace H := unShade_hid H
  unfold Go.Proofs.Ytpbbechgpgnpbaa.PShade.Shade.val
  go_enter Try.func3, Try.ntmps3
  obtain ⟨w_aX_0, hw_aX_0⟩ : ∃ x, w.alloc (.cells #[.string aX_name, .int .i64 aX_hue, .int .i64 aX_width, .int .i64 aX_dark, .int .i64 aX_light] 23) = x := ⟨_, rfl⟩
  have bw_aX_0 : Below w.heap.size w w_aX_0 := by rw [← hw_aX_0]; exact (Below.refl _ _).alloc (Nat.le_refl _) _
  have HBw_aX_0 := Lib.hid (Below.step HB.out bw_aX_0)
  clear bw_aX_0
  have kaX_0_0 : w_aX_0.cell? ⟨w.heap.size, 0, none⟩ = some (.string aX_name) := by rw [← hw_aX_0]; exact box_new _ _ _ 0 _ rfl
  have kaX_0_1 : w_aX_0.cell? ⟨w.heap.size, 1, none⟩ = some (.int .i64 aX_hue) := by rw [← hw_aX_0]; exact box_new _ _ _ 1 _ rfl
  have kaX_0_2 : w_aX_0.cell? ⟨w.heap.size, 2, none⟩ = some (.int .i64 aX_width) := by rw [← hw_aX_0]; exact box_new _ _ _ 2 _ rfl
  have kaX_0_3 : w_aX_0.cell? ⟨w.heap.size, 3, none⟩ = some (.int .i64 aX_dark) := by rw [← hw_aX_0]; exact box_new _ _ _ 3 _ rfl
  have kaX_0_4 : w_aX_0.cell? ⟨w.heap.size, 4, none⟩ = some (.int .i64 aX_light) := by rw [← hw_aX_0]; exact box_new _ _ _ 4 _ rfl
  replace H := bind_hid H
  obtain ⟨t_5, qt_5, H⟩ := H
  go_wp2_with fail
  go_at_call 15
  refine (Go.Proofs.Ytpbbechgpgnpbaa.GlSzShade.C ((Go.Proofs.Ytpbbechgpgnpbaa.PShade.Shade.mk aX_name aX_hue aX_width aX_dark aX_light)) (1048576)  _    qt_5).mono ?_
  rintro e_t_5 wt_5 ⟨rfl, bt_5⟩
  have HBwt_5 := Lib.hid (Below.step HBw_aX_0.out bt_5)
  replace kaX_0_0 := cell_below bt_5 kaX_0_0
  replace kaX_0_1 := cell_below bt_5 kaX_0_1
  replace kaX_0_2 := cell_below bt_5 kaX_0_2
  replace kaX_0_3 := cell_below bt_5 kaX_0_3
  replace kaX_0_4 := cell_below bt_5 kaX_0_4
  clear bt_5
  replace H := let_hid H
  obtain ⟨t_8, ht_8, H⟩ := H
  cases t_8 with
  | false =>
    replace H := ite_f H
    replace H := bind_hid H
    obtain ⟨t_11, qt_11, H⟩ := H
    obtain ⟨t_11_name, t_11_hue, t_11_width, t_11_dark, t_11_light⟩ := t_11
    replace H := unShade_hid H
    go_wp2_with fail
    go_at_call 17
    refine (Go.Proofs.Ytpbbechgpgnpbaa.GlToShade.C ((Go.Proofs.Ytpbbechgpgnpbaa.PShade.Shade.mk aX_name aX_hue aX_width aX_dark aX_light))  _    qt_11).mono ?_
    rintro e_t_11 wt_11 ⟨rfl, bt_11⟩
    unfold Go.Proofs.Ytpbbechgpgnpbaa.PShade.Shade.val
    have HBwt_11 := Lib.hid (Below.step HBwt_5.out bt_11)
    replace kaX_0_0 := cell_below bt_11 kaX_0_0
    replace kaX_0_1 := cell_below bt_11 kaX_0_1
    replace kaX_0_2 := cell_below bt_11 kaX_0_2
    replace kaX_0_3 := cell_below bt_11 kaX_0_3
    replace kaX_0_4 := cell_below bt_11 kaX_0_4
    clear bt_11
    replace H := bind_hid H
    obtain ⟨t_12, qt_12, H⟩ := H
    go_wp2_with fail
    go_at_call 16
    refine (Go.Proofs.Ytpbbechgpgnpbaa.GsIsShade.C ((Go.Proofs.Ytpbbechgpgnpbaa.PShade.Shade.mk t_11_name t_11_hue t_11_width t_11_dark t_11_light))  _    qt_12).mono ?_
    rintro e_t_12 wt_12 ⟨rfl, bt_12⟩
    have HBwt_12 := Lib.hid (Below.step HBwt_11.out bt_12)
    replace kaX_0_0 := cell_below bt_12 kaX_0_0
    replace kaX_0_1 := cell_below bt_12 kaX_0_1
    replace kaX_0_2 := cell_below bt_12 kaX_0_2
    replace kaX_0_3 := cell_below bt_12 kaX_0_3
    replace kaX_0_4 := cell_below bt_12 kaX_0_4
    clear bt_12
    replace H := bind_hid H
    obtain ⟨t_15, qt_15, H⟩ := H
    obtain ⟨t_15_name, t_15_hue, t_15_width, t_15_dark, t_15_light⟩ := t_15
    replace H := unShade_hid H
    go_wp2_with fail
    go_at_call 17
    refine (Go.Proofs.Ytpbbechgpgnpbaa.GlToShade.C ((Go.Proofs.Ytpbbechgpgnpbaa.PShade.Shade.mk aX_name aX_hue aX_width aX_dark aX_light))  _    qt_15).mono ?_
    rintro e_t_15 wt_15 ⟨rfl, bt_15⟩
    unfold Go.Proofs.Ytpbbechgpgnpbaa.PShade.Shade.val
    have HBwt_15 := Lib.hid (Below.step HBwt_12.out bt_15)
    replace kaX_0_0 := cell_below bt_15 kaX_0_0
    replace kaX_0_1 := cell_below bt_15 kaX_0_1
    replace kaX_0_2 := cell_below bt_15 kaX_0_2
    replace kaX_0_3 := cell_below bt_15 kaX_0_3
    replace kaX_0_4 := cell_below bt_15 kaX_0_4
    clear bt_15
    replace H := bind_hid H
    obtain ⟨t_16, qt_16, H⟩ := H
    go_wp2_with fail
    go_at_call 18
    refine (Go.Proofs.Ytpbbechgpgnpbaa.GiIsShade.C ((Go.Proofs.Ytpbbechgpgnpbaa.PShade.Shade.mk t_15_name t_15_hue t_15_width t_15_dark t_15_light))  _    qt_16).mono ?_
    rintro e_t_16 wt_16 ⟨rfl, bt_16⟩
    have HBwt_16 := Lib.hid (Below.step HBwt_15.out bt_16)
    replace kaX_0_0 := cell_below bt_16 kaX_0_0
    replace kaX_0_1 := cell_below bt_16 kaX_0_1
    replace kaX_0_2 := cell_below bt_16 kaX_0_2
    replace kaX_0_3 := cell_below bt_16 kaX_0_3
    replace kaX_0_4 := cell_below bt_16 kaX_0_4
    clear bt_16
    replace H := let_hid H
    obtain ⟨t_20, ht_20, H⟩ := H
    cases t_20 with
    | false =>
      replace H := ite_f H
      obtain rfl := ret_hid H
      go_wp2_with fail
      go_ret
      exact ⟨rfl, HBwt_16.out⟩
    | true =>
      replace H := ite_t H
      obtain rfl := ret_hid H
      go_wp2_with fail
      go_ret
      exact ⟨rfl, HBwt_16.out⟩
  | true =>
    replace H := ite_t H
    obtain rfl := ret_hid H
    go_wp2_with fail
    go_ret
    exact ⟨rfl, HBwt_5.out⟩
end Go.Proofs.Ytpbbechgpgnpbaa.GlFnExactIsShade
