/- loop.example/g01062/spec.DoOverlap as a plain function, and the contract of the program's: where the plain one has an answer, the program has it. Conditions: slices read as lists. -/
import Derived.Test.YtpbbechgpgnpbaaChecked
import Derived.Test.YtpbbechgpgnpbaaGoM
import Derived.Test.YtpbbechgpgnpbaaGoRShade
import Derived.Test.YtpbbechgpgnpbaaGsL7One
import Derived.Test.YtpbbechgpgnpbaaGsL7Meet
import Derived.WalkKit
import Derived.WalkSpells
import Derived.WalkLawsBesides
import Derived.BigQuiet
import Derived.OwnWalk
import Derived.Deep.LoopGhost
import Derived.Deep.QuietTactic
import Derived.IntWalk
import Derived.Lib.QuietBelow
namespace Go.Proofs.Ytpbbechgpgnpbaa.GsDoOverlap
set_option linter.unusedVariables false
set_option linter.unusedSimpArgs false
open Go.RowKit
open Go.Proofs.Ytpbbechgpgnpbaa.Rowed Go.Proofs.Ytpbbechgpgnpbaa.Turn Go.Proofs.Ytpbbechgpgnpbaa.Aid Go.Proofs.Ytpbbechgpgnpbaa.GoP Go.Proofs.Ytpbbechgpgnpbaa.GoM

def P (x : Go.Proofs.Ytpbbechgpgnpbaa.PShade.Shade) (y : Go.Proofs.Ytpbbechgpgnpbaa.PShade.Shade) : Option (Bool × Bool) :=
  unShade x fun (x_name : ByteArray) (x_hue : Int) (x_width : Int) (x_dark : Int) (x_light : Int) =>
  unShade y fun (y_name : ByteArray) (y_hue : Int) (y_width : Int) (y_dark : Int) (y_light : Int) =>
  Option.bind (Go.Proofs.Ytpbbechgpgnpbaa.GsL7One.P (Go.Proofs.Ytpbbechgpgnpbaa.PShade.Shade.mk x_name x_hue x_width x_dark x_light)) fun (t_5 : Bool) =>
  letK (!t_5) fun (t_6 : Bool) =>
  joinK (fun (t_11 : Bool) =>
  iteK t_11
  (some (false, false))
  (Option.bind (Go.Proofs.Ytpbbechgpgnpbaa.GsL7Meet.P (Go.Proofs.Ytpbbechgpgnpbaa.PShade.Shade.mk x_name x_hue x_width x_dark x_light) (Go.Proofs.Ytpbbechgpgnpbaa.PShade.Shade.mk y_name y_hue y_width y_dark y_light)) fun (t_16 : Bool) =>
  some (t_16, true))) fun jt_11 => iteK t_6 (appK jt_11 true) (Option.bind (Go.Proofs.Ytpbbechgpgnpbaa.GsL7One.P (Go.Proofs.Ytpbbechgpgnpbaa.PShade.Shade.mk y_name y_hue y_width y_dark y_light)) fun (t_9 : Bool) =>
  letK (!t_9) fun (t_10 : Bool) =>
  appK jt_11 t_10)

set_option maxRecDepth 100000 in
set_option maxHeartbeats 2000000 in
theorem C (x : Go.Proofs.Ytpbbechgpgnpbaa.PShade.Shade) (y : Go.Proofs.Ytpbbechgpgnpbaa.PShade.Shade)   (w : World)   {r0 : Bool} {r1 : Bool} (H : Hid (P x y = some (r0, r1))) :
    Calls Try.prog 34 #[x.val, y.val] w (Gives (.tuple #[.bool r0, .bool r1]) w) := by
  have HB := Lib.hid (Below.refl w.heap.size w)
  unfold P at H
  obtain ⟨x_name, x_hue, x_width, x_dark, x_light⟩ := x
  replace H := unShade_hid H
  obtain ⟨y_name, y_hue, y_width, y_dark, y_light⟩ := y
  replace H := unShade_hid H
  unfold Go.Proofs.Ytpbbechgpgnpbaa.PShade.Shade.val
  go_enter Try.func34, Try.ntmps34
  obtain ⟨w_x_0, hw_x_0⟩ : ∃ x, w.alloc (.cells #[.string x_name, .int .i64 x_hue, .int .i64 x_width, .int .i64 x_dark, .int .i64 x_light] 26) = x := ⟨_, rfl⟩
  have bw_x_0 : Below w.heap.size w w_x_0 := by rw [← hw_x_0]; exact (Below.refl _ _).alloc (Nat.le_refl _) _
  have HBw_x_0 := Lib.hid (Below.step HB.out bw_x_0)
  clear bw_x_0
  have kx_0_0 : w_x_0.cell? ⟨w.heap.size, 0, none⟩ = some (.string x_name) := by rw [← hw_x_0]; exact box_new _ _ _ 0 _ rfl
  have kx_0_1 : w_x_0.cell? ⟨w.heap.size, 1, none⟩ = some (.int .i64 x_hue) := by rw [← hw_x_0]; exact box_new _ _ _ 1 _ rfl
  have kx_0_2 : w_x_0.cell? ⟨w.heap.size, 2, none⟩ = some (.int .i64 x_width) := by rw [← hw_x_0]; exact box_new _ _ _ 2 _ rfl
  have kx_0_3 : w_x_0.cell? ⟨w.heap.size, 3, none⟩ = some (.int .i64 x_dark) := by rw [← hw_x_0]; exact box_new _ _ _ 3 _ rfl
  have kx_0_4 : w_x_0.cell? ⟨w.heap.size, 4, none⟩ = some (.int .i64 x_light) := by rw [← hw_x_0]; exact box_new _ _ _ 4 _ rfl
  obtain ⟨w_y_1, hw_y_1⟩ : ∃ x, w_x_0.alloc (.cells #[.string y_name, .int .i64 y_hue, .int .i64 y_width, .int .i64 y_dark, .int .i64 y_light] 26) = x := ⟨_, rfl⟩
  have bw_y_1 : Below w_x_0.heap.size w_x_0 w_y_1 := by rw [← hw_y_1]; exact (Below.refl _ _).alloc (Nat.le_refl _) _
  have HBw_y_1 := Lib.hid (Below.step HBw_x_0.out bw_y_1)
  have kx_0_0__157 := cell_below bw_y_1 kx_0_0
  have kx_0_1__158 := cell_below bw_y_1 kx_0_1
  have kx_0_2__159 := cell_below bw_y_1 kx_0_2
  have kx_0_3__160 := cell_below bw_y_1 kx_0_3
  have kx_0_4__161 := cell_below bw_y_1 kx_0_4
  clear bw_y_1
  have ky_1_0 : w_y_1.cell? ⟨w_x_0.heap.size, 0, none⟩ = some (.string y_name) := by rw [← hw_y_1]; exact box_new _ _ _ 0 _ rfl
  have ky_1_1 : w_y_1.cell? ⟨w_x_0.heap.size, 1, none⟩ = some (.int .i64 y_hue) := by rw [← hw_y_1]; exact box_new _ _ _ 1 _ rfl
  have ky_1_2 : w_y_1.cell? ⟨w_x_0.heap.size, 2, none⟩ = some (.int .i64 y_width) := by rw [← hw_y_1]; exact box_new _ _ _ 2 _ rfl
  have ky_1_3 : w_y_1.cell? ⟨w_x_0.heap.size, 3, none⟩ = some (.int .i64 y_dark) := by rw [← hw_y_1]; exact box_new _ _ _ 3 _ rfl
  have ky_1_4 : w_y_1.cell? ⟨w_x_0.heap.size, 4, none⟩ = some (.int .i64 y_light) := by rw [← hw_y_1]; exact box_new _ _ _ 4 _ rfl
  replace H := bind_hid H
  obtain ⟨t_5, qt_5, H⟩ := H
  go_wp2_with fail
  clear kx_0_0 kx_0_1 kx_0_2 kx_0_3 kx_0_4
  go_at_call 55
  refine (Go.Proofs.Ytpbbechgpgnpbaa.GsL7One.C ((Go.Proofs.Ytpbbechgpgnpbaa.PShade.Shade.mk x_name x_hue x_width x_dark x_light))  _    qt_5).mono ?_
  rintro e_t_5 wt_5 ⟨rfl, bt_5⟩
  have HBwt_5 := Lib.hid (Below.step HBw_y_1.out bt_5)
  replace kx_0_0__157 := cell_below bt_5 kx_0_0__157
  replace kx_0_1__158 := cell_below bt_5 kx_0_1__158
  replace kx_0_2__159 := cell_below bt_5 kx_0_2__159
  replace kx_0_3__160 := cell_below bt_5 kx_0_3__160
  replace kx_0_4__161 := cell_below bt_5 kx_0_4__161
  replace ky_1_0 := cell_below bt_5 ky_1_0
  replace ky_1_1 := cell_below bt_5 ky_1_1
  replace ky_1_2 := cell_below bt_5 ky_1_2
  replace ky_1_3 := cell_below bt_5 ky_1_3
  replace ky_1_4 := cell_below bt_5 ky_1_4
  clear bt_5
  cases t_5 with
  | false =>
    replace H := let_hid H
    obtain ⟨t_6, ht_6, H⟩ := H
    obtain rfl : t_6 = true := ht_6.symm
    replace H := join_hid H
    replace H := ite_t H
    replace H := app_hid H
    replace H := ite_t H
    cases ret_hid H
    go_wp2_with fail
    go_ret2
    exact ⟨rfl, HBwt_5.out⟩
  | true =>
    replace H := let_hid H
    obtain ⟨t_6, ht_6, H⟩ := H
    obtain rfl : t_6 = false := ht_6.symm
    replace H := join_hid H
    replace H := ite_f H
    replace H := bind_hid H
    obtain ⟨t_9, qt_9, H⟩ := H
    go_wp2_with fail
    go_at_call 55
    refine (Go.Proofs.Ytpbbechgpgnpbaa.GsL7One.C ((Go.Proofs.Ytpbbechgpgnpbaa.PShade.Shade.mk y_name y_hue y_width y_dark y_light))  _    qt_9).mono ?_
    rintro e_t_9 wt_9 ⟨rfl, bt_9⟩
    have HBwt_9 := Lib.hid (Below.step HBwt_5.out bt_9)
    replace kx_0_0__157 := cell_below bt_9 kx_0_0__157
    replace kx_0_1__158 := cell_below bt_9 kx_0_1__158
    replace kx_0_2__159 := cell_below bt_9 kx_0_2__159
    replace kx_0_3__160 := cell_below bt_9 kx_0_3__160
    replace kx_0_4__161 := cell_below bt_9 kx_0_4__161
    replace ky_1_0 := cell_below bt_9 ky_1_0
    replace ky_1_1 := cell_below bt_9 ky_1_1
    replace ky_1_2 := cell_below bt_9 ky_1_2
    replace ky_1_3 := cell_below bt_9 ky_1_3
    replace ky_1_4 := cell_below bt_9 ky_1_4
    clear bt_9
    cases t_9 with
    | false =>
      replace H := let_hid H
      obtain ⟨t_10, ht_10, H⟩ := H
      obtain rfl : t_10 = true := ht_10.symm
      replace H := app_hid H
      replace H := ite_t H
      cases ret_hid H
      go_wp2_with fail
      go_ret2
      exact ⟨rfl, HBwt_9.out⟩
    | true =>
      replace H := let_hid H
      obtain ⟨t_10, ht_10, H⟩ := H
      obtain rfl : t_10 = false := ht_10.symm
      replace H := app_hid H
      replace H := ite_f H
      replace H := bind_hid H
      obtain ⟨t_16, qt_16, H⟩ := H
      go_wp2_with fail
      go_at_call 81
      refine (Go.Proofs.Ytpbbechgpgnpbaa.GsL7Meet.C ((Go.Proofs.Ytpbbechgpgnpbaa.PShade.Shade.mk x_name x_hue x_width x_dark x_light)) ((Go.Proofs.Ytpbbechgpgnpbaa.PShade.Shade.mk y_name y_hue y_width y_dark y_light))  _    qt_16).mono ?_
      rintro e_t_16 wt_16 ⟨rfl, bt_16⟩
      have HBwt_16 := Lib.hid (Below.step HBwt_9.out bt_16)
      replace kx_0_0__157 := cell_below bt_16 kx_0_0__157
      replace kx_0_1__158 := cell_below bt_16 kx_0_1__158
      replace kx_0_2__159 := cell_below bt_16 kx_0_2__159
      replace kx_0_3__160 := cell_below bt_16 kx_0_3__160
      replace kx_0_4__161 := cell_below bt_16 kx_0_4__161
      replace ky_1_0 := cell_below bt_16 ky_1_0
      replace ky_1_1 := cell_below bt_16 ky_1_1
      replace ky_1_2 := cell_below bt_16 ky_1_2
      replace ky_1_3 := cell_below bt_16 ky_1_3
      replace ky_1_4 := cell_below bt_16 ky_1_4
      clear bt_16
      cases ret_hid H
      go_wp2_with fail
      go_ret2
      exact ⟨rfl, HBwt_16.out⟩
end Go.Proofs.Ytpbbechgpgnpbaa.GsDoOverlap
