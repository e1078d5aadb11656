/- loop.example/g01062/spec.l7Meet as a plain function, and the contract of the program's: where the plain one has an answer, the program has it. Conditions: slices read as lists. -/
import Derived.Test.YtpbbechgpgnpbaaChecked
import Derived.Test.YtpbbechgpgnpbaaGoM
import Derived.Test.YtpbbechgpgnpbaaGoRShade
import Derived.Test.YtpbbechgpgnpbaaGsL7Far
import Derived.WalkKit
import Derived.WalkSpells
import Derived.WalkLawsBesides
import Derived.BigQuiet
import Derived.OwnWalk
import Derived.Deep.LoopGhost
import Derived.Deep.QuietTactic
import Derived.IntWalk
import Derived.Lib.QuietBelow
namespace Go.Proofs.Ytpbbechgpgnpbaa.GsL7Meet
set_option linter.unusedVariables false
set_option linter.unusedSimpArgs false
open Go.RowKit
open Go.Proofs.Ytpbbechgpgnpbaa.Rowed Go.Proofs.Ytpbbechgpgnpbaa.Turn Go.Proofs.Ytpbbechgpgnpbaa.Aid Go.Proofs.Ytpbbechgpgnpbaa.GoP Go.Proofs.Ytpbbechgpgnpbaa.GoM

def P (x : Go.Proofs.Ytpbbechgpgnpbaa.PShade.Shade) (y : Go.Proofs.Ytpbbechgpgnpbaa.PShade.Shade) : Option (Bool) :=
  unShade x fun (x_name : ByteArray) (x_hue : Int) (x_width : Int) (x_dark : Int) (x_light : Int) =>
  unShade y fun (y_name : ByteArray) (y_hue : Int) (y_width : Int) (y_dark : Int) (y_light : Int) =>
  Option.bind (Go.Proofs.Ytpbbechgpgnpbaa.GsL7Far.P x_hue y_hue) fun (t_7 : Int) =>
  letK (IntKind.i64.wrap (x_width + y_width)) fun (t_12 : Int) =>
  letK (decide (t_7 ≤ t_12)) fun (t_13 : Bool) =>
  joinK (fun (t_20 : Bool) =>
  joinK (fun (t_27 : Bool) =>
  some t_27) fun jt_27 => iteK t_20 (letK (decide (y_dark ≤ x_light)) fun (t_26 : Bool) =>
  appK jt_27 t_26) (appK jt_27 false)) fun jt_20 => iteK t_13 (letK (decide (x_dark ≤ y_light)) fun (t_19 : Bool) =>
  appK jt_20 t_19) (appK jt_20 false)

set_option maxRecDepth 100000 in
set_option maxHeartbeats 2000000 in
theorem C (x : Go.Proofs.Ytpbbechgpgnpbaa.PShade.Shade) (y : Go.Proofs.Ytpbbechgpgnpbaa.PShade.Shade)   (w : World)   {r : Bool} (H : Hid (P x y = some r)) :
    Calls Try.prog 81 #[x.val, y.val] w (Gives (.bool r) w) := by
  have HB := Lib.hid (Below.refl w.heap.size w)
  unfold P at H
  obtain ⟨x_name, x_hue, x_width, x_dark, x_light⟩ := x
  replace H := unShade_hid H
  obtain ⟨y_name, y_hue, y_width, y_dark, y_light⟩ := y
  replace H := unShade_hid H
  unfold Go.Proofs.Ytpbbechgpgnpbaa.PShade.Shade.val
  go_enter Try.func81, Try.ntmps81
  obtain ⟨w_x_0, hw_x_0⟩ : ∃ x, w.alloc (.cells #[.string x_name, .int .i64 x_hue, .int .i64 x_width, .int .i64 x_dark, .int .i64 x_light] 26) = x := ⟨_, rfl⟩
  have bw_x_0 : Below w.heap.size w w_x_0 := by rw [← hw_x_0]; exact (Below.refl _ _).alloc (Nat.le_refl _) _
  have HBw_x_0 := Lib.hid (Below.step HB.out bw_x_0)
  clear bw_x_0
  have kx_0_0 : w_x_0.cell? ⟨w.heap.size, 0, none⟩ = some (.string x_name) := by rw [← hw_x_0]; exact box_new _ _ _ 0 _ rfl
  have kx_0_1 : w_x_0.cell? ⟨w.heap.size, 1, none⟩ = some (.int .i64 x_hue) := by rw [← hw_x_0]; exact box_new _ _ _ 1 _ rfl
  have kx_0_2 : w_x_0.cell? ⟨w.heap.size, 2, none⟩ = some (.int .i64 x_width) := by rw [← hw_x_0]; exact box_new _ _ _ 2 _ rfl
  have kx_0_3 : w_x_0.cell? ⟨w.heap.size, 3, none⟩ = some (.int .i64 x_dark) := by rw [← hw_x_0]; exact box_new _ _ _ 3 _ rfl
  have kx_0_4 : w_x_0.cell? ⟨w.heap.size, 4, none⟩ = some (.int .i64 x_light) := by rw [← hw_x_0]; exact box_new _ _ _ 4 _ rfl
  obtain ⟨w_y_1, hw_y_1⟩ : ∃ x, w_x_0.alloc (.cells #[.string y_name, .int .i64 y_hue, .int .i64 y_width, .int .i64 y_dark, .int .i64 y_light] 26) = x := ⟨_, rfl⟩
  have bw_y_1 : Below w_x_0.heap.size w_x_0 w_y_1 := by rw [← hw_y_1]; exact (Below.refl _ _).alloc (Nat.le_refl _) _
  have HBw_y_1 := Lib.hid (Below.step HBw_x_0.out bw_y_1)
  have kx_0_0__1 := cell_below bw_y_1 kx_0_0
  have kx_0_1__2 := cell_below bw_y_1 kx_0_1
  have kx_0_2__3 := cell_below bw_y_1 kx_0_2
  have kx_0_3__4 := cell_below bw_y_1 kx_0_3
  have kx_0_4__5 := cell_below bw_y_1 kx_0_4
  clear bw_y_1
  have ky_1_0 : w_y_1.cell? ⟨w_x_0.heap.size, 0, none⟩ = some (.string y_name) := by rw [← hw_y_1]; exact box_new _ _ _ 0 _ rfl
  have ky_1_1 : w_y_1.cell? ⟨w_x_0.heap.size, 1, none⟩ = some (.int .i64 y_hue) := by rw [← hw_y_1]; exact box_new _ _ _ 1 _ rfl
  have ky_1_2 : w_y_1.cell? ⟨w_x_0.heap.size, 2, none⟩ = some (.int .i64 y_width) := by rw [← hw_y_1]; exact box_new _ _ _ 2 _ rfl
  have ky_1_3 : w_y_1.cell? ⟨w_x_0.heap.size, 3, none⟩ = some (.int .i64 y_dark) := by rw [← hw_y_1]; exact box_new _ _ _ 3 _ rfl
  have ky_1_4 : w_y_1.cell? ⟨w_x_0.heap.size, 4, none⟩ = some (.int .i64 y_light) := by rw [← hw_y_1]; exact box_new _ _ _ 4 _ rfl
  go_wp2_with fail
  clear kx_0_0 kx_0_1 kx_0_2 kx_0_3 kx_0_4
  have Hkx_0_0__1 := Lib.hid kx_0_0__1
  replace kx_0_0__1 := cell_regrown kx_0_0__1
  have Hkx_0_1__2 := Lib.hid kx_0_1__2
  replace kx_0_1__2 := cell_regrown kx_0_1__2
  have Hkx_0_2__3 := Lib.hid kx_0_2__3
  replace kx_0_2__3 := cell_regrown kx_0_2__3
  have Hkx_0_3__4 := Lib.hid kx_0_3__4
  replace kx_0_3__4 := cell_regrown kx_0_3__4
  have Hkx_0_4__5 := Lib.hid kx_0_4__5
  replace kx_0_4__5 := cell_regrown kx_0_4__5
  have Hky_1_0 := Lib.hid ky_1_0
  replace ky_1_0 := cell_regrown ky_1_0
  have Hky_1_1 := Lib.hid ky_1_1
  replace ky_1_1 := cell_regrown ky_1_1
  have Hky_1_2 := Lib.hid ky_1_2
  replace ky_1_2 := cell_regrown ky_1_2
  have Hky_1_3 := Lib.hid ky_1_3
  replace ky_1_3 := cell_regrown ky_1_3
  have Hky_1_4 := Lib.hid ky_1_4
  replace ky_1_4 := cell_regrown ky_1_4
  replace H := bind_hid H
  obtain ⟨t_7, qt_7, H⟩ := H
  have nt_7 : ∀ d os, Calls Try.prog 65 #[.int .i64 x_hue, .int .i64 y_hue] (Go.Sort.grow (redrawn w_y_1 d) os) fun e w'' => e = .returned (.int .i64 t_7) ∧ ∃ p : Regrown, w'' = Go.Sort.grow (redrawn w_y_1 p.d) p.os := fun d os => Calls.regrown_of (Go.Proofs.Ytpbbechgpgnpbaa.GsL7Far.C (x_hue) (y_hue)  _    qt_7)
  replace H := let_hid H
  obtain ⟨t_12, ht_12, H⟩ := H
  replace H := let_hid H
  obtain ⟨t_13, ht_13, H⟩ := H
  replace H := join_hid H
  cases t_13 with
  | false =>
    replace H := ite_f H
    replace H := app_hid H
    replace H := join_hid H
    replace H := ite_f H
    replace H := app_hid H
    refine wp_region_quiet_below (by kernel_rfl) (by kernel_rfl) ?_
    repeat (go_big_quiet_step (first | (go_at_call 65; exact nt_7 _ _)))
    refine wpQuiet_nil ?_
    intro Y1 hY1
    replace hY1 := below_class hY1
    clear nt_7
    replace kx_0_0__1 := Hkx_0_0__1.out
    clear Hkx_0_0__1
    replace kx_0_1__2 := Hkx_0_1__2.out
    clear Hkx_0_1__2
    replace kx_0_2__3 := Hkx_0_2__3.out
    clear Hkx_0_2__3
    replace kx_0_3__4 := Hkx_0_3__4.out
    clear Hkx_0_3__4
    replace kx_0_4__5 := Hkx_0_4__5.out
    clear Hkx_0_4__5
    replace ky_1_0 := Hky_1_0.out
    clear Hky_1_0
    replace ky_1_1 := Hky_1_1.out
    clear Hky_1_1
    replace ky_1_2 := Hky_1_2.out
    clear Hky_1_2
    replace ky_1_3 := Hky_1_3.out
    clear Hky_1_3
    replace ky_1_4 := Hky_1_4.out
    clear Hky_1_4
    have HBY1 := Lib.hid (Below.step HBw_y_1.out hY1)
    replace kx_0_0__1 := cell_below hY1 kx_0_0__1
    replace kx_0_1__2 := cell_below hY1 kx_0_1__2
    replace kx_0_2__3 := cell_below hY1 kx_0_2__3
    replace kx_0_3__4 := cell_below hY1 kx_0_3__4
    replace kx_0_4__5 := cell_below hY1 kx_0_4__5
    replace ky_1_0 := cell_below hY1 ky_1_0
    replace ky_1_1 := cell_below hY1 ky_1_1
    replace ky_1_2 := cell_below hY1 ky_1_2
    replace ky_1_3 := cell_below hY1 ky_1_3
    replace ky_1_4 := cell_below hY1 ky_1_4
    clear hY1
    obtain rfl := ret_hid H
    go_wp2_with fail
    go_ret
    exact ⟨rfl, HBY1.out⟩
  | true =>
    replace H := ite_t H
    replace H := let_hid H
    obtain ⟨t_19, ht_19, H⟩ := H
    replace H := app_hid H
    replace H := join_hid H
    cases t_19 with
    | false =>
      replace H := ite_f H
      replace H := app_hid H
      refine wp_region_quiet_below (by kernel_rfl) (by kernel_rfl) ?_
      repeat (go_big_quiet_step (first | (go_at_call 65; exact nt_7 _ _)))
      refine wpQuiet_nil ?_
      intro Y1 hY1
      replace hY1 := below_class hY1
      clear nt_7
      replace kx_0_0__1 := Hkx_0_0__1.out
      clear Hkx_0_0__1
      replace kx_0_1__2 := Hkx_0_1__2.out
      clear Hkx_0_1__2
      replace kx_0_2__3 := Hkx_0_2__3.out
      clear Hkx_0_2__3
      replace kx_0_3__4 := Hkx_0_3__4.out
      clear Hkx_0_3__4
      replace kx_0_4__5 := Hkx_0_4__5.out
      clear Hkx_0_4__5
      replace ky_1_0 := Hky_1_0.out
      clear Hky_1_0
      replace ky_1_1 := Hky_1_1.out
      clear Hky_1_1
      replace ky_1_2 := Hky_1_2.out
      clear Hky_1_2
      replace ky_1_3 := Hky_1_3.out
      clear Hky_1_3
      replace ky_1_4 := Hky_1_4.out
      clear Hky_1_4
      have HBY1 := Lib.hid (Below.step HBw_y_1.out hY1)
      replace kx_0_0__1 := cell_below hY1 kx_0_0__1
      replace kx_0_1__2 := cell_below hY1 kx_0_1__2
      replace kx_0_2__3 := cell_below hY1 kx_0_2__3
      replace kx_0_3__4 := cell_below hY1 kx_0_3__4
      replace kx_0_4__5 := cell_below hY1 kx_0_4__5
      replace ky_1_0 := cell_below hY1 ky_1_0
      replace ky_1_1 := cell_below hY1 ky_1_1
      replace ky_1_2 := cell_below hY1 ky_1_2
      replace ky_1_3 := cell_below hY1 ky_1_3
      replace ky_1_4 := cell_below hY1 ky_1_4
      clear hY1
      obtain rfl := ret_hid H
      go_wp2_with fail
      go_ret
      exact ⟨rfl, HBY1.out⟩
    | true =>
      replace H := ite_t H
      replace H := let_hid H
      obtain ⟨t_26, ht_26, H⟩ := H
      replace H := app_hid H
      refine wp_region_quiet_below (by kernel_rfl) (by kernel_rfl) ?_
      repeat (go_big_quiet_step (first | (go_at_call 65; exact nt_7 _ _)))
      refine wpQuiet_nil ?_
      intro Y1 hY1
      replace hY1 := below_class hY1
      clear nt_7
      replace kx_0_0__1 := Hkx_0_0__1.out
      clear Hkx_0_0__1
      replace kx_0_1__2 := Hkx_0_1__2.out
      clear Hkx_0_1__2
      replace kx_0_2__3 := Hkx_0_2__3.out
      clear Hkx_0_2__3
      replace kx_0_3__4 := Hkx_0_3__4.out
      clear Hkx_0_3__4
      replace kx_0_4__5 := Hkx_0_4__5.out
      clear Hkx_0_4__5
      replace ky_1_0 := Hky_1_0.out
      clear Hky_1_0
      replace ky_1_1 := Hky_1_1.out
      clear Hky_1_1
      replace ky_1_2 := Hky_1_2.out
      clear Hky_1_2
      replace ky_1_3 := Hky_1_3.out
      clear Hky_1_3
      replace ky_1_4 := Hky_1_4.out
      clear Hky_1_4
      have HBY1 := Lib.hid (Below.step HBw_y_1.out hY1)
      replace kx_0_0__1 := cell_below hY1 kx_0_0__1
      replace kx_0_1__2 := cell_below hY1 kx_0_1__2
      replace kx_0_2__3 := cell_below hY1 kx_0_2__3
      replace kx_0_3__4 := cell_below hY1 kx_0_3__4
      replace kx_0_4__5 := cell_below hY1 kx_0_4__5
      replace ky_1_0 := cell_below hY1 ky_1_0
      replace ky_1_1 := cell_below hY1 ky_1_1
      replace ky_1_2 := cell_below hY1 ky_1_2
      replace ky_1_3 := cell_below hY1 ky_1_3
      replace ky_1_4 := cell_below hY1 ky_1_4
      clear hY1
      obtain rfl := ret_hid H
      go_wp2_with fail
      go_ret
      exact ⟨rfl, HBY1.out⟩
end Go.Proofs.Ytpbbechgpgnpbaa.GsL7Meet
