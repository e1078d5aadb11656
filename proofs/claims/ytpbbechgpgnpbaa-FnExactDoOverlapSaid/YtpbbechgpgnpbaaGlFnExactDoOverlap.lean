/- loop.example/g01062/laws.FnExactDoOverlap as a plain function, and the contract of the program's: where the plain one has an answer, the program has it. Conditions: slices read as lists. -/
import Derived.Test.YtpbbechgpgnpbaaChecked
import Derived.Test.YtpbbechgpgnpbaaGoM
import Derived.Test.YtpbbechgpgnpbaaGoRShade
import Derived.Test.YtpbbechgpgnpbaaGlSzShade
import Derived.Test.YtpbbechgpgnpbaaGlToShade
import Derived.Test.YtpbbechgpgnpbaaGsDoOverlap
import Derived.Test.YtpbbechgpgnpbaaGiDoOverlap
import Derived.WalkKit
import Derived.WalkSpells
import Derived.WalkLawsBesides
import Derived.BigQuiet
import Derived.OwnWalk
import Derived.Deep.LoopGhost
import Derived.Deep.QuietTactic
import Derived.IntWalk
import Derived.Lib.QuietBelow
namespace Go.Proofs.Ytpbbechgpgnpbaa.GlFnExactDoOverlap
set_option linter.unusedVariables false
set_option linter.unusedSimpArgs false
open Go.RowKit
open Go.Proofs.Ytpbbechgpgnpbaa.Rowed Go.Proofs.Ytpbbechgpgnpbaa.Turn Go.Proofs.Ytpbbechgpgnpbaa.Aid Go.Proofs.Ytpbbechgpgnpbaa.GoP Go.Proofs.Ytpbbechgpgnpbaa.GoM

def P (aX : Go.Proofs.Ytpbbechgpgnpbaa.PShade.Shade) (aY : Go.Proofs.Ytpbbechgpgnpbaa.PShade.Shade) : Option (Bool) :=
  unShade aX fun (aX_name : ByteArray) (aX_hue : Int) (aX_width : Int) (aX_dark : Int) (aX_light : Int) =>
  unShade aY fun (aY_name : ByteArray) (aY_hue : Int) (aY_width : Int) (aY_dark : Int) (aY_light : Int) =>
  Option.bind (Go.Proofs.Ytpbbechgpgnpbaa.GlSzShade.P (Go.Proofs.Ytpbbechgpgnpbaa.PShade.Shade.mk aX_name aX_hue aX_width aX_dark aX_light) 1048576) fun (t_6 : Int) =>
  letK (decide (t_6 < 0)) fun (t_9 : Bool) =>
  iteK t_9
  (some true)
  (Option.bind (Go.Proofs.Ytpbbechgpgnpbaa.GlSzShade.P (Go.Proofs.Ytpbbechgpgnpbaa.PShade.Shade.mk aY_name aY_hue aY_width aY_dark aY_light) t_6) fun (t_13 : Int) =>
  letK (decide (t_13 < 0)) fun (t_16 : Bool) =>
  iteK t_16
  (some true)
  (Option.bind (Go.Proofs.Ytpbbechgpgnpbaa.GlToShade.P (Go.Proofs.Ytpbbechgpgnpbaa.PShade.Shade.mk aX_name aX_hue aX_width aX_dark aX_light)) fun (t_19 : Go.Proofs.Ytpbbechgpgnpbaa.PShade.Shade) =>
  unShade t_19 fun (t_19_name : ByteArray) (t_19_hue : Int) (t_19_width : Int) (t_19_dark : Int) (t_19_light : Int) =>
  Option.bind (Go.Proofs.Ytpbbechgpgnpbaa.GlToShade.P (Go.Proofs.Ytpbbechgpgnpbaa.PShade.Shade.mk aY_name aY_hue aY_width aY_dark aY_light)) fun (t_21 : Go.Proofs.Ytpbbechgpgnpbaa.PShade.Shade) =>
  unShade t_21 fun (t_21_name : ByteArray) (t_21_hue : Int) (t_21_width : Int) (t_21_dark : Int) (t_21_light : Int) =>
  bind2 (Go.Proofs.Ytpbbechgpgnpbaa.GsDoOverlap.P (Go.Proofs.Ytpbbechgpgnpbaa.PShade.Shade.mk t_19_name t_19_hue t_19_width t_19_dark t_19_light) (Go.Proofs.Ytpbbechgpgnpbaa.PShade.Shade.mk t_21_name t_21_hue t_21_width t_21_dark t_21_light)) fun (t_22a : Bool) (t_22b : Bool) =>
  Option.bind (Go.Proofs.Ytpbbechgpgnpbaa.GlToShade.P (Go.Proofs.Ytpbbechgpgnpbaa.PShade.Shade.mk aX_name aX_hue aX_width aX_dark aX_light)) fun (t_29 : Go.Proofs.Ytpbbechgpgnpbaa.PShade.Shade) =>
  unShade t_29 fun (t_29_name : ByteArray) (t_29_hue : Int) (t_29_width : Int) (t_29_dark : Int) (t_29_light : Int) =>
  Option.bind (Go.Proofs.Ytpbbechgpgnpbaa.GlToShade.P (Go.Proofs.Ytpbbechgpgnpbaa.PShade.Shade.mk aY_name aY_hue aY_width aY_dark aY_light)) fun (t_31 : Go.Proofs.Ytpbbechgpgnpbaa.PShade.Shade) =>
  unShade t_31 fun (t_31_name : ByteArray) (t_31_hue : Int) (t_31_width : Int) (t_31_dark : Int) (t_31_light : Int) =>
  bind2 (Go.Proofs.Ytpbbechgpgnpbaa.GiDoOverlap.P (Go.Proofs.Ytpbbechgpgnpbaa.PShade.Shade.mk t_29_name t_29_hue t_29_width t_29_dark t_29_light) (Go.Proofs.Ytpbbechgpgnpbaa.PShade.Shade.mk t_31_name t_31_hue t_31_width t_31_dark t_31_light)) fun (t_32a : Bool) (t_32b : Bool) =>
  letK (!(t_32a == t_22a)) fun (t_40 : Bool) =>
  joinK (fun (t_45 : Bool) =>
  iteK t_45
  (some false)
  (some true)) fun jt_45 => iteK t_40 (appK jt_45 true) (letK (!(t_32b == t_22b)) fun (t_44 : Bool) =>
  appK jt_45 t_44)))

set_option maxRecDepth 100000 in
set_option maxHeartbeats 2000000 in
theorem C (aX : Go.Proofs.Ytpbbechgpgnpbaa.PShade.Shade) (aY : Go.Proofs.Ytpbbechgpgnpbaa.PShade.Shade)   (w : World)   {r : Bool} (H : Hid (P aX aY = some r)) :
    Calls Try.prog 8 #[aX.val, aY.val] w (Gives (.bool r) w) := by
  have HB := Lib.hid (Below.refl w.heap.size w)
  unfold P at H
  obtain ⟨aX_name, aX_hue, aX_width, aX_dark, aX_light⟩ := aX
  replace H := unShade_hid H
  obtain ⟨aY_name, aY_hue, aY_width, aY_dark, aY_light⟩ := aY
  replace H := unShade_hid H
  unfold Go.Proofs.Ytpbbechgpgnpbaa.PShade.Shade.val
  go_enter Try.func8, Try.ntmps8
  obtain ⟨w_aX_0, hw_aX_0⟩ : ∃ x, w.alloc (.cells #[.string aX_name, .int .i64 aX_hue, .int .i64 aX_width, .int .i64 aX_dark, .int .i64 aX_light] 23) = x := ⟨_, rfl⟩
  have bw_aX_0 : Below w.heap.size w w_aX_0 := by rw [← hw_aX_0]; exact (Below.refl _ _).alloc (Nat.le_refl _) _
  have HBw_aX_0 := Lib.hid (Below.step HB.out bw_aX_0)
  clear bw_aX_0
  have kaX_0_0 : w_aX_0.cell? ⟨w.heap.size, 0, none⟩ = some (.string aX_name) := by rw [← hw_aX_0]; exact box_new _ _ _ 0 _ rfl
  have kaX_0_1 : w_aX_0.cell? ⟨w.heap.size, 1, none⟩ = some (.int .i64 aX_hue) := by rw [← hw_aX_0]; exact box_new _ _ _ 1 _ rfl
  have kaX_0_2 : w_aX_0.cell? ⟨w.heap.size, 2, none⟩ = some (.int .i64 aX_width) := by rw [← hw_aX_0]; exact box_new _ _ _ 2 _ rfl
  have kaX_0_3 : w_aX_0.cell? ⟨w.heap.size, 3, none⟩ = some (.int .i64 aX_dark) := by rw [← hw_aX_0]; exact box_new _ _ _ 3 _ rfl
  have kaX_0_4 : w_aX_0.cell? ⟨w.heap.size, 4, none⟩ = some (.int .i64 aX_light) := by rw [← hw_aX_0]; exact box_new _ _ _ 4 _ rfl
  obtain ⟨w_aY_1, hw_aY_1⟩ : ∃ x, w_aX_0.alloc (.cells #[.string aY_name, .int .i64 aY_hue, .int .i64 aY_width, .int .i64 aY_dark, .int .i64 aY_light] 23) = x := ⟨_, rfl⟩
  have bw_aY_1 : Below w_aX_0.heap.size w_aX_0 w_aY_1 := by rw [← hw_aY_1]; exact (Below.refl _ _).alloc (Nat.le_refl _) _
  have HBw_aY_1 := Lib.hid (Below.step HBw_aX_0.out bw_aY_1)
  have kaX_0_0__172 := cell_below bw_aY_1 kaX_0_0
  have kaX_0_1__173 := cell_below bw_aY_1 kaX_0_1
  have kaX_0_2__174 := cell_below bw_aY_1 kaX_0_2
  have kaX_0_3__175 := cell_below bw_aY_1 kaX_0_3
  have kaX_0_4__176 := cell_below bw_aY_1 kaX_0_4
  clear bw_aY_1
  have kaY_1_0 : w_aY_1.cell? ⟨w_aX_0.heap.size, 0, none⟩ = some (.string aY_name) := by rw [← hw_aY_1]; exact box_new _ _ _ 0 _ rfl
  have kaY_1_1 : w_aY_1.cell? ⟨w_aX_0.heap.size, 1, none⟩ = some (.int .i64 aY_hue) := by rw [← hw_aY_1]; exact box_new _ _ _ 1 _ rfl
  have kaY_1_2 : w_aY_1.cell? ⟨w_aX_0.heap.size, 2, none⟩ = some (.int .i64 aY_width) := by rw [← hw_aY_1]; exact box_new _ _ _ 2 _ rfl
  have kaY_1_3 : w_aY_1.cell? ⟨w_aX_0.heap.size, 3, none⟩ = some (.int .i64 aY_dark) := by rw [← hw_aY_1]; exact box_new _ _ _ 3 _ rfl
  have kaY_1_4 : w_aY_1.cell? ⟨w_aX_0.heap.size, 4, none⟩ = some (.int .i64 aY_light) := by rw [← hw_aY_1]; exact box_new _ _ _ 4 _ rfl
  replace H := bind_hid H
  obtain ⟨t_6, qt_6, H⟩ := H
  go_wp2_with fail
  clear kaX_0_0 kaX_0_1 kaX_0_2 kaX_0_3 kaX_0_4
  go_at_call 15
  refine (Go.Proofs.Ytpbbechgpgnpbaa.GlSzShade.C ((Go.Proofs.Ytpbbechgpgnpbaa.PShade.Shade.mk aX_name aX_hue aX_width aX_dark aX_light)) (1048576)  _    qt_6).mono ?_
  rintro e_t_6 wt_6 ⟨rfl, bt_6⟩
  have HBwt_6 := Lib.hid (Below.step HBw_aY_1.out bt_6)
  replace kaX_0_0__172 := cell_below bt_6 kaX_0_0__172
  replace kaX_0_1__173 := cell_below bt_6 kaX_0_1__173
  replace kaX_0_2__174 := cell_below bt_6 kaX_0_2__174
  replace kaX_0_3__175 := cell_below bt_6 kaX_0_3__175
  replace kaX_0_4__176 := cell_below bt_6 kaX_0_4__176
  replace kaY_1_0 := cell_below bt_6 kaY_1_0
  replace kaY_1_1 := cell_below bt_6 kaY_1_1
  replace kaY_1_2 := cell_below bt_6 kaY_1_2
  replace kaY_1_3 := cell_below bt_6 kaY_1_3
  replace kaY_1_4 := cell_below bt_6 kaY_1_4
  clear bt_6
  replace H := let_hid H
  obtain ⟨t_9, ht_9, H⟩ := H
  cases t_9 with
  | false =>
    replace H := ite_f H
    replace H := bind_hid H
    obtain ⟨t_13, qt_13, H⟩ := H
    go_wp2_with fail
    go_at_call 15
    refine (Go.Proofs.Ytpbbechgpgnpbaa.GlSzShade.C ((Go.Proofs.Ytpbbechgpgnpbaa.PShade.Shade.mk aY_name aY_hue aY_width aY_dark aY_light)) (t_6)  _    qt_13).mono ?_
    rintro e_t_13 wt_13 ⟨rfl, bt_13⟩
    have HBwt_13 := Lib.hid (Below.step HBwt_6.out bt_13)
    replace kaX_0_0__172 := cell_below bt_13 kaX_0_0__172
    replace kaX_0_1__173 := cell_below bt_13 kaX_0_1__173
    replace kaX_0_2__174 := cell_below bt_13 kaX_0_2__174
    replace kaX_0_3__175 := cell_below bt_13 kaX_0_3__175
    replace kaX_0_4__176 := cell_below bt_13 kaX_0_4__176
    replace kaY_1_0 := cell_below bt_13 kaY_1_0
    replace kaY_1_1 := cell_below bt_13 kaY_1_1
    replace kaY_1_2 := cell_below bt_13 kaY_1_2
    replace kaY_1_3 := cell_below bt_13 kaY_1_3
    replace kaY_1_4 := cell_below bt_13 kaY_1_4
    clear bt_13
    replace H := let_hid H
    obtain ⟨t_16, ht_16, H⟩ := H
    cases t_16 with
    | false =>
      replace H := ite_f H
      go_wp2_with fail
      have HkaX_0_0__172 := Lib.hid kaX_0_0__172
      replace kaX_0_0__172 := cell_regrown kaX_0_0__172
      have HkaX_0_1__173 := Lib.hid kaX_0_1__173
      replace kaX_0_1__173 := cell_regrown kaX_0_1__173
      have HkaX_0_2__174 := Lib.hid kaX_0_2__174
      replace kaX_0_2__174 := cell_regrown kaX_0_2__174
      have HkaX_0_3__175 := Lib.hid kaX_0_3__175
      replace kaX_0_3__175 := cell_regrown kaX_0_3__175
      have HkaX_0_4__176 := Lib.hid kaX_0_4__176
      replace kaX_0_4__176 := cell_regrown kaX_0_4__176
      have HkaY_1_0 := Lib.hid kaY_1_0
      replace kaY_1_0 := cell_regrown kaY_1_0
      have HkaY_1_1 := Lib.hid kaY_1_1
      replace kaY_1_1 := cell_regrown kaY_1_1
      have HkaY_1_2 := Lib.hid kaY_1_2
      replace kaY_1_2 := cell_regrown kaY_1_2
      have HkaY_1_3 := Lib.hid kaY_1_3
      replace kaY_1_3 := cell_regrown kaY_1_3
      have HkaY_1_4 := Lib.hid kaY_1_4
      replace kaY_1_4 := cell_regrown kaY_1_4
      replace H := bind_hid H
      obtain ⟨t_19, qt_19, H⟩ := H
      obtain ⟨t_19_name, t_19_hue, t_19_width, t_19_dark, t_19_light⟩ := t_19
      replace H := unShade_hid H
      have nt_19 : ∀ d os, Calls Try.prog 17 #[.agg #[.string aX_name, .int .i64 aX_hue, .int .i64 aX_width, .int .i64 aX_dark, .int .i64 aX_light]] (Go.Sort.grow (redrawn wt_13 d) os) fun e w'' => e = .returned (.agg #[.string t_19_name, .int .i64 t_19_hue, .int .i64 t_19_width, .int .i64 t_19_dark, .int .i64 t_19_light]) ∧ ∃ p : Regrown, w'' = Go.Sort.grow (redrawn wt_13 p.d) p.os := fun d os => Calls.regrown_of (Go.Proofs.Ytpbbechgpgnpbaa.GlToShade.C ((Go.Proofs.Ytpbbechgpgnpbaa.PShade.Shade.mk aX_name aX_hue aX_width aX_dark aX_light))  _    qt_19)
      replace H := bind_hid H
      obtain ⟨t_21, qt_21, H⟩ := H
      obtain ⟨t_21_name, t_21_hue, t_21_width, t_21_dark, t_21_light⟩ := t_21
      replace H := unShade_hid H
      have nt_21 : ∀ d os, Calls Try.prog 17 #[.agg #[.string aY_name, .int .i64 aY_hue, .int .i64 aY_width, .int .i64 aY_dark, .int .i64 aY_light]] (Go.Sort.grow (redrawn wt_13 d) os) fun e w'' => e = .returned (.agg #[.string t_21_name, .int .i64 t_21_hue, .int .i64 t_21_width, .int .i64 t_21_dark, .int .i64 t_21_light]) ∧ ∃ p : Regrown, w'' = Go.Sort.grow (redrawn wt_13 p.d) p.os := fun d os => Calls.regrown_of (Go.Proofs.Ytpbbechgpgnpbaa.GlToShade.C ((Go.Proofs.Ytpbbechgpgnpbaa.PShade.Shade.mk aY_name aY_hue aY_width aY_dark aY_light))  _    qt_21)
      replace H := bind2_hid H
      obtain ⟨t_22a, t_22b, qt_22, H⟩ := H
      have nt_22 : ∀ d os, Calls Try.prog 34 #[.agg #[.string t_19_name, .int .i64 t_19_hue, .int .i64 t_19_width, .int .i64 t_19_dark, .int .i64 t_19_light], .agg #[.string t_21_name, .int .i64 t_21_hue, .int .i64 t_21_width, .int .i64 t_21_dark, .int .i64 t_21_light]] (Go.Sort.grow (redrawn wt_13 d) os) fun e w'' => e = .returned (.tuple #[.bool t_22a, .bool t_22b]) ∧ ∃ p : Regrown, w'' = Go.Sort.grow (redrawn wt_13 p.d) p.os := fun d os => Calls.regrown_of (Go.Proofs.Ytpbbechgpgnpbaa.GsDoOverlap.C ((Go.Proofs.Ytpbbechgpgnpbaa.PShade.Shade.mk t_19_name t_19_hue t_19_width t_19_dark t_19_light)) ((Go.Proofs.Ytpbbechgpgnpbaa.PShade.Shade.mk t_21_name t_21_hue t_21_width t_21_dark t_21_light))  _    qt_22)
      refine wp_region_quiet_below (by kernel_rfl) (by kernel_rfl) ?_
      repeat (go_big_quiet_step (first | (go_at_call 17; with_reducible exact nt_19 _ _) | (go_at_call 17; with_reducible exact nt_21 _ _) | (go_at_call 17; exact nt_19 _ _) | (go_at_call 17; exact nt_21 _ _) | (go_at_call 34; exact nt_22 _ _)))
      refine wpQuiet_nil ?_
      intro Y8 hY8
      replace hY8 := below_class hY8
      clear nt_19 nt_21 nt_22
      replace kaX_0_0__172 := HkaX_0_0__172.out
      clear HkaX_0_0__172
      replace kaX_0_1__173 := HkaX_0_1__173.out
      clear HkaX_0_1__173
      replace kaX_0_2__174 := HkaX_0_2__174.out
      clear HkaX_0_2__174
      replace kaX_0_3__175 := HkaX_0_3__175.out
      clear HkaX_0_3__175
      replace kaX_0_4__176 := HkaX_0_4__176.out
      clear HkaX_0_4__176
      replace kaY_1_0 := HkaY_1_0.out
      clear HkaY_1_0
      replace kaY_1_1 := HkaY_1_1.out
      clear HkaY_1_1
      replace kaY_1_2 := HkaY_1_2.out
      clear HkaY_1_2
      replace kaY_1_3 := HkaY_1_3.out
      clear HkaY_1_3
      replace kaY_1_4 := HkaY_1_4.out
      clear HkaY_1_4
      have HBY8 := Lib.hid (Below.step HBwt_13.out hY8)
      replace kaX_0_0__172 := cell_below hY8 kaX_0_0__172
      replace kaX_0_1__173 := cell_below hY8 kaX_0_1__173
      replace kaX_0_2__174 := cell_below hY8 kaX_0_2__174
      replace kaX_0_3__175 := cell_below hY8 kaX_0_3__175
      replace kaX_0_4__176 := cell_below hY8 kaX_0_4__176
      replace kaY_1_0 := cell_below hY8 kaY_1_0
      replace kaY_1_1 := cell_below hY8 kaY_1_1
      replace kaY_1_2 := cell_below hY8 kaY_1_2
      replace kaY_1_3 := cell_below hY8 kaY_1_3
      replace kaY_1_4 := cell_below hY8 kaY_1_4
      clear hY8
      go_wp2_with fail
      have HkaX_0_0__172 := Lib.hid kaX_0_0__172
      replace kaX_0_0__172 := cell_regrown kaX_0_0__172
      have HkaX_0_1__173 := Lib.hid kaX_0_1__173
      replace kaX_0_1__173 := cell_regrown kaX_0_1__173
      have HkaX_0_2__174 := Lib.hid kaX_0_2__174
      replace kaX_0_2__174 := cell_regrown kaX_0_2__174
      have HkaX_0_3__175 := Lib.hid kaX_0_3__175
      replace kaX_0_3__175 := cell_regrown kaX_0_3__175
      have HkaX_0_4__176 := Lib.hid kaX_0_4__176
      replace kaX_0_4__176 := cell_regrown kaX_0_4__176
      have HkaY_1_0 := Lib.hid kaY_1_0
      replace kaY_1_0 := cell_regrown kaY_1_0
      have HkaY_1_1 := Lib.hid kaY_1_1
      replace kaY_1_1 := cell_regrown kaY_1_1
      have HkaY_1_2 := Lib.hid kaY_1_2
      replace kaY_1_2 := cell_regrown kaY_1_2
      have HkaY_1_3 := Lib.hid kaY_1_3
      replace kaY_1_3 := cell_regrown kaY_1_3
      have HkaY_1_4 := Lib.hid kaY_1_4
      replace kaY_1_4 := cell_regrown kaY_1_4
      replace H := bind_hid H
      obtain ⟨t_29, qt_29, H⟩ := H
      obtain ⟨t_29_name, t_29_hue, t_29_width, t_29_dark, t_29_light⟩ := t_29
      replace H := unShade_hid H
      have nt_29 : ∀ d os, Calls Try.prog 17 #[.agg #[.string aX_name, .int .i64 aX_hue, .int .i64 aX_width, .int .i64 aX_dark, .int .i64 aX_light]] (Go.Sort.grow (redrawn Y8 d) os) fun e w'' => e = .returned (.agg #[.string t_29_name, .int .i64 t_29_hue, .int .i64 t_29_width, .int .i64 t_29_dark, .int .i64 t_29_light]) ∧ ∃ p : Regrown, w'' = Go.Sort.grow (redrawn Y8 p.d) p.os := fun d os => Calls.regrown_of (Go.Proofs.Ytpbbechgpgnpbaa.GlToShade.C ((Go.Proofs.Ytpbbechgpgnpbaa.PShade.Shade.mk aX_name aX_hue aX_width aX_dark aX_light))  _    qt_29)
      replace H := bind_hid H
      obtain ⟨t_31, qt_31, H⟩ := H
      obtain ⟨t_31_name, t_31_hue, t_31_width, t_31_dark, t_31_light⟩ := t_31
      replace H := unShade_hid H
      have nt_31 : ∀ d os, Calls Try.prog 17 #[.agg #[.string aY_name, .int .i64 aY_hue, .int .i64 aY_width, .int .i64 aY_dark, .int .i64 aY_light]] (Go.Sort.grow (redrawn Y8 d) os) fun e w'' => e = .returned (.agg #[.string t_31_name, .int .i64 t_31_hue, .int .i64 t_31_width, .int .i64 t_31_dark, .int .i64 t_31_light]) ∧ ∃ p : Regrown, w'' = Go.Sort.grow (redrawn Y8 p.d) p.os := fun d os => Calls.regrown_of (Go.Proofs.Ytpbbechgpgnpbaa.GlToShade.C ((Go.Proofs.Ytpbbechgpgnpbaa.PShade.Shade.mk aY_name aY_hue aY_width aY_dark aY_light))  _    qt_31)
      replace H := bind2_hid H
      obtain ⟨t_32a, t_32b, qt_32, H⟩ := H
      have nt_32 : ∀ d os, Calls Try.prog 35 #[.agg #[.string t_29_name, .int .i64 t_29_hue, .int .i64 t_29_width, .int .i64 t_29_dark, .int .i64 t_29_light], .agg #[.string t_31_name, .int .i64 t_31_hue, .int .i64 t_31_width, .int .i64 t_31_dark, .int .i64 t_31_light]] (Go.Sort.grow (redrawn Y8 d) os) fun e w'' => e = .returned (.tuple #[.bool t_32a, .bool t_32b]) ∧ ∃ p : Regrown, w'' = Go.Sort.grow (redrawn Y8 p.d) p.os := fun d os => Calls.regrown_of (Go.Proofs.Ytpbbechgpgnpbaa.GiDoOverlap.C ((Go.Proofs.Ytpbbechgpgnpbaa.PShade.Shade.mk t_29_name t_29_hue t_29_width t_29_dark t_29_light)) ((Go.Proofs.Ytpbbechgpgnpbaa.PShade.Shade.mk t_31_name t_31_hue t_31_width t_31_dark t_31_light))  _    qt_32)
      refine wp_region_quiet_below (by kernel_rfl) (by kernel_rfl) ?_
      repeat (go_big_quiet_step (first | (go_at_call 17; with_reducible exact nt_29 _ _) | (go_at_call 17; with_reducible exact nt_31 _ _) | (go_at_call 17; exact nt_29 _ _) | (go_at_call 17; exact nt_31 _ _) | (go_at_call 35; exact nt_32 _ _)))
      refine wpQuiet_nil ?_
      intro Y9 hY9
      replace hY9 := below_class hY9
      clear nt_29 nt_31 nt_32
      replace kaX_0_0__172 := HkaX_0_0__172.out
      clear HkaX_0_0__172
      replace kaX_0_1__173 := HkaX_0_1__173.out
      clear HkaX_0_1__173
      replace kaX_0_2__174 := HkaX_0_2__174.out
      clear HkaX_0_2__174
      replace kaX_0_3__175 := HkaX_0_3__175.out
      clear HkaX_0_3__175
      replace kaX_0_4__176 := HkaX_0_4__176.out
      clear HkaX_0_4__176
      replace kaY_1_0 := HkaY_1_0.out
      clear HkaY_1_0
      replace kaY_1_1 := HkaY_1_1.out
      clear HkaY_1_1
      replace kaY_1_2 := HkaY_1_2.out
      clear HkaY_1_2
      replace kaY_1_3 := HkaY_1_3.out
      clear HkaY_1_3
      replace kaY_1_4 := HkaY_1_4.out
      clear HkaY_1_4
      have HBY9 := Lib.hid (Below.step HBY8.out hY9)
      replace kaX_0_0__172 := cell_below hY9 kaX_0_0__172
      replace kaX_0_1__173 := cell_below hY9 kaX_0_1__173
      replace kaX_0_2__174 := cell_below hY9 kaX_0_2__174
      replace kaX_0_3__175 := cell_below hY9 kaX_0_3__175
      replace kaX_0_4__176 := cell_below hY9 kaX_0_4__176
      replace kaY_1_0 := cell_below hY9 kaY_1_0
      replace kaY_1_1 := cell_below hY9 kaY_1_1
      replace kaY_1_2 := cell_below hY9 kaY_1_2
      replace kaY_1_3 := cell_below hY9 kaY_1_3
      replace kaY_1_4 := cell_below hY9 kaY_1_4
      clear hY9
      replace H := let_hid H
      obtain ⟨t_40, ht_40, H⟩ := H
      replace H := join_hid H
      cases t_40 with
      | false =>
        replace H := ite_f H
        replace H := let_hid H
        obtain ⟨t_44, ht_44, H⟩ := H
        replace H := app_hid H
        cases t_44 with
        | false =>
          replace H := ite_f H
          obtain rfl := ret_hid H
          go_wp2_with fail
          go_ret
          exact ⟨rfl, HBY9.out⟩
        | true =>
          replace H := ite_t H
          obtain rfl := ret_hid H
          go_wp2_with fail
          go_ret
          exact ⟨rfl, HBY9.out⟩
      | true =>
        replace H := ite_t H
        replace H := app_hid H
        replace H := ite_t H
        obtain rfl := ret_hid H
        go_wp2_with fail
        go_ret
        exact ⟨rfl, HBY9.out⟩
    | true =>
      replace H := ite_t H
      obtain rfl := ret_hid H
      go_wp2_with fail
      go_ret
      exact ⟨rfl, HBwt_13.out⟩
  | true =>
    replace H := ite_t H
    obtain rfl := ret_hid H
    go_wp2_with fail
    go_ret
    exact ⟨rfl, HBwt_6.out⟩
end Go.Proofs.Ytpbbechgpgnpbaa.GlFnExactDoOverlap
