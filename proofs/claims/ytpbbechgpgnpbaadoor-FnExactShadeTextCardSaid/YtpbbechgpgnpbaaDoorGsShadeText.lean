/- loop.example/g01062/spec.ShadeText as a plain function, and the contract of the program's: where the plain one has an answer, the program has it. Conditions: slices read as lists. -/
import Derived.Test.YtpbbechgpgnpbaaDoorChecked
import Derived.Test.YtpbbechgpgnpbaaDoorGoM
import Derived.Test.YtpbbechgpgnpbaaDoorGoRShade
import Derived.Test.YtpbbechgpgnpbaaDoorGsL7One
import Derived.Test.YtpbbechgpgnpbaaDoorGsL1Num
import Derived.WalkKit
import Derived.WalkSpells
import Derived.WalkLawsBesides
import Derived.BigQuiet
import Derived.OwnWalk
import Derived.Deep.LoopGhost
import Derived.Deep.QuietTactic
import Derived.IntWalk
import Derived.Lib.QuietBelow
namespace Go.Proofs.YtpbbechgpgnpbaaDoor.GsShadeText
set_option linter.unusedVariables false
set_option linter.unusedSimpArgs false
open Go.RowKit
open Go.Proofs.YtpbbechgpgnpbaaDoor.Rowed Go.Proofs.YtpbbechgpgnpbaaDoor.Turn Go.Proofs.YtpbbechgpgnpbaaDoor.Aid Go.Proofs.YtpbbechgpgnpbaaDoor.GoP Go.Proofs.YtpbbechgpgnpbaaDoor.GoM

def P (x : Go.Proofs.YtpbbechgpgnpbaaDoor.PShade.Shade) : Option (ByteArray × Bool) :=
  unShade x fun (x_name : ByteArray) (x_hue : Int) (x_width : Int) (x_dark : Int) (x_light : Int) =>
  Option.bind (Go.Proofs.YtpbbechgpgnpbaaDoor.GsL7One.P (Go.Proofs.YtpbbechgpgnpbaaDoor.PShade.Shade.mk x_name x_hue x_width x_dark x_light)) fun (t_4 : Bool) =>
  letK (!t_4) fun (t_5 : Bool) =>
  iteK t_5
  (some ((⟨#[]⟩ : ByteArray), false))
  (guardK (x_name.size + (⟨#[32]⟩ : ByteArray).size ≤ maxLen) <|
  letK (x_name ++ (⟨#[32]⟩ : ByteArray)) fun (t_10 : ByteArray) =>
  Option.bind (Go.Proofs.YtpbbechgpgnpbaaDoor.GsL1Num.P x_hue) fun (t_13 : ByteArray) =>
  guardK (t_10.size + t_13.size ≤ maxLen) <|
  letK (t_10 ++ t_13) fun (t_14 : ByteArray) =>
  guardK (t_14.size + (⟨#[43, 45]⟩ : ByteArray).size ≤ maxLen) <|
  letK (t_14 ++ (⟨#[43, 45]⟩ : ByteArray)) fun (t_15 : ByteArray) =>
  Option.bind (Go.Proofs.YtpbbechgpgnpbaaDoor.GsL1Num.P x_width) fun (t_18 : ByteArray) =>
  guardK (t_15.size + t_18.size ≤ maxLen) <|
  letK (t_15 ++ t_18) fun (t_19 : ByteArray) =>
  guardK (t_19.size + (⟨#[32]⟩ : ByteArray).size ≤ maxLen) <|
  letK (t_19 ++ (⟨#[32]⟩ : ByteArray)) fun (t_20 : ByteArray) =>
  Option.bind (Go.Proofs.YtpbbechgpgnpbaaDoor.GsL1Num.P x_dark) fun (t_23 : ByteArray) =>
  guardK (t_20.size + t_23.size ≤ maxLen) <|
  letK (t_20 ++ t_23) fun (t_24 : ByteArray) =>
  guardK (t_24.size + (⟨#[46, 46]⟩ : ByteArray).size ≤ maxLen) <|
  letK (t_24 ++ (⟨#[46, 46]⟩ : ByteArray)) fun (t_25 : ByteArray) =>
  Option.bind (Go.Proofs.YtpbbechgpgnpbaaDoor.GsL1Num.P x_light) fun (t_28 : ByteArray) =>
  guardK (t_25.size + t_28.size ≤ maxLen) <|
  letK (t_25 ++ t_28) fun (t_29 : ByteArray) =>
  some (t_29, true))

set_option maxRecDepth 100000 in
set_option maxHeartbeats 2000000 in
theorem C (x : Go.Proofs.YtpbbechgpgnpbaaDoor.PShade.Shade)   (w : World)   {r0 : ByteArray} {r1 : Bool} (H : Hid (P x = some (r0, r1))) :
    Calls Tryd.prog 6 #[x.val] w (Gives (.tuple #[.string r0, .bool r1]) w) := by
  have HB := Lib.hid (Below.refl w.heap.size w)
  unfold P at H
  obtain ⟨x_name, x_hue, x_width, x_dark, x_light⟩ := x
  replace H := unShade_hid H
  unfold Go.Proofs.YtpbbechgpgnpbaaDoor.PShade.Shade.val
  go_enter Tryd.func6, Tryd.ntmps6
  obtain ⟨w_x_0, hw_x_0⟩ : ∃ x, w.alloc (.cells #[.string x_name, .int .i64 x_hue, .int .i64 x_width, .int .i64 x_dark, .int .i64 x_light] 27) = x := ⟨_, rfl⟩
  have bw_x_0 : Below w.heap.size w w_x_0 := by rw [← hw_x_0]; exact (Below.refl _ _).alloc (Nat.le_refl _) _
  have HBw_x_0 := Lib.hid (Below.step HB.out bw_x_0)
  clear bw_x_0
  have kx_0_0 : w_x_0.cell? ⟨w.heap.size, 0, none⟩ = some (.string x_name) := by rw [← hw_x_0]; exact box_new _ _ _ 0 _ rfl
  have kx_0_1 : w_x_0.cell? ⟨w.heap.size, 1, none⟩ = some (.int .i64 x_hue) := by rw [← hw_x_0]; exact box_new _ _ _ 1 _ rfl
  have kx_0_2 : w_x_0.cell? ⟨w.heap.size, 2, none⟩ = some (.int .i64 x_width) := by rw [← hw_x_0]; exact box_new _ _ _ 2 _ rfl
  have kx_0_3 : w_x_0.cell? ⟨w.heap.size, 3, none⟩ = some (.int .i64 x_dark) := by rw [← hw_x_0]; exact box_new _ _ _ 3 _ rfl
  have kx_0_4 : w_x_0.cell? ⟨w.heap.size, 4, none⟩ = some (.int .i64 x_light) := by rw [← hw_x_0]; exact box_new _ _ _ 4 _ rfl
  replace H := bind_hid H
  obtain ⟨t_4, qt_4, H⟩ := H
  go_wp2_with fail
  go_at_call 24
  refine (Go.Proofs.YtpbbechgpgnpbaaDoor.GsL7One.C ((Go.Proofs.YtpbbechgpgnpbaaDoor.PShade.Shade.mk x_name x_hue x_width x_dark x_light))  _    qt_4).mono ?_
  rintro e_t_4 wt_4 ⟨rfl, bt_4⟩
  have HBwt_4 := Lib.hid (Below.step HBw_x_0.out bt_4)
  replace kx_0_0 := cell_below bt_4 kx_0_0
  replace kx_0_1 := cell_below bt_4 kx_0_1
  replace kx_0_2 := cell_below bt_4 kx_0_2
  replace kx_0_3 := cell_below bt_4 kx_0_3
  replace kx_0_4 := cell_below bt_4 kx_0_4
  clear bt_4
  cases t_4 with
  | false =>
    replace H := let_hid H
    obtain ⟨t_5, ht_5, H⟩ := H
    obtain rfl : t_5 = true := ht_5.symm
    replace H := ite_t H
    cases ret_hid H
    go_wp2_with fail
    go_ret2
    exact ⟨rfl, HBwt_4.out⟩
  | true =>
    replace H := let_hid H
    obtain ⟨t_5, ht_5, H⟩ := H
    obtain rfl : t_5 = false := ht_5.symm
    replace H := ite_f H
    go_wp2_with fail
    have Hkx_0_0 := Lib.hid kx_0_0
    replace kx_0_0 := cell_regrown kx_0_0
    have Hkx_0_1 := Lib.hid kx_0_1
    replace kx_0_1 := cell_regrown kx_0_1
    have Hkx_0_2 := Lib.hid kx_0_2
    replace kx_0_2 := cell_regrown kx_0_2
    have Hkx_0_3 := Lib.hid kx_0_3
    replace kx_0_3 := cell_regrown kx_0_3
    have Hkx_0_4 := Lib.hid kx_0_4
    replace kx_0_4 := cell_regrown kx_0_4
    replace H := guard_hid H
    obtain ⟨hl_t_10, H⟩ := H
    replace H := let_hid H
    obtain ⟨t_10, ht_10, H⟩ := H
    have ct_10 := cat_rule (P := Tryd.prog) ht_10 hl_t_10
    clear hl_t_10
    have hht_10 := Lib.hid ht_10
    clear ht_10
    replace H := bind_hid H
    obtain ⟨t_13, qt_13, H⟩ := H
    have nt_13 : ∀ d os, Calls Tryd.prog 25 #[.int .i64 x_hue] (Go.Sort.grow (redrawn wt_4 d) os) fun e w'' => e = .returned (.string t_13) ∧ ∃ p : Regrown, w'' = Go.Sort.grow (redrawn wt_4 p.d) p.os := fun d os => Calls.regrown_of (Go.Proofs.YtpbbechgpgnpbaaDoor.GsL1Num.C (x_hue)  _    qt_13)
    replace H := guard_hid H
    obtain ⟨hl_t_14, H⟩ := H
    replace H := let_hid H
    obtain ⟨t_14, ht_14, H⟩ := H
    have ct_14 := cat_rule (P := Tryd.prog) ht_14 hl_t_14
    clear hl_t_14
    have hht_14 := Lib.hid ht_14
    clear ht_14
    replace H := guard_hid H
    obtain ⟨hl_t_15, H⟩ := H
    replace H := let_hid H
    obtain ⟨t_15, ht_15, H⟩ := H
    have ct_15 := cat_rule (P := Tryd.prog) ht_15 hl_t_15
    clear hl_t_15
    have hht_15 := Lib.hid ht_15
    clear ht_15
    replace H := bind_hid H
    obtain ⟨t_18, qt_18, H⟩ := H
    have nt_18 : ∀ d os, Calls Tryd.prog 25 #[.int .i64 x_width] (Go.Sort.grow (redrawn wt_4 d) os) fun e w'' => e = .returned (.string t_18) ∧ ∃ p : Regrown, w'' = Go.Sort.grow (redrawn wt_4 p.d) p.os := fun d os => Calls.regrown_of (Go.Proofs.YtpbbechgpgnpbaaDoor.GsL1Num.C (x_width)  _    qt_18)
    replace H := guard_hid H
    obtain ⟨hl_t_19, H⟩ := H
    replace H := let_hid H
    obtain ⟨t_19, ht_19, H⟩ := H
    have ct_19 := cat_rule (P := Tryd.prog) ht_19 hl_t_19
    clear hl_t_19
    have hht_19 := Lib.hid ht_19
    clear ht_19
    replace H := guard_hid H
    obtain ⟨hl_t_20, H⟩ := H
    replace H := let_hid H
    obtain ⟨t_20, ht_20, H⟩ := H
    have ct_20 := cat_rule (P := Tryd.prog) ht_20 hl_t_20
    clear hl_t_20
    have hht_20 := Lib.hid ht_20
    clear ht_20
    replace H := bind_hid H
    obtain ⟨t_23, qt_23, H⟩ := H
    have nt_23 : ∀ d os, Calls Tryd.prog 25 #[.int .i64 x_dark] (Go.Sort.grow (redrawn wt_4 d) os) fun e w'' => e = .returned (.string t_23) ∧ ∃ p : Regrown, w'' = Go.Sort.grow (redrawn wt_4 p.d) p.os := fun d os => Calls.regrown_of (Go.Proofs.YtpbbechgpgnpbaaDoor.GsL1Num.C (x_dark)  _    qt_23)
    replace H := guard_hid H
    obtain ⟨hl_t_24, H⟩ := H
    replace H := let_hid H
    obtain ⟨t_24, ht_24, H⟩ := H
    have ct_24 := cat_rule (P := Tryd.prog) ht_24 hl_t_24
    clear hl_t_24
    have hht_24 := Lib.hid ht_24
    clear ht_24
    replace H := guard_hid H
    obtain ⟨hl_t_25, H⟩ := H
    replace H := let_hid H
    obtain ⟨t_25, ht_25, H⟩ := H
    have ct_25 := cat_rule (P := Tryd.prog) ht_25 hl_t_25
    clear hl_t_25
    have hht_25 := Lib.hid ht_25
    clear ht_25
    replace H := bind_hid H
    obtain ⟨t_28, qt_28, H⟩ := H
    have nt_28 : ∀ d os, Calls Tryd.prog 25 #[.int .i64 x_light] (Go.Sort.grow (redrawn wt_4 d) os) fun e w'' => e = .returned (.string t_28) ∧ ∃ p : Regrown, w'' = Go.Sort.grow (redrawn wt_4 p.d) p.os := fun d os => Calls.regrown_of (Go.Proofs.YtpbbechgpgnpbaaDoor.GsL1Num.C (x_light)  _    qt_28)
    replace H := guard_hid H
    obtain ⟨hl_t_29, H⟩ := H
    replace H := let_hid H
    obtain ⟨t_29, ht_29, H⟩ := H
    have ct_29 := cat_rule (P := Tryd.prog) ht_29 hl_t_29
    clear hl_t_29
    have hht_29 := Lib.hid ht_29
    clear ht_29
    refine wp_region_quiet_below (by kernel_rfl) (by kernel_rfl) ?_
    repeat (go_big_quiet_step (first | (go_at_call 25; with_reducible exact nt_13 _ _) | (go_at_call 25; with_reducible exact nt_18 _ _) | (go_at_call 25; with_reducible exact nt_23 _ _) | (go_at_call 25; with_reducible exact nt_28 _ _) | (go_at_call 25; exact nt_13 _ _) | (go_at_call 25; exact nt_18 _ _) | (go_at_call 25; exact nt_23 _ _) | (go_at_call 25; exact nt_28 _ _)))
    refine wpQuiet_nil ?_
    intro Y3 hY3
    replace hY3 := below_class hY3
    clear nt_13 nt_18 nt_23 nt_28
    replace kx_0_0 := Hkx_0_0.out
    clear Hkx_0_0
    replace kx_0_1 := Hkx_0_1.out
    clear Hkx_0_1
    replace kx_0_2 := Hkx_0_2.out
    clear Hkx_0_2
    replace kx_0_3 := Hkx_0_3.out
    clear Hkx_0_3
    replace kx_0_4 := Hkx_0_4.out
    clear Hkx_0_4
    have HBY3 := Lib.hid (Below.step HBwt_4.out hY3)
    replace kx_0_0 := cell_below hY3 kx_0_0
    replace kx_0_1 := cell_below hY3 kx_0_1
    replace kx_0_2 := cell_below hY3 kx_0_2
    replace kx_0_3 := cell_below hY3 kx_0_3
    replace kx_0_4 := cell_below hY3 kx_0_4
    clear hY3
    cases ret_hid H
    go_wp2_with fail
    go_ret2
    exact ⟨rfl, HBY3.out⟩
end Go.Proofs.YtpbbechgpgnpbaaDoor.GsShadeText
