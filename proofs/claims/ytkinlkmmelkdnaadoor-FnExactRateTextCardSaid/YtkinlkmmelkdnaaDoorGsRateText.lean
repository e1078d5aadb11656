/- loop.example/g01062/spec.RateText as a plain function, and the contract of the program's: where the plain one has an answer, the program has it. Conditions: slices read as lists. -/
import Derived.Test.YtkinlkmmelkdnaaDoorChecked
import Derived.Test.YtkinlkmmelkdnaaDoorGoM
import Derived.Test.YtkinlkmmelkdnaaDoorGoRRate
import Derived.Test.YtkinlkmmelkdnaaDoorGsL8One
import Derived.Test.YtkinlkmmelkdnaaDoorGsL1Num
import Derived.WalkKit
import Derived.WalkSpells
import Derived.WalkLawsBesides
import Derived.BigQuiet
import Derived.OwnWalk
import Derived.Deep.LoopGhost
import Derived.Deep.QuietTactic
import Derived.IntWalk
import Derived.Lib.QuietBelow
namespace Go.Proofs.YtkinlkmmelkdnaaDoor.GsRateText
set_option linter.unusedVariables false
set_option linter.unusedSimpArgs false
open Go.RowKit
open Go.Proofs.YtkinlkmmelkdnaaDoor.Rowed Go.Proofs.YtkinlkmmelkdnaaDoor.Turn Go.Proofs.YtkinlkmmelkdnaaDoor.Aid Go.Proofs.YtkinlkmmelkdnaaDoor.GoP Go.Proofs.YtkinlkmmelkdnaaDoor.GoM

def P (r_0 : Go.Proofs.YtkinlkmmelkdnaaDoor.PRate.Rate) : Option (ByteArray × Bool) :=
  unRate r_0 fun (r_0_zone : Int) (r_0_grams : Int) (r_0_from_ : Int) (r_0_until_ : Int) (r_0_cents : Int) =>
  Option.bind (Go.Proofs.YtkinlkmmelkdnaaDoor.GsL8One.P (Go.Proofs.YtkinlkmmelkdnaaDoor.PRate.Rate.mk r_0_zone r_0_grams r_0_from_ r_0_until_ r_0_cents)) fun (t_4 : Bool) =>
  letK (!t_4) fun (t_5 : Bool) =>
  iteK t_5
  (some ((⟨#[]⟩ : ByteArray), false))
  (Option.bind (Go.Proofs.YtkinlkmmelkdnaaDoor.GsL1Num.P r_0_zone) fun (t_10 : ByteArray) =>
  guardK ((⟨#[122]⟩ : ByteArray).size + t_10.size ≤ maxLen) <|
  letK ((⟨#[122]⟩ : ByteArray) ++ t_10) fun (t_11 : ByteArray) =>
  guardK (t_11.size + (⟨#[32]⟩ : ByteArray).size ≤ maxLen) <|
  letK (t_11 ++ (⟨#[32]⟩ : ByteArray)) fun (t_12 : ByteArray) =>
  Option.bind (Go.Proofs.YtkinlkmmelkdnaaDoor.GsL1Num.P r_0_grams) fun (t_15 : ByteArray) =>
  guardK (t_12.size + t_15.size ≤ maxLen) <|
  letK (t_12 ++ t_15) fun (t_16 : ByteArray) =>
  guardK (t_16.size + (⟨#[103, 32]⟩ : ByteArray).size ≤ maxLen) <|
  letK (t_16 ++ (⟨#[103, 32]⟩ : ByteArray)) fun (t_17 : ByteArray) =>
  Option.bind (Go.Proofs.YtkinlkmmelkdnaaDoor.GsL1Num.P r_0_from_) fun (t_20 : ByteArray) =>
  guardK (t_17.size + t_20.size ≤ maxLen) <|
  letK (t_17 ++ t_20) fun (t_21 : ByteArray) =>
  guardK (t_21.size + (⟨#[46, 46]⟩ : ByteArray).size ≤ maxLen) <|
  letK (t_21 ++ (⟨#[46, 46]⟩ : ByteArray)) fun (t_22 : ByteArray) =>
  Option.bind (Go.Proofs.YtkinlkmmelkdnaaDoor.GsL1Num.P r_0_until_) fun (t_25 : ByteArray) =>
  guardK (t_22.size + t_25.size ≤ maxLen) <|
  letK (t_22 ++ t_25) fun (t_26 : ByteArray) =>
  guardK (t_26.size + (⟨#[32]⟩ : ByteArray).size ≤ maxLen) <|
  letK (t_26 ++ (⟨#[32]⟩ : ByteArray)) fun (t_27 : ByteArray) =>
  Option.bind (Go.Proofs.YtkinlkmmelkdnaaDoor.GsL1Num.P r_0_cents) fun (t_30 : ByteArray) =>
  guardK (t_27.size + t_30.size ≤ maxLen) <|
  letK (t_27 ++ t_30) fun (t_31 : ByteArray) =>
  guardK (t_31.size + (⟨#[99]⟩ : ByteArray).size ≤ maxLen) <|
  letK (t_31 ++ (⟨#[99]⟩ : ByteArray)) fun (t_32 : ByteArray) =>
  some (t_32, true))

set_option maxRecDepth 100000 in
set_option maxHeartbeats 2000000 in
theorem C (r_0 : Go.Proofs.YtkinlkmmelkdnaaDoor.PRate.Rate)   (w : World)   {r0 : ByteArray} {r1 : Bool} (H : Hid (P r_0 = some (r0, r1))) :
    Calls Tryd.prog 6 #[r_0.val] w (Gives (.tuple #[.string r0, .bool r1]) w) := by
  have HB := Lib.hid (Below.refl w.heap.size w)
  unfold P at H
  obtain ⟨r_0_zone, r_0_grams, r_0_from_, r_0_until_, r_0_cents⟩ := r_0
  replace H := unRate_hid H
  unfold Go.Proofs.YtkinlkmmelkdnaaDoor.PRate.Rate.val
  go_enter Tryd.func6, Tryd.ntmps6
  obtain ⟨w_r_0, hw_r_0⟩ : ∃ x, w.alloc (.cells #[.int .i64 r_0_zone, .int .i64 r_0_grams, .int .i64 r_0_from_, .int .i64 r_0_until_, .int .i64 r_0_cents] 26) = x := ⟨_, rfl⟩
  have bw_r_0 : Below w.heap.size w w_r_0 := by rw [← hw_r_0]; exact (Below.refl _ _).alloc (Nat.le_refl _) _
  have HBw_r_0 := Lib.hid (Below.step HB.out bw_r_0)
  clear bw_r_0
  have kr_0_0 : w_r_0.cell? ⟨w.heap.size, 0, none⟩ = some (.int .i64 r_0_zone) := by rw [← hw_r_0]; exact box_new _ _ _ 0 _ rfl
  have kr_0_1 : w_r_0.cell? ⟨w.heap.size, 1, none⟩ = some (.int .i64 r_0_grams) := by rw [← hw_r_0]; exact box_new _ _ _ 1 _ rfl
  have kr_0_2 : w_r_0.cell? ⟨w.heap.size, 2, none⟩ = some (.int .i64 r_0_from_) := by rw [← hw_r_0]; exact box_new _ _ _ 2 _ rfl
  have kr_0_3 : w_r_0.cell? ⟨w.heap.size, 3, none⟩ = some (.int .i64 r_0_until_) := by rw [← hw_r_0]; exact box_new _ _ _ 3 _ rfl
  have kr_0_4 : w_r_0.cell? ⟨w.heap.size, 4, none⟩ = some (.int .i64 r_0_cents) := by rw [← hw_r_0]; exact box_new _ _ _ 4 _ rfl
  replace H := bind_hid H
  obtain ⟨t_4, qt_4, H⟩ := H
  go_wp2_with fail
  go_at_call 42
  refine (Go.Proofs.YtkinlkmmelkdnaaDoor.GsL8One.C ((Go.Proofs.YtkinlkmmelkdnaaDoor.PRate.Rate.mk r_0_zone r_0_grams r_0_from_ r_0_until_ r_0_cents))  _    qt_4).mono ?_
  rintro e_t_4 wt_4 ⟨rfl, bt_4⟩
  have HBwt_4 := Lib.hid (Below.step HBw_r_0.out bt_4)
  replace kr_0_0 := cell_below bt_4 kr_0_0
  replace kr_0_1 := cell_below bt_4 kr_0_1
  replace kr_0_2 := cell_below bt_4 kr_0_2
  replace kr_0_3 := cell_below bt_4 kr_0_3
  replace kr_0_4 := cell_below bt_4 kr_0_4
  clear bt_4
  cases t_4 with
  | false =>
    replace H := let_hid H
    obtain ⟨t_5, ht_5, H⟩ := H
    obtain rfl : t_5 = true := ht_5.symm
    replace H := ite_t H
    cases ret_hid H
    go_wp2_with fail
    go_ret2
    exact ⟨rfl, HBwt_4.out⟩
  | true =>
    replace H := let_hid H
    obtain ⟨t_5, ht_5, H⟩ := H
    obtain rfl : t_5 = false := ht_5.symm
    replace H := ite_f H
    go_wp2_with fail
    have Hkr_0_0 := Lib.hid kr_0_0
    replace kr_0_0 := cell_regrown kr_0_0
    have Hkr_0_1 := Lib.hid kr_0_1
    replace kr_0_1 := cell_regrown kr_0_1
    have Hkr_0_2 := Lib.hid kr_0_2
    replace kr_0_2 := cell_regrown kr_0_2
    have Hkr_0_3 := Lib.hid kr_0_3
    replace kr_0_3 := cell_regrown kr_0_3
    have Hkr_0_4 := Lib.hid kr_0_4
    replace kr_0_4 := cell_regrown kr_0_4
    replace H := bind_hid H
    obtain ⟨t_10, qt_10, H⟩ := H
    have nt_10 : ∀ d os, Calls Tryd.prog 43 #[.int .i64 r_0_zone] (Go.Sort.grow (redrawn wt_4 d) os) fun e w'' => e = .returned (.string t_10) ∧ ∃ p : Regrown, w'' = Go.Sort.grow (redrawn wt_4 p.d) p.os := fun d os => Calls.regrown_of (Go.Proofs.YtkinlkmmelkdnaaDoor.GsL1Num.C (r_0_zone)  _    qt_10)
    replace H := guard_hid H
    obtain ⟨hl_t_11, H⟩ := H
    replace H := let_hid H
    obtain ⟨t_11, ht_11, H⟩ := H
    have ct_11 := cat_rule (P := Tryd.prog) ht_11 hl_t_11
    clear hl_t_11
    have hht_11 := Lib.hid ht_11
    clear ht_11
    replace H := guard_hid H
    obtain ⟨hl_t_12, H⟩ := H
    replace H := let_hid H
    obtain ⟨t_12, ht_12, H⟩ := H
    have ct_12 := cat_rule (P := Tryd.prog) ht_12 hl_t_12
    clear hl_t_12
    have hht_12 := Lib.hid ht_12
    clear ht_12
    replace H := bind_hid H
    obtain ⟨t_15, qt_15, H⟩ := H
    have nt_15 : ∀ d os, Calls Tryd.prog 43 #[.int .i64 r_0_grams] (Go.Sort.grow (redrawn wt_4 d) os) fun e w'' => e = .returned (.string t_15) ∧ ∃ p : Regrown, w'' = Go.Sort.grow (redrawn wt_4 p.d) p.os := fun d os => Calls.regrown_of (Go.Proofs.YtkinlkmmelkdnaaDoor.GsL1Num.C (r_0_grams)  _    qt_15)
    replace H := guard_hid H
    obtain ⟨hl_t_16, H⟩ := H
    replace H := let_hid H
    obtain ⟨t_16, ht_16, H⟩ := H
    have ct_16 := cat_rule (P := Tryd.prog) ht_16 hl_t_16
    clear hl_t_16
    have hht_16 := Lib.hid ht_16
    clear ht_16
    replace H := guard_hid H
    obtain ⟨hl_t_17, H⟩ := H
    replace H := let_hid H
    obtain ⟨t_17, ht_17, H⟩ := H
    have ct_17 := cat_rule (P := Tryd.prog) ht_17 hl_t_17
    clear hl_t_17
    have hht_17 := Lib.hid ht_17
    clear ht_17
    replace H := bind_hid H
    obtain ⟨t_20, qt_20, H⟩ := H
    have nt_20 : ∀ d os, Calls Tryd.prog 43 #[.int .i64 r_0_from_] (Go.Sort.grow (redrawn wt_4 d) os) fun e w'' => e = .returned (.string t_20) ∧ ∃ p : Regrown, w'' = Go.Sort.grow (redrawn wt_4 p.d) p.os := fun d os => Calls.regrown_of (Go.Proofs.YtkinlkmmelkdnaaDoor.GsL1Num.C (r_0_from_)  _    qt_20)
    replace H := guard_hid H
    obtain ⟨hl_t_21, H⟩ := H
    replace H := let_hid H
    obtain ⟨t_21, ht_21, H⟩ := H
    have ct_21 := cat_rule (P := Tryd.prog) ht_21 hl_t_21
    clear hl_t_21
    have hht_21 := Lib.hid ht_21
    clear ht_21
    replace H := guard_hid H
    obtain ⟨hl_t_22, H⟩ := H
    replace H := let_hid H
    obtain ⟨t_22, ht_22, H⟩ := H
    have ct_22 := cat_rule (P := Tryd.prog) ht_22 hl_t_22
    clear hl_t_22
    have hht_22 := Lib.hid ht_22
    clear ht_22
    replace H := bind_hid H
    obtain ⟨t_25, qt_25, H⟩ := H
    have nt_25 : ∀ d os, Calls Tryd.prog 43 #[.int .i64 r_0_until_] (Go.Sort.grow (redrawn wt_4 d) os) fun e w'' => e = .returned (.string t_25) ∧ ∃ p : Regrown, w'' = Go.Sort.grow (redrawn wt_4 p.d) p.os := fun d os => Calls.regrown_of (Go.Proofs.YtkinlkmmelkdnaaDoor.GsL1Num.C (r_0_until_)  _    qt_25)
    replace H := guard_hid H
    obtain ⟨hl_t_26, H⟩ := H
    replace H := let_hid H
    obtain ⟨t_26, ht_26, H⟩ := H
    have ct_26 := cat_rule (P := Tryd.prog) ht_26 hl_t_26
    clear hl_t_26
    have hht_26 := Lib.hid ht_26
    clear ht_26
    replace H := guard_hid H
    obtain ⟨hl_t_27, H⟩ := H
    replace H := let_hid H
    obtain ⟨t_27, ht_27, H⟩ := H
    have ct_27 := cat_rule (P := Tryd.prog) ht_27 hl_t_27
    clear hl_t_27
    have hht_27 := Lib.hid ht_27
    clear ht_27
    replace H := bind_hid H
    obtain ⟨t_30, qt_30, H⟩ := H
    have nt_30 : ∀ d os, Calls Tryd.prog 43 #[.int .i64 r_0_cents] (Go.Sort.grow (redrawn wt_4 d) os) fun e w'' => e = .returned (.string t_30) ∧ ∃ p : Regrown, w'' = Go.Sort.grow (redrawn wt_4 p.d) p.os := fun d os => Calls.regrown_of (Go.Proofs.YtkinlkmmelkdnaaDoor.GsL1Num.C (r_0_cents)  _    qt_30)
    replace H := guard_hid H
    obtain ⟨hl_t_31, H⟩ := H
    replace H := let_hid H
    obtain ⟨t_31, ht_31, H⟩ := H
    have ct_31 := cat_rule (P := Tryd.prog) ht_31 hl_t_31
    clear hl_t_31
    have hht_31 := Lib.hid ht_31
    clear ht_31
    replace H := guard_hid H
    obtain ⟨hl_t_32, H⟩ := H
    replace H := let_hid H
    obtain ⟨t_32, ht_32, H⟩ := H
    have ct_32 := cat_rule (P := Tryd.prog) ht_32 hl_t_32
    clear hl_t_32
    have hht_32 := Lib.hid ht_32
    clear ht_32
    refine wp_region_quiet_below (by kernel_rfl) (by kernel_rfl) ?_
    repeat (go_big_quiet_step (first | (go_at_call 43; with_reducible exact nt_10 _ _) | (go_at_call 43; with_reducible exact nt_15 _ _) | (go_at_call 43; with_reducible exact nt_20 _ _) | (go_at_call 43; with_reducible exact nt_25 _ _) | (go_at_call 43; with_reducible exact nt_30 _ _) | (go_at_call 43; exact nt_10 _ _) | (go_at_call 43; exact nt_15 _ _) | (go_at_call 43; exact nt_20 _ _) | (go_at_call 43; exact nt_25 _ _) | (go_at_call 43; exact nt_30 _ _)))
    refine wpQuiet_nil ?_
    intro Y3 hY3
    replace hY3 := below_class hY3
    clear nt_10 nt_15 nt_20 nt_25 nt_30
    replace kr_0_0 := Hkr_0_0.out
    clear Hkr_0_0
    replace kr_0_1 := Hkr_0_1.out
    clear Hkr_0_1
    replace kr_0_2 := Hkr_0_2.out
    clear Hkr_0_2
    replace kr_0_3 := Hkr_0_3.out
    clear Hkr_0_3
    replace kr_0_4 := Hkr_0_4.out
    clear Hkr_0_4
    have HBY3 := Lib.hid (Below.step HBwt_4.out hY3)
    replace kr_0_0 := cell_below hY3 kr_0_0
    replace kr_0_1 := cell_below hY3 kr_0_1
    replace kr_0_2 := cell_below hY3 kr_0_2
    replace kr_0_3 := cell_below hY3 kr_0_3
    replace kr_0_4 := cell_below hY3 kr_0_4
    clear hY3
    cases ret_hid H
    go_wp2_with fail
    go_ret2
    exact ⟨rfl, HBY3.out⟩
end Go.Proofs.YtkinlkmmelkdnaaDoor.GsRateText
