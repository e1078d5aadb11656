/- Texts on which the proofs of several laws stand, one behind the other (10 of 13). No condition of their own. -/
import Derived.Test.YtlljmgphgmklcaaChecked
import Derived.Test.YtlljmgphgmklcaaW10P1
import Derived.Test.YtlljmgphgmklcaaW10P9
import Derived.WalkKit
import Derived.WalkSpells
import Derived.WalkLawsBesides
import Derived.BigQuiet
import Derived.OwnWalk
import Derived.Deep.LoopGhost
import Derived.Deep.QuietTactic
import Derived.IntWalk
import Derived.Lib.QuietBelow
import Derived.Test.YtlljmgphgmklcaaW10P5
import Derived.Test.YtlljmgphgmklcaaW10P7
import Derived.Deep.RegionHeld3
import Derived.Test.YtlljmgphgmklcaaW10P3
import Derived.Test.YtlljmgphgmklcaaW10P4
import Derived.Test.YtlljmgphgmklcaaW10P2
/- slices.IndexFunc[[]loop.example/g01062/impl.Rate,loop.example/g01062/impl.Rate] as a plain function, and the contract of the program's: where the plain one has an answer, the program has it. Conditions: slices read as lists. -/
namespace Go.Proofs.Ytlljmgphgmklcaa.GxSlicesIndexFuncLoopExampleG01062ImplRateLoopExampleG01062ImplRateiStrangeRates1
set_option linter.unusedVariables false
set_option linter.unusedSimpArgs false
open Go.RowKit
open Go.Proofs.Ytlljmgphgmklcaa.Rowed Go.Proofs.Ytlljmgphgmklcaa.Turn Go.Proofs.Ytlljmgphgmklcaa.Aid Go.Proofs.Ytlljmgphgmklcaa.GoP Go.Proofs.Ytlljmgphgmklcaa.GoM

def l0 (s_0 : (List Go.Proofs.Ytlljmgphgmklcaa.PRate.Rate)) (hf1_0_zone : Int) (hf1_0_grams : Int) (hf1_0_from_ : Int) (hf1_0_until_ : Int) (hf1_0_cents : Int) (k0 : Nat) (s : Unit) (nx0 bk0 : Unit → Option (Int)) : Option (Int) :=
  
  Option.bind (idx s_0 (k0 : Int)) fun (yt_10 : Go.Proofs.Ytlljmgphgmklcaa.PRate.Rate) =>
  unRate yt_10 fun (t_10_zone : Int) (t_10_grams : Int) (t_10_from_ : Int) (t_10_until_ : Int) (t_10_cents : Int) =>
  Option.bind (Go.Proofs.Ytlljmgphgmklcaa.GiStrangeRates1.P (Go.Proofs.Ytlljmgphgmklcaa.PRate.Rate.mk t_10_zone t_10_grams t_10_from_ t_10_until_ t_10_cents) hf1_0_zone hf1_0_grams hf1_0_from_ hf1_0_until_ hf1_0_cents) fun (t_12 : Bool) =>
  iteK t_12
  (some (k0 : Int))
  (appK nx0 ())

def e0  (s : Unit) : Option (Int) :=
  
  some (-1)

def P (s_0 : (List Go.Proofs.Ytlljmgphgmklcaa.PRate.Rate)) (hf1_0_zone : Int) (hf1_0_grams : Int) (hf1_0_from_ : Int) (hf1_0_until_ : Int) (hf1_0_cents : Int) : Option (Int) :=
  cntK (l0 s_0 hf1_0_zone hf1_0_grams hf1_0_from_ hf1_0_until_ hf1_0_cents) (s_0.length) 0 () (e0 )

set_option maxRecDepth 100000 in
set_option maxHeartbeats 2000000 in
theorem C (s_0 : (List Go.Proofs.Ytlljmgphgmklcaa.PRate.Rate)) (hf1_0_zone : Int) (hf1_0_grams : Int) (hf1_0_from_ : Int) (hf1_0_until_ : Int) (hf1_0_cents : Int) (A0 : Option Addr) (c0 : Nat) (gf1_0 : Nat) (w : World) (M0 : Hid (Cells w 5 A0 s_0.length (Go.Proofs.Ytlljmgphgmklcaa.PRate.flat s_0))) (N0 : Hid (s_0.length ≤ 9223372036854775807)) (Ff1_0_0h : Hid (w.cell? ⟨gf1_0, 0, none⟩ = some (.int .i64 hf1_0_zone))) (Ff1_0_1h : Hid (w.cell? ⟨gf1_0, 1, none⟩ = some (.int .i64 hf1_0_grams))) (Ff1_0_2h : Hid (w.cell? ⟨gf1_0, 2, none⟩ = some (.int .i64 hf1_0_from_))) (Ff1_0_3h : Hid (w.cell? ⟨gf1_0, 3, none⟩ = some (.int .i64 hf1_0_until_))) (Ff1_0_4h : Hid (w.cell? ⟨gf1_0, 4, none⟩ = some (.int .i64 hf1_0_cents))) {r : Int} (H : Hid (P s_0 hf1_0_zone hf1_0_grams hf1_0_from_ hf1_0_until_ hf1_0_cents = some r)) :
    Calls Try.prog 125 #[.slice A0 s_0.length c0, .func (.func 137) #[] #[.pointer (some ⟨gf1_0, 0, none⟩)]] w (Gives (.int .i64 r) w) := by
  have HB := Lib.hid (Below.refl w.heap.size w)
  unfold P at H
  have N0o := N0.out
  have Ff1_0_0 := Ff1_0_0h.out
  have Ff1_0_1 := Ff1_0_1h.out
  have Ff1_0_2 := Ff1_0_2h.out
  have Ff1_0_3 := Ff1_0_3h.out
  have Ff1_0_4 := Ff1_0_4h.out
  go_enter Try.func125, Try.ntmps125
  go_wp2_with fail
  go_loopg [8] (s_0.length) (fun m_ v8_ wr => ∃ (k0 : Nat) , k0 + m_ = s_0.length ∧ v8_ = .int .i64 (k0 : Int) ∧ Hid (cntK (l0 s_0 hf1_0_zone hf1_0_grams hf1_0_from_ hf1_0_until_ hf1_0_cents) m_ k0 () (e0 ) = some r) ∧ Hid (Below w.heap.size w wr) ∧ wr.cell? ⟨gf1_0, 0, none⟩ = some (.int .i64 hf1_0_zone) ∧ wr.cell? ⟨gf1_0, 1, none⟩ = some (.int .i64 hf1_0_grams) ∧ wr.cell? ⟨gf1_0, 2, none⟩ = some (.int .i64 hf1_0_from_) ∧ wr.cell? ⟨gf1_0, 3, none⟩ = some (.int .i64 hf1_0_until_) ∧ wr.cell? ⟨gf1_0, 4, none⟩ = some (.int .i64 hf1_0_cents))
  case atStart => exact ⟨0, by omega, rfl, H, HB, Ff1_0_0, Ff1_0_1, Ff1_0_2, Ff1_0_3, Ff1_0_4⟩
  case round =>
    obtain ⟨k0, hkm0, rfl, H, HBwr0, Ff1_0_0, Ff1_0_1, Ff1_0_2, Ff1_0_3, Ff1_0_4⟩ := hrel
    rename World => wr0
    cases gk with
    | zero =>
      obtain rfl : k0 = s_0.length := by omega
      have hc0 : decide (((s_0.length : Nat) : Int) < ((s_0.length : Nat) : Int)) = false := by simp
      replace H := cnt_zero H
      unfold e0 at H
      obtain rfl := ret_hid H
      go_wp2_with fail
      go_ret
      exact ⟨rfl, HBwr0.out⟩
    | succ m0 =>
      have hlt0 : k0 < s_0.length := by omega
      have hc0 : decide ((k0 : Int) < ((s_0.length : Nat) : Int)) = true := by simp; omega
      replace H := cnt_succ H
      unfold l0 at H
      replace H := idx_hid H
      obtain ⟨nt_10, yt_10, et_10, lt_10, gt_10, H⟩ := H
      obtain rfl : k0 = nt_10 := by omega
      clear et_10
      obtain ⟨t_10_zone, t_10_grams, t_10_from_, t_10_until_, t_10_cents⟩ := yt_10
      replace H := unRate_hid H
      obtain ⟨ab_t_10, ao_t_10, zt_10, At_10, z_t_10, ct_10_0, ct_10_1, ct_10_2, ct_10_3, ct_10_4⟩ := Go.Proofs.Ytlljmgphgmklcaa.ORate.at_ M0.out lt_10
      obtain rfl := Option.some.inj (gt_10.out.symm.trans z_t_10)
      subst At_10
      have ltt_10 := cell_lt ct_10_0
      replace ct_10_0 := cell_below HBwr0.out ct_10_0
      replace ct_10_1 := cell_below HBwr0.out ct_10_1
      replace ct_10_2 := cell_below HBwr0.out ct_10_2
      replace ct_10_3 := cell_below HBwr0.out ct_10_3
      replace ct_10_4 := cell_below HBwr0.out ct_10_4
      clear z_t_10
      have b0t_10 : (0 : Int) ≤ (k0 : Int) := by omega
      have b1t_10 : (k0 : Int) < ((s_0.length : Nat) : Int) := by omega
      have b2t_10 : ((k0 : Int)).toNat = k0 := by omega
      replace H := bind_hid H
      obtain ⟨t_12, qt_12, H⟩ := H
      go_wp2_with fail
      go_at_call 137
      refine (Go.Proofs.Ytlljmgphgmklcaa.GiStrangeRates1.C ((Go.Proofs.Ytlljmgphgmklcaa.PRate.Rate.mk t_10_zone t_10_grams t_10_from_ t_10_until_ t_10_cents)) (hf1_0_zone) (hf1_0_grams) (hf1_0_from_) (hf1_0_until_) (hf1_0_cents) (gf1_0) _   (Lib.hid Ff1_0_0) (Lib.hid Ff1_0_1) (Lib.hid Ff1_0_2) (Lib.hid Ff1_0_3) (Lib.hid Ff1_0_4) qt_12).mono ?_
      rintro e_t_12 wt_12 ⟨rfl, bt_12⟩
      have HBwt_12 := Lib.hid (Below.step HBwr0.out bt_12)
      replace Ff1_0_0 := cell_below bt_12 Ff1_0_0
      replace Ff1_0_1 := cell_below bt_12 Ff1_0_1
      replace Ff1_0_2 := cell_below bt_12 Ff1_0_2
      replace Ff1_0_3 := cell_below bt_12 Ff1_0_3
      replace Ff1_0_4 := cell_below bt_12 Ff1_0_4
      replace ct_10_0 := cell_below bt_12 ct_10_0
      replace ct_10_1 := cell_below bt_12 ct_10_1
      replace ct_10_2 := cell_below bt_12 ct_10_2
      replace ct_10_3 := cell_below bt_12 ct_10_3
      replace ct_10_4 := cell_below bt_12 ct_10_4
      clear bt_12
      cases t_12 with
      | false =>
        replace H := ite_f H
        replace H := app_hid H
        go_wp2_with fail
        go_roundg m0
        case measure => omega
        case rel => exact ⟨k0 + 1, by omega, by go_num, H, HBwt_12, Ff1_0_0, Ff1_0_1, Ff1_0_2, Ff1_0_3, Ff1_0_4⟩
      | true =>
        replace H := ite_t H
        obtain rfl := ret_hid H
        go_wp2_with fail
        go_ret
        exact ⟨rfl, HBwt_12.out⟩
end Go.Proofs.Ytlljmgphgmklcaa.GxSlicesIndexFuncLoopExampleG01062ImplRateLoopExampleG01062ImplRateiStrangeRates1

/- slices.ContainsFunc[[]loop.example/g01062/impl.Rate,loop.example/g01062/impl.Rate] as a plain function, and the contract of the program's: where the plain one has an answer, the program has it. Conditions: slices read as lists. -/
namespace Go.Proofs.Ytlljmgphgmklcaa.GxSlicesContainsFuncLoopExampleG01062ImplRateLoopExampleG01062ImplRateiStrangeRates1
set_option linter.unusedVariables false
set_option linter.unusedSimpArgs false
open Go.RowKit
open Go.Proofs.Ytlljmgphgmklcaa.Rowed Go.Proofs.Ytlljmgphgmklcaa.Turn Go.Proofs.Ytlljmgphgmklcaa.Aid Go.Proofs.Ytlljmgphgmklcaa.GoP Go.Proofs.Ytlljmgphgmklcaa.GoM

def P (s_0 : (List Go.Proofs.Ytlljmgphgmklcaa.PRate.Rate)) (hf1_0_zone : Int) (hf1_0_grams : Int) (hf1_0_from_ : Int) (hf1_0_until_ : Int) (hf1_0_cents : Int) : Option (Bool) :=
  Option.bind (Go.Proofs.Ytlljmgphgmklcaa.GxSlicesIndexFuncLoopExampleG01062ImplRateLoopExampleG01062ImplRateiStrangeRates1.P s_0 hf1_0_zone hf1_0_grams hf1_0_from_ hf1_0_until_ hf1_0_cents) fun (t_3 : Int) =>
  letK (decide (0 ≤ t_3)) fun (t_4 : Bool) =>
  some t_4

set_option maxRecDepth 100000 in
set_option maxHeartbeats 2000000 in
theorem C (s_0 : (List Go.Proofs.Ytlljmgphgmklcaa.PRate.Rate)) (hf1_0_zone : Int) (hf1_0_grams : Int) (hf1_0_from_ : Int) (hf1_0_until_ : Int) (hf1_0_cents : Int) (A0 : Option Addr) (c0 : Nat) (gf1_0 : Nat) (w : World) (M0 : Hid (Cells w 5 A0 s_0.length (Go.Proofs.Ytlljmgphgmklcaa.PRate.flat s_0))) (N0 : Hid (s_0.length ≤ 9223372036854775807)) (Ff1_0_0h : Hid (w.cell? ⟨gf1_0, 0, none⟩ = some (.int .i64 hf1_0_zone))) (Ff1_0_1h : Hid (w.cell? ⟨gf1_0, 1, none⟩ = some (.int .i64 hf1_0_grams))) (Ff1_0_2h : Hid (w.cell? ⟨gf1_0, 2, none⟩ = some (.int .i64 hf1_0_from_))) (Ff1_0_3h : Hid (w.cell? ⟨gf1_0, 3, none⟩ = some (.int .i64 hf1_0_until_))) (Ff1_0_4h : Hid (w.cell? ⟨gf1_0, 4, none⟩ = some (.int .i64 hf1_0_cents))) {r : Bool} (H : Hid (P s_0 hf1_0_zone hf1_0_grams hf1_0_from_ hf1_0_until_ hf1_0_cents = some r)) :
    Calls Try.prog 136 #[.slice A0 s_0.length c0, .func (.func 137) #[] #[.pointer (some ⟨gf1_0, 0, none⟩)]] w (Gives (.bool r) w) := by
  have HB := Lib.hid (Below.refl w.heap.size w)
  unfold P at H
  have N0o := N0.out
  have Ff1_0_0 := Ff1_0_0h.out
  have Ff1_0_1 := Ff1_0_1h.out
  have Ff1_0_2 := Ff1_0_2h.out
  have Ff1_0_3 := Ff1_0_3h.out
  have Ff1_0_4 := Ff1_0_4h.out
  go_enter Try.func136, Try.ntmps136
  replace H := bind_hid H
  obtain ⟨t_3, qt_3, H⟩ := H
  go_wp2_with fail
  go_at_call 125
  refine (Go.Proofs.Ytlljmgphgmklcaa.GxSlicesIndexFuncLoopExampleG01062ImplRateLoopExampleG01062ImplRateiStrangeRates1.C (s_0) (hf1_0_zone) (hf1_0_grams) (hf1_0_from_) (hf1_0_until_) (hf1_0_cents) A0 c0 (gf1_0) _   (Lib.hid (Cells.below M0.out HB.out)) N0 (Lib.hid Ff1_0_0) (Lib.hid Ff1_0_1) (Lib.hid Ff1_0_2) (Lib.hid Ff1_0_3) (Lib.hid Ff1_0_4) qt_3).mono ?_
  rintro e_t_3 wt_3 ⟨rfl, bt_3⟩
  have HBwt_3 := Lib.hid (Below.step HB.out bt_3)
  replace Ff1_0_0 := cell_below bt_3 Ff1_0_0
  replace Ff1_0_1 := cell_below bt_3 Ff1_0_1
  replace Ff1_0_2 := cell_below bt_3 Ff1_0_2
  replace Ff1_0_3 := cell_below bt_3 Ff1_0_3
  replace Ff1_0_4 := cell_below bt_3 Ff1_0_4
  clear bt_3
  replace H := let_hid H
  obtain ⟨t_4, ht_4, H⟩ := H
  obtain rfl := ret_hid H
  go_wp2_with fail
  go_ret
  exact ⟨rfl, HBwt_3.out⟩
end Go.Proofs.Ytlljmgphgmklcaa.GxSlicesContainsFuncLoopExampleG01062ImplRateLoopExampleG01062ImplRateiStrangeRates1

/- loop.example/g01062/impl.StrangeRates as a plain function, and the contract of the program's: where the plain one has an answer, the program has it. Conditions: slices read as lists. -/
namespace Go.Proofs.Ytlljmgphgmklcaa.GiStrangeRates
set_option linter.unusedVariables false
set_option linter.unusedSimpArgs false
open Go.RowKit
open Go.Proofs.Ytlljmgphgmklcaa.Rowed Go.Proofs.Ytlljmgphgmklcaa.Turn Go.Proofs.Ytlljmgphgmklcaa.Aid Go.Proofs.Ytlljmgphgmklcaa.GoP Go.Proofs.Ytlljmgphgmklcaa.GoM

def l0 (list : (List Go.Proofs.Ytlljmgphgmklcaa.PRate.Rate)) (k0 : Nat) (s : (List Int)) (nx0 bk0 : (List Int) → Option ((List Int) × Bool)) : Option ((List Int) × Bool) :=
  letK s fun strange_4l0 =>
  Option.bind (idx list (k0 : Int)) fun (yt_15 : Go.Proofs.Ytlljmgphgmklcaa.PRate.Rate) =>
  unRate yt_15 fun (t_15_zone : Int) (t_15_grams : Int) (t_15_from_ : Int) (t_15_until_ : Int) (t_15_cents : Int) =>
  Option.bind (Go.Proofs.Ytlljmgphgmklcaa.GxSlicesContainsFuncLoopExampleG01062ImplRateLoopExampleG01062ImplRateiStrangeRates1.P list t_15_zone t_15_grams t_15_from_ t_15_until_ t_15_cents) fun (t_22 : Bool) =>
  iteK t_22
  (guardK (strange_4l0.length ≤ 1099511627776) <|
  letK (strange_4l0 ++ [(k0 : Int)]) fun (t_26 : (List Int)) =>
  appK nx0 (t_26))
  (appK nx0 (strange_4l0))

def e0  (s : (List Int)) : Option ((List Int) × Bool) :=
  letK s fun strange_4l0 =>
  some (strange_4l0, true)

def P (list : (List Go.Proofs.Ytlljmgphgmklcaa.PRate.Rate)) : Option ((List Int) × Bool) :=
  Option.bind (Go.Proofs.Ytlljmgphgmklcaa.GiAreRates.P list) fun (t_3 : Bool) =>
  letK (!t_3) fun (t_4 : Bool) =>
  iteK t_4
  (some (([] : List Int), false))
  (cntK (l0 list) (list.length) 0 (([] : List Int)) (e0 ))

set_option maxRecDepth 100000 in
set_option maxHeartbeats 2000000 in
theorem C (list : (List Go.Proofs.Ytlljmgphgmklcaa.PRate.Rate)) (A0 : Option Addr) (c0 : Nat)  (w : World) (M0 : Hid (Cells w 5 A0 list.length (Go.Proofs.Ytlljmgphgmklcaa.PRate.flat list))) (N0 : Hid (list.length ≤ 9223372036854775807))  {r0 : (List Int)} {r1 : Bool} (H : Hid (P list = some (r0, r1))) :
    Calls Try.prog 72 #[.slice A0 list.length c0] w (fun e w' => ∃ A_r0 c_r0, e = .returned (.tuple #[.slice A_r0 r0.length c_r0, .bool r1]) ∧ w'.ownsRow w.heap.size 3 1 (.slice A_r0 r0.length c_r0) r0.length (Go.Proofs.Ytlljmgphgmklcaa.HelpInt.iv r0) ∧ Below w.heap.size w w') := by
  have HB := Lib.hid (Below.refl w.heap.size w)
  unfold P at H
  have N0o := N0.out
  obtain ⟨i0_3, hi_3, hz0_3, hz1_3, hz2_3⟩ := Aid.info_parts (P := Try.prog) (T := 3) (z := .int .i64 0) (s := 1) (b := 8) (by kernel_rfl)
  go_enter Try.func72, Try.ntmps72
  replace H := bind_hid H
  obtain ⟨t_3, qt_3, H⟩ := H
  go_wp2_with fail
  go_at_call 67
  refine (Go.Proofs.Ytlljmgphgmklcaa.GiAreRates.C (list) A0 c0 _   (Lib.hid (Cells.below M0.out HB.out)) N0 qt_3).mono ?_
  rintro e_t_3 wt_3 ⟨rfl, bt_3⟩
  have HBwt_3 := Lib.hid (Below.step HB.out bt_3)
  clear bt_3
  cases t_3 with
  | false =>
    replace H := let_hid H
    obtain ⟨t_4, ht_4, H⟩ := H
    obtain rfl : t_4 = true := ht_4.symm
    replace H := ite_t H
    obtain ⟨w_t_5, hw_t_5⟩ : ∃ x, wt_3.alloc (.cells #[] 3) = x := ⟨_, rfl⟩
    have bw_t_5 : Below wt_3.heap.size wt_3 w_t_5 := by rw [← hw_t_5]; exact (Below.refl _ _).alloc (Nat.le_refl _) _
    have Ot_5 : Hid (w_t_5.ownsRow w.heap.size 3 1 (.slice (some ⟨wt_3.heap.size, 0, none⟩) 0 0) 0 []) := Lib.hid (by rw [← hw_t_5]; exact own_empty HBwt_3.out.size)
    have HBw_t_5 := Lib.hid (Below.step HBwt_3.out bw_t_5)
    clear bw_t_5
    cases ret_hid H
    go_wp2_with fail
    go_ret2
    exact ⟨(some ⟨wt_3.heap.size, 0, none⟩), 0, rfl, Ot_5.out, HBw_t_5.out⟩
  | true =>
    replace H := let_hid H
    obtain ⟨t_4, ht_4, H⟩ := H
    obtain rfl : t_4 = false := ht_4.symm
    replace H := ite_f H
    obtain ⟨w_t_8, hw_t_8⟩ : ∃ x, wt_3.alloc (.cells #[] 3) = x := ⟨_, rfl⟩
    have bw_t_8 : Below wt_3.heap.size wt_3 w_t_8 := by rw [← hw_t_8]; exact (Below.refl _ _).alloc (Nat.le_refl _) _
    have Ot_8 : Hid (w_t_8.ownsRow w.heap.size 3 1 (.slice (some ⟨wt_3.heap.size, 0, none⟩) 0 0) 0 []) := Lib.hid (by rw [← hw_t_8]; exact own_empty HBwt_3.out.size)
    have HBw_t_8 := Lib.hid (Below.step HBwt_3.out bw_t_8)
    clear bw_t_8
    go_wp2_with fail
    go_loopg [14, 4] (list.length) (fun m_ v14_ v4_ wr => ∃ (k0 : Nat) (strange_4l0 : (List Int)) (Astrange_4l0 : Option Addr) (cstrange_4l0 : Nat), k0 + m_ = list.length ∧ v14_ = .int .i64 (k0 : Int) ∧ v4_ = .slice Astrange_4l0 strange_4l0.length cstrange_4l0 ∧ Hid (cntK (l0 list) m_ k0 (strange_4l0) (e0 ) = some (r0, r1)) ∧ Hid (Below w.heap.size w wr) ∧ Hid (wr.ownsRow w.heap.size 3 1 (.slice Astrange_4l0 strange_4l0.length cstrange_4l0) strange_4l0.length (Go.Proofs.Ytlljmgphgmklcaa.HelpInt.iv strange_4l0)))
    case atStart => exact ⟨0, _, _, _, by omega, rfl, rfl, H, HBw_t_8, Ot_8⟩
    case round =>
      obtain ⟨k0, strange_4l0, Astrange_4l0, cstrange_4l0, hkm0, rfl, rfl, H, HBwr0, Ostrange_4l0⟩ := hrel
      rename World => wr0
      cases gk with
      | zero =>
        obtain rfl : k0 = list.length := by omega
        have hc0 : decide (((list.length : Nat) : Int) < ((list.length : Nat) : Int)) = false := by simp
        replace H := cnt_zero H
        unfold e0 at H
        replace H := let_hid H
        obtain ⟨_, rfl, H⟩ := H
        cases ret_hid H
        go_wp2_with fail
        go_ret2
        exact ⟨Astrange_4l0, cstrange_4l0, rfl, Ostrange_4l0.out, HBwr0.out⟩
      | succ m0 =>
        have hlt0 : k0 < list.length := by omega
        have hc0 : decide ((k0 : Int) < ((list.length : Nat) : Int)) = true := by simp; omega
        replace H := cnt_succ H
        unfold l0 at H
        replace H := let_hid H
        obtain ⟨_, rfl, H⟩ := H
        replace H := idx_hid H
        obtain ⟨nt_15, yt_15, et_15, lt_15, gt_15, H⟩ := H
        obtain rfl : k0 = nt_15 := by omega
        clear et_15
        obtain ⟨t_15_zone, t_15_grams, t_15_from_, t_15_until_, t_15_cents⟩ := yt_15
        replace H := unRate_hid H
        obtain ⟨ab_t_15, ao_t_15, zt_15, At_15, z_t_15, ct_15_0, ct_15_1, ct_15_2, ct_15_3, ct_15_4⟩ := Go.Proofs.Ytlljmgphgmklcaa.ORate.at_ M0.out lt_15
        obtain rfl := Option.some.inj (gt_15.out.symm.trans z_t_15)
        subst At_15
        have ltt_15 := cell_lt ct_15_0
        replace ct_15_0 := cell_below HBwr0.out ct_15_0
        replace ct_15_1 := cell_below HBwr0.out ct_15_1
        replace ct_15_2 := cell_below HBwr0.out ct_15_2
        replace ct_15_3 := cell_below HBwr0.out ct_15_3
        replace ct_15_4 := cell_below HBwr0.out ct_15_4
        clear z_t_15
        have b0t_15 : (0 : Int) ≤ (k0 : Int) := by omega
        have b1t_15 : (k0 : Int) < ((list.length : Nat) : Int) := by omega
        have b2t_15 : ((k0 : Int)).toNat = k0 := by omega
        obtain ⟨w_r_17, hw_r_17⟩ : ∃ x, wr0.alloc (.cells #[.int .i64 t_15_zone, .int .i64 t_15_grams, .int .i64 t_15_from_, .int .i64 t_15_until_, .int .i64 t_15_cents] 104) = x := ⟨_, rfl⟩
        have bw_r_17 : Below wr0.heap.size wr0 w_r_17 := by rw [← hw_r_17]; exact (Below.refl _ _).alloc (Nat.le_refl _) _
        have Dr_17_strange_4l0 := Lib.hid (apart_fresh Ostrange_4l0.out)
        have HBw_r_17 := Lib.hid (Below.step HBwr0.out bw_r_17)
        have ct_15_0__1464 := cell_below bw_r_17 ct_15_0
        have ct_15_1__1465 := cell_below bw_r_17 ct_15_1
        have ct_15_2__1466 := cell_below bw_r_17 ct_15_2
        have ct_15_3__1467 := cell_below bw_r_17 ct_15_3
        have ct_15_4__1468 := cell_below bw_r_17 ct_15_4
        replace Ostrange_4l0 := Lib.hid (own_below Ostrange_4l0.out bw_r_17)
        clear bw_r_17
        have kr_17_0 : w_r_17.cell? ⟨wr0.heap.size, 0, none⟩ = some (.int .i64 t_15_zone) := by rw [← hw_r_17]; exact box_new _ _ _ 0 _ rfl
        have kr_17_1 : w_r_17.cell? ⟨wr0.heap.size, 1, none⟩ = some (.int .i64 t_15_grams) := by rw [← hw_r_17]; exact box_new _ _ _ 1 _ rfl
        have kr_17_2 : w_r_17.cell? ⟨wr0.heap.size, 2, none⟩ = some (.int .i64 t_15_from_) := by rw [← hw_r_17]; exact box_new _ _ _ 2 _ rfl
        have kr_17_3 : w_r_17.cell? ⟨wr0.heap.size, 3, none⟩ = some (.int .i64 t_15_until_) := by rw [← hw_r_17]; exact box_new _ _ _ 3 _ rfl
        have kr_17_4 : w_r_17.cell? ⟨wr0.heap.size, 4, none⟩ = some (.int .i64 t_15_cents) := by rw [← hw_r_17]; exact box_new _ _ _ 4 _ rfl
        replace H := bind_hid H
        obtain ⟨t_22, qt_22, H⟩ := H
        go_wp2_with fail
        clear ct_15_0 ct_15_1 ct_15_2 ct_15_3 ct_15_4
        go_at_call 136
        refine (Go.Proofs.Ytlljmgphgmklcaa.GxSlicesContainsFuncLoopExampleG01062ImplRateLoopExampleG01062ImplRateiStrangeRates1.C (list) (t_15_zone) (t_15_grams) (t_15_from_) (t_15_until_) (t_15_cents) (some ⟨ab_t_15, ao_t_15, none⟩) c0 (wr0.heap.size) _   (Lib.hid (Cells.below M0.out HBw_r_17.out)) N0 (Lib.hid kr_17_0) (Lib.hid kr_17_1) (Lib.hid kr_17_2) (Lib.hid kr_17_3) (Lib.hid kr_17_4) qt_22).mono ?_
        rintro e_t_22 wt_22 ⟨rfl, bt_22⟩
        have HBwt_22 := Lib.hid (Below.step HBw_r_17.out bt_22)
        replace ct_15_0__1464 := cell_below bt_22 ct_15_0__1464
        replace ct_15_1__1465 := cell_below bt_22 ct_15_1__1465
        replace ct_15_2__1466 := cell_below bt_22 ct_15_2__1466
        replace ct_15_3__1467 := cell_below bt_22 ct_15_3__1467
        replace ct_15_4__1468 := cell_below bt_22 ct_15_4__1468
        replace kr_17_0 := cell_below bt_22 kr_17_0
        replace kr_17_1 := cell_below bt_22 kr_17_1
        replace kr_17_2 := cell_below bt_22 kr_17_2
        replace kr_17_3 := cell_below bt_22 kr_17_3
        replace kr_17_4 := cell_below bt_22 kr_17_4
        replace Ostrange_4l0 := Lib.hid (own_below Ostrange_4l0.out bt_22)
        clear bt_22
        cases t_22 with
        | false =>
          replace H := ite_f H
          replace H := app_hid H
          go_wp2_with fail
          go_roundg m0
          case measure => omega
          case rel => exact ⟨k0 + 1, _, _, _, by omega, by go_num, rfl, H, HBwt_22, Ostrange_4l0⟩
        | true =>
          replace H := ite_t H
          obtain ⟨w_t_25, hw_t_25⟩ : ∃ x, wt_22.alloc (.cells #[.int .i64 (k0 : Int)] 3) = x := ⟨_, rfl⟩
          have bw_t_25 : Below wt_22.heap.size wt_22 w_t_25 := by rw [← hw_t_25]; exact (Below.refl _ _).alloc (Nat.le_refl _) _
          have HBw_t_25 := Lib.hid (Below.step HBwt_22.out bw_t_25)
          have ct_15_0__1469 := cell_below bw_t_25 ct_15_0__1464
          have ct_15_1__1470 := cell_below bw_t_25 ct_15_1__1465
          have ct_15_2__1471 := cell_below bw_t_25 ct_15_2__1466
          have ct_15_3__1472 := cell_below bw_t_25 ct_15_3__1467
          have ct_15_4__1473 := cell_below bw_t_25 ct_15_4__1468
          have kr_17_0__1474 := cell_below bw_t_25 kr_17_0
          have kr_17_1__1475 := cell_below bw_t_25 kr_17_1
          have kr_17_2__1476 := cell_below bw_t_25 kr_17_2
          have kr_17_3__1477 := cell_below bw_t_25 kr_17_3
          have kr_17_4__1478 := cell_below bw_t_25 kr_17_4
          replace Ostrange_4l0 := Lib.hid (own_below Ostrange_4l0.out bw_t_25)
          clear bw_t_25
          replace H := guard_hid H
          obtain ⟨hlt_26, H⟩ := H
          replace H := let_hid H
          obtain ⟨t_26, ht_26, H⟩ := H
          have hht_26 := Lib.hid ht_26
          clear ht_26
          have hst_26 := HBw_t_25.out.size
          go_wp2_with (at_builtin; refine wpList_append_own_at _ rfl _ _ 48 rfl w.heap.size 3 i0_3 (.int .i64 0) 1 8 Try.underlying48 hi_3 hz0_3 hz1_3 hz2_3 rfl (by decide) _ _ _ rfl Ostrange_4l0.out ⟨wt_22.heap.size, 0, none⟩ 1 1 [.int .i64 (k0 : Int)] rfl rfl (news_new hw_t_25) (one_cells rfl) (by unfold maxLen; omega) (by omega) hst_26 ?_; intro vt_26 wt_26 ot_26 gt_26 zt_26 yt_26; clear zt_26; obtain ⟨qt_26, ct_26, rfl, pt_26⟩ := own_push hht_26.out (Go.Proofs.Ytlljmgphgmklcaa.HelpInt.iv_snoc _ _) rfl ot_26; have Pt_26 := Lib.hid pt_26; have Yt_26 := Lib.hid yt_26; have Gt_26 := Lib.hid gt_26; clear ot_26 gt_26 pt_26 yt_26; refine stop_in ?_)
          refine stop_out ?_
          have HBwt_26 := Lib.hid (HBw_t_25.out.grown Gt_26.out hst_26 (fun q hq => (Ostrange_4l0.out.lt q hq).1))
          clear hst_26
          have Dt_26_r_17 : Hid (Apart (some ⟨qt_26, 0, none⟩) _) := Lib.hid (apart_app (Apart.symm Dr_17_strange_4l0.out) (fun a_ ha_ => by cases ha_; exact cell_lt kr_17_0__1474) Yt_26.out)
          replace ct_15_0__1469 := cell_other ct_15_0__1469 Gt_26.out (apart_old Ostrange_4l0.out ltt_15)
          replace ct_15_1__1470 := cell_other ct_15_1__1470 Gt_26.out (apart_old Ostrange_4l0.out ltt_15)
          replace ct_15_2__1471 := cell_other ct_15_2__1471 Gt_26.out (apart_old Ostrange_4l0.out ltt_15)
          replace ct_15_3__1472 := cell_other ct_15_3__1472 Gt_26.out (apart_old Ostrange_4l0.out ltt_15)
          replace ct_15_4__1473 := cell_other ct_15_4__1473 Gt_26.out (apart_old Ostrange_4l0.out ltt_15)
          replace kr_17_0__1474 := cell_other kr_17_0__1474 Gt_26.out (Apart.symm Dr_17_strange_4l0.out)
          replace kr_17_1__1475 := cell_other kr_17_1__1475 Gt_26.out (Apart.symm Dr_17_strange_4l0.out)
          replace kr_17_2__1476 := cell_other kr_17_2__1476 Gt_26.out (Apart.symm Dr_17_strange_4l0.out)
          replace kr_17_3__1477 := cell_other kr_17_3__1477 Gt_26.out (Apart.symm Dr_17_strange_4l0.out)
          replace kr_17_4__1478 := cell_other kr_17_4__1478 Gt_26.out (Apart.symm Dr_17_strange_4l0.out)
          clear ct_15_0__1464 ct_15_1__1465 ct_15_2__1466 ct_15_3__1467 ct_15_4__1468 kr_17_0 kr_17_1 kr_17_2 kr_17_3 kr_17_4
          clear Ostrange_4l0 Yt_26 Gt_26
          replace H := app_hid H
          go_wp2_with fail
          go_roundg m0
          case measure => omega
          case rel => exact ⟨k0 + 1, _, _, _, by omega, by go_num, rfl, H, HBwt_26, Pt_26⟩
end Go.Proofs.Ytlljmgphgmklcaa.GiStrangeRates

/- loop.example/g01062/spec.StrangeRates as a plain function, and the contract of the program's: where the plain one has an answer, the program has it. Conditions: slices read as lists. -/
namespace Go.Proofs.Ytlljmgphgmklcaa.GsStrangeRates
set_option linter.unusedVariables false
set_option linter.unusedSimpArgs false
open Go.RowKit
open Go.Proofs.Ytlljmgphgmklcaa.Rowed Go.Proofs.Ytlljmgphgmklcaa.Turn Go.Proofs.Ytlljmgphgmklcaa.Aid Go.Proofs.Ytlljmgphgmklcaa.GoP Go.Proofs.Ytlljmgphgmklcaa.GoM

def l1 (list : (List Go.Proofs.Ytlljmgphgmklcaa.PRate.Rate)) (k0 : Nat) (k1 : Nat) (s : Bool) (nx1 bk1 : Bool → Option ((List Int) × Bool)) : Option ((List Int) × Bool) :=
  letK s fun strange_6l1 =>
  Option.bind (idx list (k1 : Int)) fun (yt_22 : Go.Proofs.Ytlljmgphgmklcaa.PRate.Rate) =>
  unRate yt_22 fun (t_22_zone : Int) (t_22_grams : Int) (t_22_from_ : Int) (t_22_until_ : Int) (t_22_cents : Int) =>
  Option.bind (idx list (k0 : Int)) fun (yt_26 : Go.Proofs.Ytlljmgphgmklcaa.PRate.Rate) =>
  unRate yt_26 fun (t_26_zone : Int) (t_26_grams : Int) (t_26_from_ : Int) (t_26_until_ : Int) (t_26_cents : Int) =>
  joinK (fun (t_67 : Bool) =>
  appK nx1 (t_67)) fun jt_67 => iteK strange_6l1 (appK jt_67 true) (letK (t_22_zone == t_26_zone) fun (t_38 : Bool) =>
  joinK (fun (t_45 : Bool) =>
  joinK (fun (t_52 : Bool) =>
  joinK (fun (t_59 : Bool) =>
  joinK (fun (t_66 : Bool) =>
  appK jt_67 t_66) fun jt_66 => iteK t_59 (letK (decide (t_26_cents < t_22_cents)) fun (t_65 : Bool) =>
  appK jt_66 t_65) (appK jt_66 false)) fun jt_59 => iteK t_52 (letK (decide (t_26_from_ ≤ t_22_until_)) fun (t_58 : Bool) =>
  appK jt_59 t_58) (appK jt_59 false)) fun jt_52 => iteK t_45 (letK (decide (t_22_from_ ≤ t_26_until_)) fun (t_51 : Bool) =>
  appK jt_52 t_51) (appK jt_52 false)) fun jt_45 => iteK t_38 (letK (decide (t_22_grams < t_26_grams)) fun (t_44 : Bool) =>
  appK jt_45 t_44) (appK jt_45 false))

def e1 (nx0 : ((List Int)) → Option ((List Int) × Bool)) (out_4l0 : (List Int)) (k0 : Nat) (s : Bool) : Option ((List Int) × Bool) :=
  letK s fun strange_6l1 =>
  iteK strange_6l1
  (guardK (out_4l0.length ≤ 1099511627776) <|
  letK (out_4l0 ++ [(k0 : Int)]) fun (t_76 : (List Int)) =>
  appK nx0 (t_76))
  (appK nx0 (out_4l0))

def l0 (list : (List Go.Proofs.Ytlljmgphgmklcaa.PRate.Rate)) (k0 : Nat) (s : (List Int)) (nx0 bk0 : (List Int) → Option ((List Int) × Bool)) : Option ((List Int) × Bool) :=
  letK s fun out_4l0 =>
  guardK (k0 ≤ 9223372036854775807) <|
  cntK (l1 list k0) (k0) 0 (false) (e1 nx0 out_4l0 k0)

def e0  (s : (List Int)) : Option ((List Int) × Bool) :=
  letK s fun out_4l0 =>
  some (out_4l0, true)

def P (fuel : Nat) (list : (List Go.Proofs.Ytlljmgphgmklcaa.PRate.Rate)) : Option ((List Int) × Bool) :=
  Option.bind (Go.Proofs.Ytlljmgphgmklcaa.GsL8Good.P fuel list) fun (t_5 : Bool) =>
  letK (!t_5) fun (t_6 : Bool) =>
  iteK t_6
  (some (([] : List Int), false))
  (cntK (l0 list) (list.length) 0 (([] : List Int)) (e0 ))

set_option maxRecDepth 100000 in
set_option maxHeartbeats 2000000 in
theorem C (fuel : Nat) (list : (List Go.Proofs.Ytlljmgphgmklcaa.PRate.Rate)) (A0 : Option Addr) (c0 : Nat)  (w : World) (M0 : Hid (Cells w 5 A0 list.length (Go.Proofs.Ytlljmgphgmklcaa.PRate.flat list))) (N0 : Hid (list.length ≤ 9223372036854775807))  {r0 : (List Int)} {r1 : Bool} (H : Hid (P fuel list = some (r0, r1))) :
    Calls Try.prog 73 #[.slice A0 list.length c0] w (fun e w' => ∃ A_r0 c_r0, e = .returned (.tuple #[.slice A_r0 r0.length c_r0, .bool r1]) ∧ w'.ownsRow w.heap.size 3 1 (.slice A_r0 r0.length c_r0) r0.length (Go.Proofs.Ytlljmgphgmklcaa.HelpInt.iv r0) ∧ Below w.heap.size w w') := by
  have HB := Lib.hid (Below.refl w.heap.size w)
  unfold P at H
  have N0o := N0.out
  obtain ⟨i0_3, hi_3, hz0_3, hz1_3, hz2_3⟩ := Aid.info_parts (P := Try.prog) (T := 3) (z := .int .i64 0) (s := 1) (b := 8) (by kernel_rfl)
  go_enter Try.func73, Try.ntmps73
  obtain ⟨w_t_2, hw_t_2⟩ : ∃ x, w.alloc (.cells #[] 3) = x := ⟨_, rfl⟩
  have bw_t_2 : Below w.heap.size w w_t_2 := by rw [← hw_t_2]; exact (Below.refl _ _).alloc (Nat.le_refl _) _
  have Ot_2 : Hid (w_t_2.ownsRow w.heap.size 3 1 (.slice (some ⟨w.heap.size, 0, none⟩) 0 0) 0 []) := Lib.hid (by rw [← hw_t_2]; exact own_empty HB.out.size)
  have HBw_t_2 := Lib.hid (Below.step HB.out bw_t_2)
  clear bw_t_2
  replace H := bind_hid H
  obtain ⟨t_5, qt_5, H⟩ := H
  go_wp2_with fail
  go_at_call 89
  refine (Go.Proofs.Ytlljmgphgmklcaa.GsL8Good.C fuel (list) A0 c0 _   (Lib.hid (Cells.below M0.out HBw_t_2.out)) N0 qt_5).mono ?_
  rintro e_t_5 wt_5 ⟨rfl, bt_5⟩
  have HBwt_5 := Lib.hid (Below.step HBw_t_2.out bt_5)
  replace Ot_2 := Lib.hid (own_below Ot_2.out bt_5)
  clear bt_5
  cases t_5 with
  | false =>
    replace H := let_hid H
    obtain ⟨t_6, ht_6, H⟩ := H
    obtain rfl : t_6 = true := ht_6.symm
    replace H := ite_t H
    cases ret_hid H
    go_wp2_with fail
    go_ret2
    exact ⟨(some ⟨w.heap.size, 0, none⟩), 0, rfl, Ot_2.out, HBwt_5.out⟩
  | true =>
    replace H := let_hid H
    obtain ⟨t_6, ht_6, H⟩ := H
    obtain rfl : t_6 = false := ht_6.symm
    replace H := ite_f H
    go_wp2_with fail
    go_loopg [5, 4] (list.length) (fun m_ v5_ v4_ wr => ∃ (k0 : Nat) (out_4l0 : (List Int)) (Aout_4l0 : Option Addr) (cout_4l0 : Nat), k0 + m_ = list.length ∧ v5_ = .int .i64 (k0 : Int) ∧ v4_ = .slice Aout_4l0 out_4l0.length cout_4l0 ∧ Hid (cntK (l0 list) m_ k0 (out_4l0) (e0 ) = some (r0, r1)) ∧ Hid (Below w.heap.size w wr) ∧ Hid (wr.ownsRow w.heap.size 3 1 (.slice Aout_4l0 out_4l0.length cout_4l0) out_4l0.length (Go.Proofs.Ytlljmgphgmklcaa.HelpInt.iv out_4l0)))
    case atStart => exact ⟨0, _, _, _, by omega, rfl, rfl, H, HBwt_5, Ot_2⟩
    case round =>
      obtain ⟨k0, out_4l0, Aout_4l0, cout_4l0, hkm0, rfl, rfl, H, HBwr0, Oout_4l0⟩ := hrel
      rename World => wr0
      cases gk with
      | zero =>
        obtain rfl : k0 = list.length := by omega
        have hc0 : decide (((list.length : Nat) : Int) < ((list.length : Nat) : Int)) = false := by simp
        replace H := cnt_zero H
        unfold e0 at H
        replace H := let_hid H
        obtain ⟨_, rfl, H⟩ := H
        cases ret_hid H
        go_wp2_with fail
        go_ret2
        exact ⟨Aout_4l0, cout_4l0, rfl, Oout_4l0.out, HBwr0.out⟩
      | succ m0 =>
        have hlt0 : k0 < list.length := by omega
        have hc0 : decide ((k0 : Int) < ((list.length : Nat) : Int)) = true := by simp; omega
        replace H := cnt_succ H
        unfold l0 at H
        replace H := let_hid H
        obtain ⟨_, rfl, H⟩ := H
        replace H := guard_hid H
        obtain ⟨hg1, H⟩ := H
        go_wp2_with fail
        go_loopg [7, 6] (k0) (fun m_ v7_ v6_ wr => ∃ (k1 : Nat) (strange_6l1 : Bool), k1 + m_ = k0 ∧ v7_ = .int .i64 (k1 : Int) ∧ v6_ = .bool strange_6l1 ∧ Hid (cntK (l1 list k0) m_ k1 (strange_6l1) (e1 (fun s' => cntK (l0 list) m0 (k0 + 1) s' (e0 )) out_4l0 k0) = some (r0, r1)) ∧ Hid (Below w.heap.size w wr) ∧ Hid (wr.ownsRow w.heap.size 3 1 (.slice Aout_4l0 out_4l0.length cout_4l0) out_4l0.length (Go.Proofs.Ytlljmgphgmklcaa.HelpInt.iv out_4l0)))
        case atStart => exact ⟨0, _, by omega, rfl, rfl, H, HBwr0, Oout_4l0⟩
        case round =>
          obtain ⟨k1, strange_6l1, hkm1, rfl, rfl, H, HBwr1, Oout_4l0⟩ := hrel
          rename World => wr1
          cases gk with
          | zero =>
            obtain rfl : k0 = k1 := by omega
            have hc1 : decide (((k0 : Nat) : Int) < ((k0 : Nat) : Int)) = false := by simp
            replace H := cnt_zero H
            unfold e1 at H
            replace H := let_hid H
            obtain ⟨_, rfl, H⟩ := H
            cases strange_6l1 with
            | false =>
              replace H := ite_f H
              replace H := app_hid H
              go_wp2_with fail
              go_roundg m0
              case measure => omega
              case rel => exact ⟨k0 + 1, _, _, _, by omega, by go_num, rfl, H, HBwr1, Oout_4l0⟩
            | true =>
              replace H := ite_t H
              obtain ⟨w_t_75, hw_t_75⟩ : ∃ x, wr1.alloc (.cells #[.int .i64 (k0 : Int)] 3) = x := ⟨_, rfl⟩
              have bw_t_75 : Below wr1.heap.size wr1 w_t_75 := by rw [← hw_t_75]; exact (Below.refl _ _).alloc (Nat.le_refl _) _
              have HBw_t_75 := Lib.hid (Below.step HBwr1.out bw_t_75)
              replace Oout_4l0 := Lib.hid (own_below Oout_4l0.out bw_t_75)
              clear bw_t_75
              replace H := guard_hid H
              obtain ⟨hlt_76, H⟩ := H
              replace H := let_hid H
              obtain ⟨t_76, ht_76, H⟩ := H
              have hht_76 := Lib.hid ht_76
              clear ht_76
              have hst_76 := HBw_t_75.out.size
              go_wp2_with (at_builtin; refine wpList_append_own_at _ rfl _ _ 48 rfl w.heap.size 3 i0_3 (.int .i64 0) 1 8 Try.underlying48 hi_3 hz0_3 hz1_3 hz2_3 rfl (by decide) _ _ _ rfl Oout_4l0.out ⟨wr1.heap.size, 0, none⟩ 1 1 [.int .i64 (k0 : Int)] rfl rfl (news_new hw_t_75) (one_cells rfl) (by unfold maxLen; omega) (by omega) hst_76 ?_; intro vt_76 wt_76 ot_76 gt_76 zt_76 yt_76; clear zt_76; obtain ⟨qt_76, ct_76, rfl, pt_76⟩ := own_push hht_76.out (Go.Proofs.Ytlljmgphgmklcaa.HelpInt.iv_snoc _ _) rfl ot_76; have Pt_76 := Lib.hid pt_76; have Yt_76 := Lib.hid yt_76; have Gt_76 := Lib.hid gt_76; clear ot_76 gt_76 pt_76 yt_76; refine stop_in ?_)
              refine stop_out ?_
              have HBwt_76 := Lib.hid (HBw_t_75.out.grown Gt_76.out hst_76 (fun q hq => (Oout_4l0.out.lt q hq).1))
              clear hst_76
              clear Oout_4l0 Yt_76 Gt_76
              replace H := app_hid H
              go_wp2_with fail
              go_roundg m0
              case measure => omega
              case rel => exact ⟨k0 + 1, _, _, _, by omega, by go_num, rfl, H, HBwt_76, Pt_76⟩
          | succ m1 =>
            have hlt1 : k1 < k0 := by omega
            have hc1 : decide ((k1 : Int) < ((k0 : Nat) : Int)) = true := by simp; omega
            replace H := cnt_succ H
            unfold l1 at H
            replace H := let_hid H
            obtain ⟨_, rfl, H⟩ := H
            go_wp2_with fail
            have bd11 : Below wr1.heap.size wr1 wr1.drew := (Below.refl _ _).drew
            have HBwr1.drew := Lib.hid (Below.step HBwr1.out bd11)
            replace Oout_4l0 := Lib.hid (own_below Oout_4l0.out bd11)
            clear bd11
            replace H := idx_hid H
            obtain ⟨nt_22, yt_22, et_22, lt_22, gt_22, H⟩ := H
            obtain rfl : k1 = nt_22 := by omega
            clear et_22
            obtain ⟨t_22_zone, t_22_grams, t_22_from_, t_22_until_, t_22_cents⟩ := yt_22
            replace H := unRate_hid H
            obtain ⟨ab_t_22, ao_t_22, zt_22, At_22, z_t_22, ct_22_0, ct_22_1, ct_22_2, ct_22_3, ct_22_4⟩ := Go.Proofs.Ytlljmgphgmklcaa.ORate.at_ M0.out lt_22
            obtain rfl := Option.some.inj (gt_22.out.symm.trans z_t_22)
            subst At_22
            have ltt_22 := cell_lt ct_22_0
            replace ct_22_0 := cell_below HBwr1.drew.out ct_22_0
            replace ct_22_1 := cell_below HBwr1.drew.out ct_22_1
            replace ct_22_2 := cell_below HBwr1.drew.out ct_22_2
            replace ct_22_3 := cell_below HBwr1.drew.out ct_22_3
            replace ct_22_4 := cell_below HBwr1.drew.out ct_22_4
            clear z_t_22
            have b0t_22 : (0 : Int) ≤ (k1 : Int) := by omega
            have b1t_22 : (k1 : Int) < ((list.length : Nat) : Int) := by omega
            have b2t_22 : ((k1 : Int)).toNat = k1 := by omega
            replace H := idx_hid H
            obtain ⟨nt_26, yt_26, et_26, lt_26, gt_26, H⟩ := H
            obtain rfl : k0 = nt_26 := by omega
            clear et_26
            obtain ⟨t_26_zone, t_26_grams, t_26_from_, t_26_until_, t_26_cents⟩ := yt_26
            replace H := unRate_hid H
            obtain ⟨ab_t_26, ao_t_26, zt_26, At_26, z_t_26, ct_26_0, ct_26_1, ct_26_2, ct_26_3, ct_26_4⟩ := Go.Proofs.Ytlljmgphgmklcaa.ORate.at_ M0.out lt_26
            obtain rfl := Option.some.inj (gt_26.out.symm.trans z_t_26)
            simp only [Option.some.injEq, Addr.mk.injEq] at At_26
            obtain ⟨rfl, rfl, _⟩ := At_26
            have ltt_26 := cell_lt ct_26_0
            replace ct_26_0 := cell_below HBwr1.drew.out ct_26_0
            replace ct_26_1 := cell_below HBwr1.drew.out ct_26_1
            replace ct_26_2 := cell_below HBwr1.drew.out ct_26_2
            replace ct_26_3 := cell_below HBwr1.drew.out ct_26_3
            replace ct_26_4 := cell_below HBwr1.drew.out ct_26_4
            clear z_t_26
            have b0t_26 : (0 : Int) ≤ (k0 : Int) := by omega
            have b1t_26 : (k0 : Int) < ((list.length : Nat) : Int) := by omega
            have b2t_26 : ((k0 : Int)).toNat = k0 := by omega
            obtain ⟨w_a_28_p1554, hw_a_28_p1554⟩ : ∃ x, wr1.drew.alloc (.cells #[.int .i64 0, .int .i64 0, .int .i64 0, .int .i64 0, .int .i64 0] 104) = x := ⟨_, rfl⟩
            have bw_a_28_p1554 : Below wr1.drew.heap.size wr1.drew w_a_28_p1554 := by rw [← hw_a_28_p1554]; exact (Below.refl _ _).alloc (Nat.le_refl _) _
            have Da_28_out_4l0_p1554 := Lib.hid (apart_fresh Oout_4l0.out)
            have HBw_a_28_p1554 := Lib.hid (Below.step HBwr1.drew.out bw_a_28_p1554)
            have ct_22_0__1544_p1554 := cell_below bw_a_28_p1554 ct_22_0
            have ct_22_1__1545_p1554 := cell_below bw_a_28_p1554 ct_22_1
            have ct_22_2__1546_p1554 := cell_below bw_a_28_p1554 ct_22_2
            have ct_22_3__1547_p1554 := cell_below bw_a_28_p1554 ct_22_3
            have ct_22_4__1548_p1554 := cell_below bw_a_28_p1554 ct_22_4
            have ct_26_0__1549_p1554 := cell_below bw_a_28_p1554 ct_26_0
            have ct_26_1__1550_p1554 := cell_below bw_a_28_p1554 ct_26_1
            have ct_26_2__1551_p1554 := cell_below bw_a_28_p1554 ct_26_2
            have ct_26_3__1552_p1554 := cell_below bw_a_28_p1554 ct_26_3
            have ct_26_4__1553_p1554 := cell_below bw_a_28_p1554 ct_26_4
            have Oout_4l0_p1554 := Lib.hid (own_below Oout_4l0.out bw_a_28_p1554)
            have ka_28_0_p1554 : w_a_28_p1554.cell? ⟨wr1.heap.size, 0, none⟩ = some (.int .i64 0) := by rw [← hw_a_28_p1554]; exact box_new _ _ _ 0 _ rfl
            have ka_28_1_p1554 : w_a_28_p1554.cell? ⟨wr1.heap.size, 1, none⟩ = some (.int .i64 0) := by rw [← hw_a_28_p1554]; exact box_new _ _ _ 1 _ rfl
            have ka_28_2_p1554 : w_a_28_p1554.cell? ⟨wr1.heap.size, 2, none⟩ = some (.int .i64 0) := by rw [← hw_a_28_p1554]; exact box_new _ _ _ 2 _ rfl
            have ka_28_3_p1554 : w_a_28_p1554.cell? ⟨wr1.heap.size, 3, none⟩ = some (.int .i64 0) := by rw [← hw_a_28_p1554]; exact box_new _ _ _ 3 _ rfl
            have ka_28_4_p1554 : w_a_28_p1554.cell? ⟨wr1.heap.size, 4, none⟩ = some (.int .i64 0) := by rw [← hw_a_28_p1554]; exact box_new _ _ _ 4 _ rfl
            have Oa_28_p1554 : Hid (w_a_28_p1554.ownsRow w.heap.size 104 5 (.slice (some ⟨wr1.heap.size, 0, none⟩) 1 1) 1 [.int .i64 0, .int .i64 0, .int .i64 0, .int .i64 0, .int .i64 0]) := Lib.hid (by rw [← hw_a_28_p1554]; exact own_laid (n := 1) HBwr1.drew.out.size rfl rfl (by unfold maxLen; omega))
            obtain ⟨w_b_29_p1570, hw_b_29_p1570⟩ : ∃ x, w_a_28_p1554.alloc (.cells #[.int .i64 0, .int .i64 0, .int .i64 0, .int .i64 0, .int .i64 0] 104) = x := ⟨_, rfl⟩
            have bw_b_29_p1570 : Below w_a_28_p1554.heap.size w_a_28_p1554 w_b_29_p1570 := by rw [← hw_b_29_p1570]; exact (Below.refl _ _).alloc (Nat.le_refl _) _
            have Db_29_out_4l0_p1570 := Lib.hid (apart_fresh Oout_4l0_p1554.out)
            have Db_29_a_28_p1570 := Lib.hid (apart_box ka_28_0_p1554)
            have HBw_b_29_p1570 := Lib.hid (Below.step HBw_a_28_p1554.out bw_b_29_p1570)
            have ct_22_0__1555_p1570 := cell_below bw_b_29_p1570 ct_22_0__1544_p1554
            have ct_22_1__1556_p1570 := cell_below bw_b_29_p1570 ct_22_1__1545_p1554
            have ct_22_2__1557_p1570 := cell_below bw_b_29_p1570 ct_22_2__1546_p1554
            have ct_22_3__1558_p1570 := cell_below bw_b_29_p1570 ct_22_3__1547_p1554
            have ct_22_4__1559_p1570 := cell_below bw_b_29_p1570 ct_22_4__1548_p1554
            have ct_26_0__1560_p1570 := cell_below bw_b_29_p1570 ct_26_0__1549_p1554
            have ct_26_1__1561_p1570 := cell_below bw_b_29_p1570 ct_26_1__1550_p1554
            have ct_26_2__1562_p1570 := cell_below bw_b_29_p1570 ct_26_2__1551_p1554
            have ct_26_3__1563_p1570 := cell_below bw_b_29_p1570 ct_26_3__1552_p1554
            have ct_26_4__1564_p1570 := cell_below bw_b_29_p1570 ct_26_4__1553_p1554
            have ka_28_0_p1554__1565_p1570 := cell_below bw_b_29_p1570 ka_28_0_p1554
            have ka_28_1_p1554__1566_p1570 := cell_below bw_b_29_p1570 ka_28_1_p1554
            have ka_28_2_p1554__1567_p1570 := cell_below bw_b_29_p1570 ka_28_2_p1554
            have ka_28_3_p1554__1568_p1570 := cell_below bw_b_29_p1570 ka_28_3_p1554
            have ka_28_4_p1554__1569_p1570 := cell_below bw_b_29_p1570 ka_28_4_p1554
            have Oout_4l0_p1554_p1570 := Lib.hid (own_below Oout_4l0_p1554.out bw_b_29_p1570)
            have Oa_28_p1554_p1570 := Lib.hid (own_below Oa_28_p1554.out bw_b_29_p1570)
            have kb_29_0_p1570 : w_b_29_p1570.cell? ⟨w_a_28_p1554.heap.size, 0, none⟩ = some (.int .i64 0) := by rw [← hw_b_29_p1570]; exact box_new _ _ _ 0 _ rfl
            have kb_29_1_p1570 : w_b_29_p1570.cell? ⟨w_a_28_p1554.heap.size, 1, none⟩ = some (.int .i64 0) := by rw [← hw_b_29_p1570]; exact box_new _ _ _ 1 _ rfl
            have kb_29_2_p1570 : w_b_29_p1570.cell? ⟨w_a_28_p1554.heap.size, 2, none⟩ = some (.int .i64 0) := by rw [← hw_b_29_p1570]; exact box_new _ _ _ 2 _ rfl
            have kb_29_3_p1570 : w_b_29_p1570.cell? ⟨w_a_28_p1554.heap.size, 3, none⟩ = some (.int .i64 0) := by rw [← hw_b_29_p1570]; exact box_new _ _ _ 3 _ rfl
            have kb_29_4_p1570 : w_b_29_p1570.cell? ⟨w_a_28_p1554.heap.size, 4, none⟩ = some (.int .i64 0) := by rw [← hw_b_29_p1570]; exact box_new _ _ _ 4 _ rfl
            have Ob_29_p1570 : Hid (w_b_29_p1570.ownsRow w.heap.size 104 5 (.slice (some ⟨w_a_28_p1554.heap.size, 0, none⟩) 1 1) 1 [.int .i64 0, .int .i64 0, .int .i64 0, .int .i64 0, .int .i64 0]) := Lib.hid (by rw [← hw_b_29_p1570]; exact own_laid (n := 1) HBw_a_28_p1554.out.size rfl rfl (by unfold maxLen; omega))
            obtain ⟨wb30_30_p1591, hwb30_30_p1591⟩ : ∃ x, (((((w_b_29_p1570).setCell ⟨wr1.heap.size, 0, none⟩ (.int .i64 t_22_zone)).setCell ⟨wr1.heap.size, 1, none⟩ (.int .i64 t_22_grams)).setCell ⟨wr1.heap.size, 2, none⟩ (.int .i64 t_22_from_)).setCell ⟨wr1.heap.size, 3, none⟩ (.int .i64 t_22_until_)).setCell ⟨wr1.heap.size, 4, none⟩ (.int .i64 t_22_cents) = x := ⟨_, rfl⟩
            have z0b30_30_p1591 := Oa_28_p1554_p1570.out.frozenAt 0
            have z1b30_30_p1591 := Oa_28_p1554_p1570.out.frozenAt 1
            have z2b30_30_p1591 := Oa_28_p1554_p1570.out.frozenAt 2
            have z3b30_30_p1591 := Oa_28_p1554_p1570.out.frozenAt 3
            have z4b30_30_p1591 := Oa_28_p1554_p1570.out.frozenAt 4
            have Sb30_30_p1591 := Lib.hid (own_stores [(0, .int .i64 t_22_zone), (1, .int .i64 t_22_grams), (2, .int .i64 t_22_from_), (3, .int .i64 t_22_until_), (4, .int .i64 t_22_cents)] Oa_28_p1554_p1570.out)
            have Pb30_30_p1591 : Hid (wb30_30_p1591.ownsRow w.heap.size 104 5 (.slice (some ⟨wr1.heap.size, 0, none⟩) 1 1) 1 [.int .i64 t_22_zone, .int .i64 t_22_grams, .int .i64 t_22_from_, .int .i64 t_22_until_, .int .i64 t_22_cents]) := Lib.hid (by rw [← hwb30_30_p1591]; exact Sb30_30_p1591.out.1)
            have Gb30_30_p1591 : Hid (w_b_29_p1570.grownBy wb30_30_p1591 (Value.slice (some ⟨wr1.heap.size, 0, none⟩) 1 1).ownBlock) := Lib.hid (by rw [← hwb30_30_p1591]; exact Sb30_30_p1591.out.2)
            have HBwb30_30_p1591 := Lib.hid (HBw_b_29_p1570.out.grown Gb30_30_p1591.out HBw_b_29_p1570.out.size (fun q hq => (Oa_28_p1554_p1570.out.lt q hq).1))
            have ct_22_0__1571_p1591 := cell_other ct_22_0__1555_p1570 Gb30_30_p1591.out (apart_old Oa_28_p1554_p1570.out ltt_22)
            have ct_22_1__1572_p1591 := cell_other ct_22_1__1556_p1570 Gb30_30_p1591.out (apart_old Oa_28_p1554_p1570.out ltt_22)
            have ct_22_2__1573_p1591 := cell_other ct_22_2__1557_p1570 Gb30_30_p1591.out (apart_old Oa_28_p1554_p1570.out ltt_22)
            have ct_22_3__1574_p1591 := cell_other ct_22_3__1558_p1570 Gb30_30_p1591.out (apart_old Oa_28_p1554_p1570.out ltt_22)
            have ct_22_4__1575_p1591 := cell_other ct_22_4__1559_p1570 Gb30_30_p1591.out (apart_old Oa_28_p1554_p1570.out ltt_22)
            have ct_26_0__1576_p1591 := cell_other ct_26_0__1560_p1570 Gb30_30_p1591.out (apart_old Oa_28_p1554_p1570.out ltt_26)
            have ct_26_1__1577_p1591 := cell_other ct_26_1__1561_p1570 Gb30_30_p1591.out (apart_old Oa_28_p1554_p1570.out ltt_26)
            have ct_26_2__1578_p1591 := cell_other ct_26_2__1562_p1570 Gb30_30_p1591.out (apart_old Oa_28_p1554_p1570.out ltt_26)
            have ct_26_3__1579_p1591 := cell_other ct_26_3__1563_p1570 Gb30_30_p1591.out (apart_old Oa_28_p1554_p1570.out ltt_26)
            have ct_26_4__1580_p1591 := cell_other ct_26_4__1564_p1570 Gb30_30_p1591.out (apart_old Oa_28_p1554_p1570.out ltt_26)
            have kb_29_0_p1570__1581_p1591 := cell_other kb_29_0_p1570 Gb30_30_p1591.out (Apart.symm Db_29_a_28_p1570.out)
            have kb_29_1_p1570__1582_p1591 := cell_other kb_29_1_p1570 Gb30_30_p1591.out (Apart.symm Db_29_a_28_p1570.out)
            have kb_29_2_p1570__1583_p1591 := cell_other kb_29_2_p1570 Gb30_30_p1591.out (Apart.symm Db_29_a_28_p1570.out)
            have kb_29_3_p1570__1584_p1591 := cell_other kb_29_3_p1570 Gb30_30_p1591.out (Apart.symm Db_29_a_28_p1570.out)
            have kb_29_4_p1570__1585_p1591 := cell_other kb_29_4_p1570 Gb30_30_p1591.out (Apart.symm Db_29_a_28_p1570.out)
            have Ob_29_p1570_p1591 := Lib.hid (own_other Ob_29_p1570.out Gb30_30_p1591.out (Apart.symm Db_29_a_28_p1570.out))
            have Oout_4l0_p1554_p1570_p1591 := Lib.hid (own_other Oout_4l0_p1554_p1570.out Gb30_30_p1591.out Da_28_out_4l0_p1554.out)
            have ka_28_0_p1554__1586_p1591 : wb30_30_p1591.cell? ⟨wr1.heap.size, 0, none⟩ = some (.int .i64 t_22_zone) := Pb30_30_p1591.out.cells rfl 0 _ rfl
            have ka_28_1_p1554__1587_p1591 : wb30_30_p1591.cell? ⟨wr1.heap.size, 1, none⟩ = some (.int .i64 t_22_grams) := Pb30_30_p1591.out.cells rfl 1 _ rfl
            have ka_28_2_p1554__1588_p1591 : wb30_30_p1591.cell? ⟨wr1.heap.size, 2, none⟩ = some (.int .i64 t_22_from_) := Pb30_30_p1591.out.cells rfl 2 _ rfl
            have ka_28_3_p1554__1589_p1591 : wb30_30_p1591.cell? ⟨wr1.heap.size, 3, none⟩ = some (.int .i64 t_22_until_) := Pb30_30_p1591.out.cells rfl 3 _ rfl
            have ka_28_4_p1554__1590_p1591 : wb30_30_p1591.cell? ⟨wr1.heap.size, 4, none⟩ = some (.int .i64 t_22_cents) := Pb30_30_p1591.out.cells rfl 4 _ rfl
            obtain ⟨wb31_31_p1612, hwb31_31_p1612⟩ : ∃ x, (((((wb30_30_p1591).setCell ⟨w_a_28_p1554.heap.size, 0, none⟩ (.int .i64 t_26_zone)).setCell ⟨w_a_28_p1554.heap.size, 1, none⟩ (.int .i64 t_26_grams)).setCell ⟨w_a_28_p1554.heap.size, 2, none⟩ (.int .i64 t_26_from_)).setCell ⟨w_a_28_p1554.heap.size, 3, none⟩ (.int .i64 t_26_until_)).setCell ⟨w_a_28_p1554.heap.size, 4, none⟩ (.int .i64 t_26_cents) = x := ⟨_, rfl⟩
            have z0b31_31_p1612 := Ob_29_p1570_p1591.out.frozenAt 0
            have z1b31_31_p1612 := Ob_29_p1570_p1591.out.frozenAt 1
            have z2b31_31_p1612 := Ob_29_p1570_p1591.out.frozenAt 2
            have z3b31_31_p1612 := Ob_29_p1570_p1591.out.frozenAt 3
            have z4b31_31_p1612 := Ob_29_p1570_p1591.out.frozenAt 4
            have Sb31_31_p1612 := Lib.hid (own_stores [(0, .int .i64 t_26_zone), (1, .int .i64 t_26_grams), (2, .int .i64 t_26_from_), (3, .int .i64 t_26_until_), (4, .int .i64 t_26_cents)] Ob_29_p1570_p1591.out)
            have Pb31_31_p1612 : Hid (wb31_31_p1612.ownsRow w.heap.size 104 5 (.slice (some ⟨w_a_28_p1554.heap.size, 0, none⟩) 1 1) 1 [.int .i64 t_26_zone, .int .i64 t_26_grams, .int .i64 t_26_from_, .int .i64 t_26_until_, .int .i64 t_26_cents]) := Lib.hid (by rw [← hwb31_31_p1612]; exact Sb31_31_p1612.out.1)
            have Gb31_31_p1612 : Hid (wb30_30_p1591.grownBy wb31_31_p1612 (Value.slice (some ⟨w_a_28_p1554.heap.size, 0, none⟩) 1 1).ownBlock) := Lib.hid (by rw [← hwb31_31_p1612]; exact Sb31_31_p1612.out.2)
            have HBwb31_31_p1612 := Lib.hid (HBwb30_30_p1591.out.grown Gb31_31_p1612.out HBwb30_30_p1591.out.size (fun q hq => (Ob_29_p1570_p1591.out.lt q hq).1))
            have ct_22_0__1592_p1612 := cell_other ct_22_0__1571_p1591 Gb31_31_p1612.out (apart_old Ob_29_p1570_p1591.out ltt_22)
            have ct_22_1__1593_p1612 := cell_other ct_22_1__1572_p1591 Gb31_31_p1612.out (apart_old Ob_29_p1570_p1591.out ltt_22)
            have ct_22_2__1594_p1612 := cell_other ct_22_2__1573_p1591 Gb31_31_p1612.out (apart_old Ob_29_p1570_p1591.out ltt_22)
            have ct_22_3__1595_p1612 := cell_other ct_22_3__1574_p1591 Gb31_31_p1612.out (apart_old Ob_29_p1570_p1591.out ltt_22)
            have ct_22_4__1596_p1612 := cell_other ct_22_4__1575_p1591 Gb31_31_p1612.out (apart_old Ob_29_p1570_p1591.out ltt_22)
            have ct_26_0__1597_p1612 := cell_other ct_26_0__1576_p1591 Gb31_31_p1612.out (apart_old Ob_29_p1570_p1591.out ltt_26)
            have ct_26_1__1598_p1612 := cell_other ct_26_1__1577_p1591 Gb31_31_p1612.out (apart_old Ob_29_p1570_p1591.out ltt_26)
            have ct_26_2__1599_p1612 := cell_other ct_26_2__1578_p1591 Gb31_31_p1612.out (apart_old Ob_29_p1570_p1591.out ltt_26)
            have ct_26_3__1600_p1612 := cell_other ct_26_3__1579_p1591 Gb31_31_p1612.out (apart_old Ob_29_p1570_p1591.out ltt_26)
            have ct_26_4__1601_p1612 := cell_other ct_26_4__1580_p1591 Gb31_31_p1612.out (apart_old Ob_29_p1570_p1591.out ltt_26)
            have ka_28_0_p1554__1602_p1612 := cell_other ka_28_0_p1554__1586_p1591 Gb31_31_p1612.out Db_29_a_28_p1570.out
            have ka_28_1_p1554__1603_p1612 := cell_other ka_28_1_p1554__1587_p1591 Gb31_31_p1612.out Db_29_a_28_p1570.out
            have ka_28_2_p1554__1604_p1612 := cell_other ka_28_2_p1554__1588_p1591 Gb31_31_p1612.out Db_29_a_28_p1570.out
            have ka_28_3_p1554__1605_p1612 := cell_other ka_28_3_p1554__1589_p1591 Gb31_31_p1612.out Db_29_a_28_p1570.out
            have ka_28_4_p1554__1606_p1612 := cell_other ka_28_4_p1554__1590_p1591 Gb31_31_p1612.out Db_29_a_28_p1570.out
            have Pb30_30_p1591_p1612 := Lib.hid (own_other Pb30_30_p1591.out Gb31_31_p1612.out Db_29_a_28_p1570.out)
            have Oout_4l0_p1554_p1570_p1591_p1612 := Lib.hid (own_other Oout_4l0_p1554_p1570_p1591.out Gb31_31_p1612.out Db_29_out_4l0_p1570.out)
            have kb_29_0_p1570__1607_p1612 : wb31_31_p1612.cell? ⟨w_a_28_p1554.heap.size, 0, none⟩ = some (.int .i64 t_26_zone) := Pb31_31_p1612.out.cells rfl 0 _ rfl
            have kb_29_1_p1570__1608_p1612 : wb31_31_p1612.cell? ⟨w_a_28_p1554.heap.size, 1, none⟩ = some (.int .i64 t_26_grams) := Pb31_31_p1612.out.cells rfl 1 _ rfl
            have kb_29_2_p1570__1609_p1612 : wb31_31_p1612.cell? ⟨w_a_28_p1554.heap.size, 2, none⟩ = some (.int .i64 t_26_from_) := Pb31_31_p1612.out.cells rfl 2 _ rfl
            have kb_29_3_p1570__1610_p1612 : wb31_31_p1612.cell? ⟨w_a_28_p1554.heap.size, 3, none⟩ = some (.int .i64 t_26_until_) := Pb31_31_p1612.out.cells rfl 3 _ rfl
            have kb_29_4_p1570__1611_p1612 : wb31_31_p1612.cell? ⟨w_a_28_p1554.heap.size, 4, none⟩ = some (.int .i64 t_26_cents) := Pb31_31_p1612.out.cells rfl 4 _ rfl
            have bw_b_29_p1623 : Below wr1.drew.heap.size wr1.drew w_a_28_p1554 := by rw [← hw_a_28_p1554]; exact (Below.refl _ _).alloc (Nat.le_refl _) _
            have Db_29_out_4l0_p1623 := Lib.hid (apart_fresh Oout_4l0.out)
            have HBw_b_29_p1623 := Lib.hid (Below.step HBwr1.drew.out bw_b_29_p1623)
            have ct_22_0__1613_p1623 := cell_below bw_b_29_p1623 ct_22_0
            have ct_22_1__1614_p1623 := cell_below bw_b_29_p1623 ct_22_1
            have ct_22_2__1615_p1623 := cell_below bw_b_29_p1623 ct_22_2
            have ct_22_3__1616_p1623 := cell_below bw_b_29_p1623 ct_22_3
            have ct_22_4__1617_p1623 := cell_below bw_b_29_p1623 ct_22_4
            have ct_26_0__1618_p1623 := cell_below bw_b_29_p1623 ct_26_0
            have ct_26_1__1619_p1623 := cell_below bw_b_29_p1623 ct_26_1
            have ct_26_2__1620_p1623 := cell_below bw_b_29_p1623 ct_26_2
            have ct_26_3__1621_p1623 := cell_below bw_b_29_p1623 ct_26_3
            have ct_26_4__1622_p1623 := cell_below bw_b_29_p1623 ct_26_4
            have Oout_4l0_p1623 := Lib.hid (own_below Oout_4l0.out bw_b_29_p1623)
            have kb_29_0_p1623 : w_a_28_p1554.cell? ⟨wr1.heap.size, 0, none⟩ = some (.int .i64 0) := by rw [← hw_a_28_p1554]; exact box_new _ _ _ 0 _ rfl
            have kb_29_1_p1623 : w_a_28_p1554.cell? ⟨wr1.heap.size, 1, none⟩ = some (.int .i64 0) := by rw [← hw_a_28_p1554]; exact box_new _ _ _ 1 _ rfl
            have kb_29_2_p1623 : w_a_28_p1554.cell? ⟨wr1.heap.size, 2, none⟩ = some (.int .i64 0) := by rw [← hw_a_28_p1554]; exact box_new _ _ _ 2 _ rfl
            have kb_29_3_p1623 : w_a_28_p1554.cell? ⟨wr1.heap.size, 3, none⟩ = some (.int .i64 0) := by rw [← hw_a_28_p1554]; exact box_new _ _ _ 3 _ rfl
            have kb_29_4_p1623 : w_a_28_p1554.cell? ⟨wr1.heap.size, 4, none⟩ = some (.int .i64 0) := by rw [← hw_a_28_p1554]; exact box_new _ _ _ 4 _ rfl
            have Ob_29_p1623 : Hid (w_a_28_p1554.ownsRow w.heap.size 104 5 (.slice (some ⟨wr1.heap.size, 0, none⟩) 1 1) 1 [.int .i64 0, .int .i64 0, .int .i64 0, .int .i64 0, .int .i64 0]) := Lib.hid (by rw [← hw_a_28_p1554]; exact own_laid (n := 1) HBwr1.drew.out.size rfl rfl (by unfold maxLen; omega))
            have bw_a_28_p1639 : Below w_a_28_p1554.heap.size w_a_28_p1554 w_b_29_p1570 := by rw [← hw_b_29_p1570]; exact (Below.refl _ _).alloc (Nat.le_refl _) _
            have Da_28_out_4l0_p1639 := Lib.hid (apart_fresh Oout_4l0_p1623.out)
            have Da_28_b_29_p1639 := Lib.hid (apart_box kb_29_0_p1623)
            have HBw_a_28_p1639 := Lib.hid (Below.step HBw_b_29_p1623.out bw_a_28_p1639)
            have ct_22_0__1624_p1639 := cell_below bw_a_28_p1639 ct_22_0__1613_p1623
            have ct_22_1__1625_p1639 := cell_below bw_a_28_p1639 ct_22_1__1614_p1623
            have ct_22_2__1626_p1639 := cell_below bw_a_28_p1639 ct_22_2__1615_p1623
            have ct_22_3__1627_p1639 := cell_below bw_a_28_p1639 ct_22_3__1616_p1623
            have ct_22_4__1628_p1639 := cell_below bw_a_28_p1639 ct_22_4__1617_p1623
            have ct_26_0__1629_p1639 := cell_below bw_a_28_p1639 ct_26_0__1618_p1623
            have ct_26_1__1630_p1639 := cell_below bw_a_28_p1639 ct_26_1__1619_p1623
            have ct_26_2__1631_p1639 := cell_below bw_a_28_p1639 ct_26_2__1620_p1623
            have ct_26_3__1632_p1639 := cell_below bw_a_28_p1639 ct_26_3__1621_p1623
            have ct_26_4__1633_p1639 := cell_below bw_a_28_p1639 ct_26_4__1622_p1623
            have kb_29_0_p1623__1634_p1639 := cell_below bw_a_28_p1639 kb_29_0_p1623
            have kb_29_1_p1623__1635_p1639 := cell_below bw_a_28_p1639 kb_29_1_p1623
            have kb_29_2_p1623__1636_p1639 := cell_below bw_a_28_p1639 kb_29_2_p1623
            have kb_29_3_p1623__1637_p1639 := cell_below bw_a_28_p1639 kb_29_3_p1623
            have kb_29_4_p1623__1638_p1639 := cell_below bw_a_28_p1639 kb_29_4_p1623
            have Oout_4l0_p1623_p1639 := Lib.hid (own_below Oout_4l0_p1623.out bw_a_28_p1639)
            have Ob_29_p1623_p1639 := Lib.hid (own_below Ob_29_p1623.out bw_a_28_p1639)
            have ka_28_0_p1639 : w_b_29_p1570.cell? ⟨w_a_28_p1554.heap.size, 0, none⟩ = some (.int .i64 0) := by rw [← hw_b_29_p1570]; exact box_new _ _ _ 0 _ rfl
            have ka_28_1_p1639 : w_b_29_p1570.cell? ⟨w_a_28_p1554.heap.size, 1, none⟩ = some (.int .i64 0) := by rw [← hw_b_29_p1570]; exact box_new _ _ _ 1 _ rfl
            have ka_28_2_p1639 : w_b_29_p1570.cell? ⟨w_a_28_p1554.heap.size, 2, none⟩ = some (.int .i64 0) := by rw [← hw_b_29_p1570]; exact box_new _ _ _ 2 _ rfl
            have ka_28_3_p1639 : w_b_29_p1570.cell? ⟨w_a_28_p1554.heap.size, 3, none⟩ = some (.int .i64 0) := by rw [← hw_b_29_p1570]; exact box_new _ _ _ 3 _ rfl
            have ka_28_4_p1639 : w_b_29_p1570.cell? ⟨w_a_28_p1554.heap.size, 4, none⟩ = some (.int .i64 0) := by rw [← hw_b_29_p1570]; exact box_new _ _ _ 4 _ rfl
            have Oa_28_p1639 : Hid (w_b_29_p1570.ownsRow w.heap.size 104 5 (.slice (some ⟨w_a_28_p1554.heap.size, 0, none⟩) 1 1) 1 [.int .i64 0, .int .i64 0, .int .i64 0, .int .i64 0, .int .i64 0]) := Lib.hid (by rw [← hw_b_29_p1570]; exact own_laid (n := 1) HBw_b_29_p1623.out.size rfl rfl (by unfold maxLen; omega))
            obtain ⟨wb30_30_p1660, hwb30_30_p1660⟩ : ∃ x, (((((w_b_29_p1570).setCell ⟨w_a_28_p1554.heap.size, 0, none⟩ (.int .i64 t_22_zone)).setCell ⟨w_a_28_p1554.heap.size, 1, none⟩ (.int .i64 t_22_grams)).setCell ⟨w_a_28_p1554.heap.size, 2, none⟩ (.int .i64 t_22_from_)).setCell ⟨w_a_28_p1554.heap.size, 3, none⟩ (.int .i64 t_22_until_)).setCell ⟨w_a_28_p1554.heap.size, 4, none⟩ (.int .i64 t_22_cents) = x := ⟨_, rfl⟩
            have z0b30_30_p1660 := Oa_28_p1639.out.frozenAt 0
            have z1b30_30_p1660 := Oa_28_p1639.out.frozenAt 1
            have z2b30_30_p1660 := Oa_28_p1639.out.frozenAt 2
            have z3b30_30_p1660 := Oa_28_p1639.out.frozenAt 3
            have z4b30_30_p1660 := Oa_28_p1639.out.frozenAt 4
            have Sb30_30_p1660 := Lib.hid (own_stores [(0, .int .i64 t_22_zone), (1, .int .i64 t_22_grams), (2, .int .i64 t_22_from_), (3, .int .i64 t_22_until_), (4, .int .i64 t_22_cents)] Oa_28_p1639.out)
            have Pb30_30_p1660 : Hid (wb30_30_p1660.ownsRow w.heap.size 104 5 (.slice (some ⟨w_a_28_p1554.heap.size, 0, none⟩) 1 1) 1 [.int .i64 t_22_zone, .int .i64 t_22_grams, .int .i64 t_22_from_, .int .i64 t_22_until_, .int .i64 t_22_cents]) := Lib.hid (by rw [← hwb30_30_p1660]; exact Sb30_30_p1660.out.1)
            have Gb30_30_p1660 : Hid (w_b_29_p1570.grownBy wb30_30_p1660 (Value.slice (some ⟨w_a_28_p1554.heap.size, 0, none⟩) 1 1).ownBlock) := Lib.hid (by rw [← hwb30_30_p1660]; exact Sb30_30_p1660.out.2)
            have HBwb30_30_p1660 := Lib.hid (HBw_a_28_p1639.out.grown Gb30_30_p1660.out HBw_a_28_p1639.out.size (fun q hq => (Oa_28_p1639.out.lt q hq).1))
            have ct_22_0__1640_p1660 := cell_other ct_22_0__1624_p1639 Gb30_30_p1660.out (apart_old Oa_28_p1639.out ltt_22)
            have ct_22_1__1641_p1660 := cell_other ct_22_1__1625_p1639 Gb30_30_p1660.out (apart_old Oa_28_p1639.out ltt_22)
            have ct_22_2__1642_p1660 := cell_other ct_22_2__1626_p1639 Gb30_30_p1660.out (apart_old Oa_28_p1639.out ltt_22)
            have ct_22_3__1643_p1660 := cell_other ct_22_3__1627_p1639 Gb30_30_p1660.out (apart_old Oa_28_p1639.out ltt_22)
            have ct_22_4__1644_p1660 := cell_other ct_22_4__1628_p1639 Gb30_30_p1660.out (apart_old Oa_28_p1639.out ltt_22)
            have ct_26_0__1645_p1660 := cell_other ct_26_0__1629_p1639 Gb30_30_p1660.out (apart_old Oa_28_p1639.out ltt_26)
            have ct_26_1__1646_p1660 := cell_other ct_26_1__1630_p1639 Gb30_30_p1660.out (apart_old Oa_28_p1639.out ltt_26)
            have ct_26_2__1647_p1660 := cell_other ct_26_2__1631_p1639 Gb30_30_p1660.out (apart_old Oa_28_p1639.out ltt_26)
            have ct_26_3__1648_p1660 := cell_other ct_26_3__1632_p1639 Gb30_30_p1660.out (apart_old Oa_28_p1639.out ltt_26)
            have ct_26_4__1649_p1660 := cell_other ct_26_4__1633_p1639 Gb30_30_p1660.out (apart_old Oa_28_p1639.out ltt_26)
            have kb_29_0_p1623__1650_p1660 := cell_other kb_29_0_p1623__1634_p1639 Gb30_30_p1660.out Da_28_b_29_p1639.out
            have kb_29_1_p1623__1651_p1660 := cell_other kb_29_1_p1623__1635_p1639 Gb30_30_p1660.out Da_28_b_29_p1639.out
            have kb_29_2_p1623__1652_p1660 := cell_other kb_29_2_p1623__1636_p1639 Gb30_30_p1660.out Da_28_b_29_p1639.out
            have kb_29_3_p1623__1653_p1660 := cell_other kb_29_3_p1623__1637_p1639 Gb30_30_p1660.out Da_28_b_29_p1639.out
            have kb_29_4_p1623__1654_p1660 := cell_other kb_29_4_p1623__1638_p1639 Gb30_30_p1660.out Da_28_b_29_p1639.out
            have Ob_29_p1623_p1639_p1660 := Lib.hid (own_other Ob_29_p1623_p1639.out Gb30_30_p1660.out Da_28_b_29_p1639.out)
            have Oout_4l0_p1623_p1639_p1660 := Lib.hid (own_other Oout_4l0_p1623_p1639.out Gb30_30_p1660.out Da_28_out_4l0_p1639.out)
            have ka_28_0_p1639__1655_p1660 : wb30_30_p1660.cell? ⟨w_a_28_p1554.heap.size, 0, none⟩ = some (.int .i64 t_22_zone) := Pb30_30_p1660.out.cells rfl 0 _ rfl
            have ka_28_1_p1639__1656_p1660 : wb30_30_p1660.cell? ⟨w_a_28_p1554.heap.size, 1, none⟩ = some (.int .i64 t_22_grams) := Pb30_30_p1660.out.cells rfl 1 _ rfl
            have ka_28_2_p1639__1657_p1660 : wb30_30_p1660.cell? ⟨w_a_28_p1554.heap.size, 2, none⟩ = some (.int .i64 t_22_from_) := Pb30_30_p1660.out.cells rfl 2 _ rfl
            have ka_28_3_p1639__1658_p1660 : wb30_30_p1660.cell? ⟨w_a_28_p1554.heap.size, 3, none⟩ = some (.int .i64 t_22_until_) := Pb30_30_p1660.out.cells rfl 3 _ rfl
            have ka_28_4_p1639__1659_p1660 : wb30_30_p1660.cell? ⟨w_a_28_p1554.heap.size, 4, none⟩ = some (.int .i64 t_22_cents) := Pb30_30_p1660.out.cells rfl 4 _ rfl
            obtain ⟨wb31_31_p1681, hwb31_31_p1681⟩ : ∃ x, (((((wb30_30_p1660).setCell ⟨wr1.heap.size, 0, none⟩ (.int .i64 t_26_zone)).setCell ⟨wr1.heap.size, 1, none⟩ (.int .i64 t_26_grams)).setCell ⟨wr1.heap.size, 2, none⟩ (.int .i64 t_26_from_)).setCell ⟨wr1.heap.size, 3, none⟩ (.int .i64 t_26_until_)).setCell ⟨wr1.heap.size, 4, none⟩ (.int .i64 t_26_cents) = x := ⟨_, rfl⟩
            have z0b31_31_p1681 := Ob_29_p1623_p1639_p1660.out.frozenAt 0
            have z1b31_31_p1681 := Ob_29_p1623_p1639_p1660.out.frozenAt 1
            have z2b31_31_p1681 := Ob_29_p1623_p1639_p1660.out.frozenAt 2
            have z3b31_31_p1681 := Ob_29_p1623_p1639_p1660.out.frozenAt 3
            have z4b31_31_p1681 := Ob_29_p1623_p1639_p1660.out.frozenAt 4
            have Sb31_31_p1681 := Lib.hid (own_stores [(0, .int .i64 t_26_zone), (1, .int .i64 t_26_grams), (2, .int .i64 t_26_from_), (3, .int .i64 t_26_until_), (4, .int .i64 t_26_cents)] Ob_29_p1623_p1639_p1660.out)
            have Pb31_31_p1681 : Hid (wb31_31_p1681.ownsRow w.heap.size 104 5 (.slice (some ⟨wr1.heap.size, 0, none⟩) 1 1) 1 [.int .i64 t_26_zone, .int .i64 t_26_grams, .int .i64 t_26_from_, .int .i64 t_26_until_, .int .i64 t_26_cents]) := Lib.hid (by rw [← hwb31_31_p1681]; exact Sb31_31_p1681.out.1)
            have Gb31_31_p1681 : Hid (wb30_30_p1660.grownBy wb31_31_p1681 (Value.slice (some ⟨wr1.heap.size, 0, none⟩) 1 1).ownBlock) := Lib.hid (by rw [← hwb31_31_p1681]; exact Sb31_31_p1681.out.2)
            have HBwb31_31_p1681 := Lib.hid (HBwb30_30_p1660.out.grown Gb31_31_p1681.out HBwb30_30_p1660.out.size (fun q hq => (Ob_29_p1623_p1639_p1660.out.lt q hq).1))
            have ct_22_0__1661_p1681 := cell_other ct_22_0__1640_p1660 Gb31_31_p1681.out (apart_old Ob_29_p1623_p1639_p1660.out ltt_22)
            have ct_22_1__1662_p1681 := cell_other ct_22_1__1641_p1660 Gb31_31_p1681.out (apart_old Ob_29_p1623_p1639_p1660.out ltt_22)
            have ct_22_2__1663_p1681 := cell_other ct_22_2__1642_p1660 Gb31_31_p1681.out (apart_old Ob_29_p1623_p1639_p1660.out ltt_22)
            have ct_22_3__1664_p1681 := cell_other ct_22_3__1643_p1660 Gb31_31_p1681.out (apart_old Ob_29_p1623_p1639_p1660.out ltt_22)
            have ct_22_4__1665_p1681 := cell_other ct_22_4__1644_p1660 Gb31_31_p1681.out (apart_old Ob_29_p1623_p1639_p1660.out ltt_22)
            have ct_26_0__1666_p1681 := cell_other ct_26_0__1645_p1660 Gb31_31_p1681.out (apart_old Ob_29_p1623_p1639_p1660.out ltt_26)
            have ct_26_1__1667_p1681 := cell_other ct_26_1__1646_p1660 Gb31_31_p1681.out (apart_old Ob_29_p1623_p1639_p1660.out ltt_26)
            have ct_26_2__1668_p1681 := cell_other ct_26_2__1647_p1660 Gb31_31_p1681.out (apart_old Ob_29_p1623_p1639_p1660.out ltt_26)
            have ct_26_3__1669_p1681 := cell_other ct_26_3__1648_p1660 Gb31_31_p1681.out (apart_old Ob_29_p1623_p1639_p1660.out ltt_26)
            have ct_26_4__1670_p1681 := cell_other ct_26_4__1649_p1660 Gb31_31_p1681.out (apart_old Ob_29_p1623_p1639_p1660.out ltt_26)
            have ka_28_0_p1639__1671_p1681 := cell_other ka_28_0_p1639__1655_p1660 Gb31_31_p1681.out (Apart.symm Da_28_b_29_p1639.out)
            have ka_28_1_p1639__1672_p1681 := cell_other ka_28_1_p1639__1656_p1660 Gb31_31_p1681.out (Apart.symm Da_28_b_29_p1639.out)
            have ka_28_2_p1639__1673_p1681 := cell_other ka_28_2_p1639__1657_p1660 Gb31_31_p1681.out (Apart.symm Da_28_b_29_p1639.out)
            have ka_28_3_p1639__1674_p1681 := cell_other ka_28_3_p1639__1658_p1660 Gb31_31_p1681.out (Apart.symm Da_28_b_29_p1639.out)
            have ka_28_4_p1639__1675_p1681 := cell_other ka_28_4_p1639__1659_p1660 Gb31_31_p1681.out (Apart.symm Da_28_b_29_p1639.out)
            have Pb30_30_p1660_p1681 := Lib.hid (own_other Pb30_30_p1660.out Gb31_31_p1681.out (Apart.symm Da_28_b_29_p1639.out))
            have Oout_4l0_p1623_p1639_p1660_p1681 := Lib.hid (own_other Oout_4l0_p1623_p1639_p1660.out Gb31_31_p1681.out Db_29_out_4l0_p1623.out)
            have kb_29_0_p1623__1676_p1681 : wb31_31_p1681.cell? ⟨wr1.heap.size, 0, none⟩ = some (.int .i64 t_26_zone) := Pb31_31_p1681.out.cells rfl 0 _ rfl
            have kb_29_1_p1623__1677_p1681 : wb31_31_p1681.cell? ⟨wr1.heap.size, 1, none⟩ = some (.int .i64 t_26_grams) := Pb31_31_p1681.out.cells rfl 1 _ rfl
            have kb_29_2_p1623__1678_p1681 : wb31_31_p1681.cell? ⟨wr1.heap.size, 2, none⟩ = some (.int .i64 t_26_from_) := Pb31_31_p1681.out.cells rfl 2 _ rfl
            have kb_29_3_p1623__1679_p1681 : wb31_31_p1681.cell? ⟨wr1.heap.size, 3, none⟩ = some (.int .i64 t_26_until_) := Pb31_31_p1681.out.cells rfl 3 _ rfl
            have kb_29_4_p1623__1680_p1681 : wb31_31_p1681.cell? ⟨wr1.heap.size, 4, none⟩ = some (.int .i64 t_26_cents) := Pb31_31_p1681.out.cells rfl 4 _ rfl
            go_region_held3 (fun w' => w'.cell? ⟨ab_t_22, ao_t_22 + k1 * 5, none⟩ = some (.int .i64 t_22_zone) ∧ w'.cell? ⟨ab_t_22, ao_t_22 + k1 * 5 + 1, none⟩ = some (.int .i64 t_22_grams) ∧ w'.cell? ⟨ab_t_22, ao_t_22 + k1 * 5 + 2, none⟩ = some (.int .i64 t_22_from_) ∧ w'.cell? ⟨ab_t_22, ao_t_22 + k1 * 5 + 3, none⟩ = some (.int .i64 t_22_until_) ∧ w'.cell? ⟨ab_t_22, ao_t_22 + k1 * 5 + 4, none⟩ = some (.int .i64 t_22_cents) ∧ w'.cell? ⟨ab_t_22, ao_t_22 + k0 * 5, none⟩ = some (.int .i64 t_26_zone) ∧ w'.cell? ⟨ab_t_22, ao_t_22 + k0 * 5 + 1, none⟩ = some (.int .i64 t_26_grams) ∧ w'.cell? ⟨ab_t_22, ao_t_22 + k0 * 5 + 2, none⟩ = some (.int .i64 t_26_from_) ∧ w'.cell? ⟨ab_t_22, ao_t_22 + k0 * 5 + 3, none⟩ = some (.int .i64 t_26_until_) ∧ w'.cell? ⟨ab_t_22, ao_t_22 + k0 * 5 + 4, none⟩ = some (.int .i64 t_26_cents)) (first | exact ⟨ct_22_0, ct_22_1, ct_22_2, ct_22_3, ct_22_4, ct_26_0, ct_26_1, ct_26_2, ct_26_3, ct_26_4⟩ | exact ⟨ct_22_0__1544_p1554, ct_22_1__1545_p1554, ct_22_2__1546_p1554, ct_22_3__1547_p1554, ct_22_4__1548_p1554, ct_26_0__1549_p1554, ct_26_1__1550_p1554, ct_26_2__1551_p1554, ct_26_3__1552_p1554, ct_26_4__1553_p1554⟩ | exact ⟨ct_22_0__1555_p1570, ct_22_1__1556_p1570, ct_22_2__1557_p1570, ct_22_3__1558_p1570, ct_22_4__1559_p1570, ct_26_0__1560_p1570, ct_26_1__1561_p1570, ct_26_2__1562_p1570, ct_26_3__1563_p1570, ct_26_4__1564_p1570⟩ | exact ⟨ct_22_0__1571_p1591, ct_22_1__1572_p1591, ct_22_2__1573_p1591, ct_22_3__1574_p1591, ct_22_4__1575_p1591, ct_26_0__1576_p1591, ct_26_1__1577_p1591, ct_26_2__1578_p1591, ct_26_3__1579_p1591, ct_26_4__1580_p1591⟩ | exact ⟨ct_22_0__1592_p1612, ct_22_1__1593_p1612, ct_22_2__1594_p1612, ct_22_3__1595_p1612, ct_22_4__1596_p1612, ct_26_0__1597_p1612, ct_26_1__1598_p1612, ct_26_2__1599_p1612, ct_26_3__1600_p1612, ct_26_4__1601_p1612⟩ | exact ⟨ct_22_0__1613_p1623, ct_22_1__1614_p1623, ct_22_2__1615_p1623, ct_22_3__1616_p1623, ct_22_4__1617_p1623, ct_26_0__1618_p1623, ct_26_1__1619_p1623, ct_26_2__1620_p1623, ct_26_3__1621_p1623, ct_26_4__1622_p1623⟩ | exact ⟨ct_22_0__1624_p1639, ct_22_1__1625_p1639, ct_22_2__1626_p1639, ct_22_3__1627_p1639, ct_22_4__1628_p1639, ct_26_0__1629_p1639, ct_26_1__1630_p1639, ct_26_2__1631_p1639, ct_26_3__1632_p1639, ct_26_4__1633_p1639⟩ | exact ⟨ct_22_0__1640_p1660, ct_22_1__1641_p1660, ct_22_2__1642_p1660, ct_22_3__1643_p1660, ct_22_4__1644_p1660, ct_26_0__1645_p1660, ct_26_1__1646_p1660, ct_26_2__1647_p1660, ct_26_3__1648_p1660, ct_26_4__1649_p1660⟩ | exact ⟨ct_22_0__1661_p1681, ct_22_1__1662_p1681, ct_22_2__1663_p1681, ct_22_3__1664_p1681, ct_22_4__1665_p1681, ct_26_0__1666_p1681, ct_26_1__1667_p1681, ct_26_2__1668_p1681, ct_26_3__1669_p1681, ct_26_4__1670_p1681⟩)
                (first
                  | fail)
            · skip
              replace H := join_hid H
              cases strange_6l1 with
              | false =>
                replace H := ite_f H
                replace H := let_hid H
                obtain ⟨t_38, ht_38, H⟩ := H
                replace H := join_hid H
                cases t_38 with
                | false =>
                  replace H := ite_f H
                  replace H := app_hid H
                  replace H := join_hid H
                  replace H := ite_f H
                  replace H := app_hid H
                  replace H := join_hid H
                  replace H := ite_f H
                  replace H := app_hid H
                  replace H := join_hid H
                  replace H := ite_f H
                  replace H := app_hid H
                  replace H := app_hid H
                  replace H := app_hid H
                  go_wp2_with fail
                  go_roundg m1
                  case measure => omega
                  case rel => exact ⟨k1 + 1, _, by omega, by go_num, rfl, H, HBwb31_31_p1612, Oout_4l0_p1554_p1570_p1591_p1612⟩
                | true =>
                  replace H := ite_t H
                  replace H := let_hid H
                  obtain ⟨t_44, ht_44, H⟩ := H
                  replace H := app_hid H
                  replace H := join_hid H
                  cases t_44 with
                  | false =>
                    replace H := ite_f H
                    replace H := app_hid H
                    replace H := join_hid H
                    replace H := ite_f H
                    replace H := app_hid H
                    replace H := join_hid H
                    replace H := ite_f H
                    replace H := app_hid H
                    replace H := app_hid H
                    replace H := app_hid H
                    go_wp2_with fail
                    go_roundg m1
                    case measure => omega
                    case rel => exact ⟨k1 + 1, _, by omega, by go_num, rfl, H, HBwb31_31_p1612, Oout_4l0_p1554_p1570_p1591_p1612⟩
                  | true =>
                    replace H := ite_t H
                    replace H := let_hid H
                    obtain ⟨t_51, ht_51, H⟩ := H
                    replace H := app_hid H
                    replace H := join_hid H
                    cases t_51 with
                    | false =>
                      replace H := ite_f H
                      replace H := app_hid H
                      replace H := join_hid H
                      replace H := ite_f H
                      replace H := app_hid H
                      replace H := app_hid H
                      replace H := app_hid H
                      go_wp2_with fail
                      go_roundg m1
                      case measure => omega
                      case rel => exact ⟨k1 + 1, _, by omega, by go_num, rfl, H, HBwb31_31_p1612, Oout_4l0_p1554_p1570_p1591_p1612⟩
                    | true =>
                      replace H := ite_t H
                      replace H := let_hid H
                      obtain ⟨t_58, ht_58, H⟩ := H
                      replace H := app_hid H
                      replace H := join_hid H
                      cases t_58 with
                      | false =>
                        replace H := ite_f H
                        replace H := app_hid H
                        replace H := app_hid H
                        replace H := app_hid H
                        go_wp2_with fail
                        go_roundg m1
                        case measure => omega
                        case rel => exact ⟨k1 + 1, _, by omega, by go_num, rfl, H, HBwb31_31_p1612, Oout_4l0_p1554_p1570_p1591_p1612⟩
                      | true =>
                        replace H := ite_t H
                        replace H := let_hid H
                        obtain ⟨t_65, ht_65, H⟩ := H
                        replace H := app_hid H
                        replace H := app_hid H
                        replace H := app_hid H
                        go_wp2_with fail
                        go_roundg m1
                        case measure => omega
                        case rel => exact ⟨k1 + 1, _, by omega, by go_num, rfl, H, HBwb31_31_p1612, Oout_4l0_p1554_p1570_p1591_p1612⟩
              | true =>
                replace H := ite_t H
                replace H := app_hid H
                replace H := app_hid H
                go_wp2_with fail
                go_roundg m1
                case measure => omega
                case rel => exact ⟨k1 + 1, _, by omega, by go_num, rfl, H, HBwb31_31_p1612, Oout_4l0_p1554_p1570_p1591_p1612⟩
            · skip
              replace H := join_hid H
              cases strange_6l1 with
              | false =>
                replace H := ite_f H
                replace H := let_hid H
                obtain ⟨t_38, ht_38, H⟩ := H
                replace H := join_hid H
                cases t_38 with
                | false =>
                  replace H := ite_f H
                  replace H := app_hid H
                  replace H := join_hid H
                  replace H := ite_f H
                  replace H := app_hid H
                  replace H := join_hid H
                  replace H := ite_f H
                  replace H := app_hid H
                  replace H := join_hid H
                  replace H := ite_f H
                  replace H := app_hid H
                  replace H := app_hid H
                  replace H := app_hid H
                  go_wp2_with fail
                  go_roundg m1
                  case measure => omega
                  case rel => exact ⟨k1 + 1, _, by omega, by go_num, rfl, H, HBwb31_31_p1681, Oout_4l0_p1623_p1639_p1660_p1681⟩
                | true =>
                  replace H := ite_t H
                  replace H := let_hid H
                  obtain ⟨t_44, ht_44, H⟩ := H
                  replace H := app_hid H
                  replace H := join_hid H
                  cases t_44 with
                  | false =>
                    replace H := ite_f H
                    replace H := app_hid H
                    replace H := join_hid H
                    replace H := ite_f H
                    replace H := app_hid H
                    replace H := join_hid H
                    replace H := ite_f H
                    replace H := app_hid H
                    replace H := app_hid H
                    replace H := app_hid H
                    go_wp2_with fail
                    go_roundg m1
                    case measure => omega
                    case rel => exact ⟨k1 + 1, _, by omega, by go_num, rfl, H, HBwb31_31_p1681, Oout_4l0_p1623_p1639_p1660_p1681⟩
                  | true =>
                    replace H := ite_t H
                    replace H := let_hid H
                    obtain ⟨t_51, ht_51, H⟩ := H
                    replace H := app_hid H
                    replace H := join_hid H
                    cases t_51 with
                    | false =>
                      replace H := ite_f H
                      replace H := app_hid H
                      replace H := join_hid H
                      replace H := ite_f H
                      replace H := app_hid H
                      replace H := app_hid H
                      replace H := app_hid H
                      go_wp2_with fail
                      go_roundg m1
                      case measure => omega
                      case rel => exact ⟨k1 + 1, _, by omega, by go_num, rfl, H, HBwb31_31_p1681, Oout_4l0_p1623_p1639_p1660_p1681⟩
                    | true =>
                      replace H := ite_t H
                      replace H := let_hid H
                      obtain ⟨t_58, ht_58, H⟩ := H
                      replace H := app_hid H
                      replace H := join_hid H
                      cases t_58 with
                      | false =>
                        replace H := ite_f H
                        replace H := app_hid H
                        replace H := app_hid H
                        replace H := app_hid H
                        go_wp2_with fail
                        go_roundg m1
                        case measure => omega
                        case rel => exact ⟨k1 + 1, _, by omega, by go_num, rfl, H, HBwb31_31_p1681, Oout_4l0_p1623_p1639_p1660_p1681⟩
                      | true =>
                        replace H := ite_t H
                        replace H := let_hid H
                        obtain ⟨t_65, ht_65, H⟩ := H
                        replace H := app_hid H
                        replace H := app_hid H
                        replace H := app_hid H
                        go_wp2_with fail
                        go_roundg m1
                        case measure => omega
                        case rel => exact ⟨k1 + 1, _, by omega, by go_num, rfl, H, HBwb31_31_p1681, Oout_4l0_p1623_p1639_p1660_p1681⟩
              | true =>
                replace H := ite_t H
                replace H := app_hid H
                replace H := app_hid H
                go_wp2_with fail
                go_roundg m1
                case measure => omega
                case rel => exact ⟨k1 + 1, _, by omega, by go_num, rfl, H, HBwb31_31_p1681, Oout_4l0_p1623_p1639_p1660_p1681⟩
end Go.Proofs.Ytlljmgphgmklcaa.GsStrangeRates

/- loop.example/g01062/spec.DrawHeaviestFor as a plain function, and the contract of the program's: where the plain one has an answer, the program has it. Conditions: slices read as lists. -/
namespace Go.Proofs.Ytlljmgphgmklcaa.GsDrawHeaviestFor
set_option linter.unusedVariables false
set_option linter.unusedSimpArgs false
open Go.RowKit
open Go.Proofs.Ytlljmgphgmklcaa.Rowed Go.Proofs.Ytlljmgphgmklcaa.Turn Go.Proofs.Ytlljmgphgmklcaa.Aid Go.Proofs.Ytlljmgphgmklcaa.GoP Go.Proofs.Ytlljmgphgmklcaa.GoM

def P (fuel : Nat) (tapes : List Int → Go.Proofs.Ytlljmgphgmklcaa.GoC.Tape) (code : (List Int)) : Option ((List Go.Proofs.Ytlljmgphgmklcaa.PRate.Rate) × Int × Int × Int) :=
  letK (tapes code) fun (t_6 : Go.Proofs.Ytlljmgphgmklcaa.GoC.Tape) =>
  bind2 (Go.Proofs.Ytlljmgphgmklcaa.GsL1CurRates.P fuel t_6) fun (t_9 : (List Go.Proofs.Ytlljmgphgmklcaa.PRate.Rate)) (t_9_tp : Go.Proofs.Ytlljmgphgmklcaa.GoC.Tape) =>
  bind2 (Go.Proofs.Ytlljmgphgmklcaa.GsL1CurRateDay.P t_9_tp) fun (t_11 : Int) (t_11_tp : Go.Proofs.Ytlljmgphgmklcaa.GoC.Tape) =>
  letK ([0, 0, 1, 2, 10]) fun (t_13 : (List Int)) =>
  bind2 (Go.Proofs.Ytlljmgphgmklcaa.GsL1CurAmong.P t_11_tp t_13) fun (t_14 : Int) (t_14_tp : Go.Proofs.Ytlljmgphgmklcaa.GoC.Tape) =>
  letK ([3, 4, 5, 10, 12, 25, 9999, 0, 10000]) fun (t_16 : (List Int)) =>
  bind2 (Go.Proofs.Ytlljmgphgmklcaa.GsL1CurAmong.P t_14_tp t_16) fun (t_17 : Int) (t_17_tp : Go.Proofs.Ytlljmgphgmklcaa.GoC.Tape) =>
  some (t_9, t_11, t_14, t_17)

set_option maxRecDepth 100000 in
set_option maxHeartbeats 2000000 in
theorem C (fuel : Nat) (tapes : List Int → Go.Proofs.Ytlljmgphgmklcaa.GoC.Tape) (code : (List Int)) (A0 : Option Addr) (c0 : Nat)  (w : World) (HE : Hid (Go.Proofs.Ytlljmgphgmklcaa.GoC.Tells tapes)) (M0 : Hid (Cells w 1 A0 code.length (Go.Proofs.Ytlljmgphgmklcaa.GoC.u8s code))) (N0 : Hid (code.length ≤ 9223372036854775807)) (V0 : Hid (∀ z ∈ code, 0 ≤ z ∧ z ≤ 255))  {r0 : (List Go.Proofs.Ytlljmgphgmklcaa.PRate.Rate)} {r1 : Int} {r2 : Int} {r3 : Int} (H : Hid (P fuel tapes code = some (r0, r1, r2, r3))) :
    Calls Try.prog 74 #[.slice A0 code.length c0] w (fun e w' => ∃ A_r0 c_r0, e = .returned (.tuple #[.slice A_r0 r0.length c_r0, .int .i64 r1, .int .i64 r2, .int .i64 r3]) ∧ w'.ownsRow w.heap.size 104 5 (.slice A_r0 r0.length c_r0) r0.length (Go.Proofs.Ytlljmgphgmklcaa.PRate.flat r0) ∧ Below w.heap.size w w') := by
  have HB := Lib.hid (Below.refl w.heap.size w)
  unfold P at H
  have N0o := N0.out
  go_enter Try.func74, Try.ntmps74
  replace H := let_hid H
  obtain ⟨t_6, ht_6, H⟩ := H
  obtain ⟨w_t_6, hw_t_6⟩ : ∃ x, w.alloc (.cells #[.slice A0 code.length c0, .int .i64 0, .int .u64 0] 129) = x := ⟨_, rfl⟩
  have bw_t_6 : Below w.heap.size w w_t_6 := by rw [← hw_t_6]; exact (Below.refl _ _).alloc (Nat.le_refl _) _
  have Kt_6 : Hid (Go.Proofs.Ytlljmgphgmklcaa.GoC.CurIs w_t_6 w.heap.size w.heap.size A0 c0 t_6) := Lib.hid (by rw [← hw_t_6, ← ht_6]; exact Go.Proofs.Ytlljmgphgmklcaa.GoC.cur_new HB.out.size (Cells.below M0.out HB.out) (fun a_ ha_ h0_ => by subst ha_; exact Go.Proofs.Ytlljmgphgmklcaa.GoC.cells_lt M0.out (by unfold Go.Proofs.Ytlljmgphgmklcaa.GoC.u8s; rw [List.length_map]; exact h0_)) (HE.out.2.2 code V0.out N0.out))
  have hht_6 := Lib.hid ht_6
  clear ht_6
  have HBw_t_6 := Lib.hid (Below.step HB.out bw_t_6)
  clear bw_t_6
  replace H := bind2_hid H
  obtain ⟨t_9, t_9_tp, qt_9, H⟩ := H
  go_wp2_with fail
  go_at_call 114
  refine (Go.Proofs.Ytlljmgphgmklcaa.GsL1CurRates.C fuel (t_6) (w.heap.size) (A0) (c0) (w.heap.size) _   Kt_6 qt_9).mono ?_
  rintro e_t_9 wt_9 ⟨At_9, ct_9, rfl, ot_9, kt_9, gt_9⟩
  have Dt_9_t_6 := Lib.hid (Go.Proofs.Ytlljmgphgmklcaa.GoC.apart_callcur ot_9 Kt_6.out)
  have Ot_9 := Lib.hid (own_lower ot_9 HBw_t_6.out.size)
  clear ot_9
  have Kt_9 := Lib.hid kt_9
  have Gt_9 : Hid (w_t_6.grownBy wt_9 (Value.slice (some ⟨w.heap.size, 0, none⟩) 1 1).ownBlock) := Lib.hid gt_9
  clear kt_9 gt_9
  have HBwt_9 := Lib.hid (Go.Proofs.Ytlljmgphgmklcaa.GoC.below_cur HBw_t_6.out Gt_9.out HBw_t_6.out.size (Go.Proofs.Ytlljmgphgmklcaa.GoC.cur_lt Kt_6.out).1)
  clear Kt_6 Gt_9
  replace H := bind2_hid H
  obtain ⟨t_11, t_11_tp, qt_11, H⟩ := H
  go_wp2_with fail
  go_at_call 123
  refine (Go.Proofs.Ytlljmgphgmklcaa.GsL1CurRateDay.C (t_9_tp) (w.heap.size) (A0) (c0) (w.heap.size) _   Kt_9 qt_11).mono ?_
  rintro e_t_11 wt_11 ⟨rfl, kt_11, gt_11⟩
  have Kt_11 := Lib.hid kt_11
  have Gt_11 : Hid (wt_9.grownBy wt_11 (Value.slice (some ⟨w.heap.size, 0, none⟩) 1 1).ownBlock) := Lib.hid gt_11
  clear kt_11 gt_11
  have HBwt_11 := Lib.hid (Go.Proofs.Ytlljmgphgmklcaa.GoC.below_cur HBwt_9.out Gt_11.out HBwt_9.out.size (Go.Proofs.Ytlljmgphgmklcaa.GoC.cur_lt Kt_9.out).1)
  replace Ot_9 := Lib.hid (own_other Ot_9.out Gt_11.out (Apart.symm Dt_9_t_6.out))
  clear Kt_9 Gt_11
  replace H := let_hid H
  obtain ⟨t_13, ht_13, H⟩ := H
  obtain ⟨w_t_13, hw_t_13⟩ : ∃ x, wt_11.alloc (.cells #[.int .i64 0, .int .i64 0, .int .i64 1, .int .i64 2, .int .i64 10] 3) = x := ⟨_, rfl⟩
  have bw_t_13 : Below wt_11.heap.size wt_11 w_t_13 := by rw [← hw_t_13]; exact (Below.refl _ _).alloc (Nat.le_refl _) _
  have hs_t_13 := HBwt_11.out.size
  have nt_13 : t_13.length = 5 := by rw [← ht_13]; rfl
  have Ot_13 : Hid (w_t_13.ownsRow w.heap.size 3 1 (.slice (some ⟨wt_11.heap.size, 0, none⟩) 5 5) 5 (Go.Proofs.Ytlljmgphgmklcaa.HelpInt.iv t_13)) := by
    rw [← hw_t_13, ← ht_13]
    have e_ : ([.int .i64 0, .int .i64 0, .int .i64 1, .int .i64 2, .int .i64 10] : List Value) = (Go.Proofs.Ytlljmgphgmklcaa.HelpInt.iv ([0, 0, 1, 2, 10] : List Int)) := rfl
    exact Lib.hid (own_laid (n := 5) hs_t_13 e_ rfl (by unfold maxLen; omega))
  clear hs_t_13
  have hht_13 := Lib.hid ht_13
  clear ht_13
  replace nt_13 := Lib.hid nt_13
  have Dt_13_t_9 := Lib.hid (apart_fresh Ot_9.out)
  have Dt_13_t_6 := Lib.hid (Go.Proofs.Ytlljmgphgmklcaa.GoC.apart_cur Kt_11.out)
  have HBw_t_13 := Lib.hid (Below.step HBwt_11.out bw_t_13)
  replace Ot_9 := Lib.hid (own_below Ot_9.out bw_t_13)
  replace Kt_11 := Lib.hid (Go.Proofs.Ytlljmgphgmklcaa.GoC.cur_below Kt_11.out bw_t_13)
  clear bw_t_13
  replace H := bind2_hid H
  obtain ⟨t_14, t_14_tp, qt_14, H⟩ := H
  go_wp2_with fail
  have hc_ := nt_13.out
  have hv_ : (Value.slice (some ⟨wt_11.heap.size, 0, none⟩) 5 5 : Value) = Value.slice (some ⟨wt_11.heap.size, 0, none⟩) t_13.length 5 := by rw [hc_]
  try rw [hv_]
  replace Ot_13 := Lib.hid (own_len hc_ Ot_13.out)
  clear hc_ hv_
  go_wp2_with fail
  go_at_call 119
  refine (Go.Proofs.Ytlljmgphgmklcaa.GsL1CurAmong.C (t_11_tp) (t_13) (some ⟨wt_11.heap.size, 0, none⟩) 5 (w.heap.size) (A0) (c0) (w.heap.size) _   (Lib.hid (own_cells Ot_13.out)) (Lib.hid (own_max Ot_13.out)) Kt_11 (Lib.hid (fun _ => Dt_13_t_6.out)) qt_14).mono ?_
  rintro e_t_14 wt_14 ⟨rfl, kt_14, gt_14⟩
  have Kt_14 := Lib.hid kt_14
  have Gt_14 : Hid (w_t_13.grownBy wt_14 (Value.slice (some ⟨w.heap.size, 0, none⟩) 1 1).ownBlock) := Lib.hid gt_14
  clear kt_14 gt_14
  have HBwt_14 := Lib.hid (Go.Proofs.Ytlljmgphgmklcaa.GoC.below_cur HBw_t_13.out Gt_14.out HBw_t_13.out.size (Go.Proofs.Ytlljmgphgmklcaa.GoC.cur_lt Kt_11.out).1)
  replace Ot_9 := Lib.hid (own_other Ot_9.out Gt_14.out (Apart.symm Dt_9_t_6.out))
  replace Ot_13 := Lib.hid (own_other Ot_13.out Gt_14.out (Apart.symm Dt_13_t_6.out))
  clear Kt_11 Gt_14
  replace H := let_hid H
  obtain ⟨t_16, ht_16, H⟩ := H
  obtain ⟨w_t_16, hw_t_16⟩ : ∃ x, wt_14.alloc (.cells #[.int .i64 3, .int .i64 4, .int .i64 5, .int .i64 10, .int .i64 12, .int .i64 25, .int .i64 9999, .int .i64 0, .int .i64 10000] 3) = x := ⟨_, rfl⟩
  have bw_t_16 : Below wt_14.heap.size wt_14 w_t_16 := by rw [← hw_t_16]; exact (Below.refl _ _).alloc (Nat.le_refl _) _
  have hs_t_16 := HBwt_14.out.size
  have nt_16 : t_16.length = 9 := by rw [← ht_16]; rfl
  have Ot_16 : Hid (w_t_16.ownsRow w.heap.size 3 1 (.slice (some ⟨wt_14.heap.size, 0, none⟩) 9 9) 9 (Go.Proofs.Ytlljmgphgmklcaa.HelpInt.iv t_16)) := by
    rw [← hw_t_16, ← ht_16]
    have e_ : ([.int .i64 3, .int .i64 4, .int .i64 5, .int .i64 10, .int .i64 12, .int .i64 25, .int .i64 9999, .int .i64 0, .int .i64 10000] : List Value) = (Go.Proofs.Ytlljmgphgmklcaa.HelpInt.iv ([3, 4, 5, 10, 12, 25, 9999, 0, 10000] : List Int)) := rfl
    exact Lib.hid (own_laid (n := 9) hs_t_16 e_ rfl (by unfold maxLen; omega))
  clear hs_t_16
  have hht_16 := Lib.hid ht_16
  clear ht_16
  replace nt_16 := Lib.hid nt_16
  have Dt_16_t_9 := Lib.hid (apart_fresh Ot_9.out)
  have Dt_16_t_13 := Lib.hid (apart_fresh Ot_13.out)
  have Dt_16_t_6 := Lib.hid (Go.Proofs.Ytlljmgphgmklcaa.GoC.apart_cur Kt_14.out)
  have HBw_t_16 := Lib.hid (Below.step HBwt_14.out bw_t_16)
  replace Ot_9 := Lib.hid (own_below Ot_9.out bw_t_16)
  replace Ot_13 := Lib.hid (own_below Ot_13.out bw_t_16)
  replace Kt_14 := Lib.hid (Go.Proofs.Ytlljmgphgmklcaa.GoC.cur_below Kt_14.out bw_t_16)
  clear bw_t_16
  replace H := bind2_hid H
  obtain ⟨t_17, t_17_tp, qt_17, H⟩ := H
  go_wp2_with fail
  have hc_ := nt_16.out
  have hv_ : (Value.slice (some ⟨wt_14.heap.size, 0, none⟩) 9 9 : Value) = Value.slice (some ⟨wt_14.heap.size, 0, none⟩) t_16.length 9 := by rw [hc_]
  try rw [hv_]
  replace Ot_16 := Lib.hid (own_len hc_ Ot_16.out)
  clear hc_ hv_
  go_wp2_with fail
  go_at_call 119
  refine (Go.Proofs.Ytlljmgphgmklcaa.GsL1CurAmong.C (t_14_tp) (t_16) (some ⟨wt_14.heap.size, 0, none⟩) 9 (w.heap.size) (A0) (c0) (w.heap.size) _   (Lib.hid (own_cells Ot_16.out)) (Lib.hid (own_max Ot_16.out)) Kt_14 (Lib.hid (fun _ => Dt_16_t_6.out)) qt_17).mono ?_
  rintro e_t_17 wt_17 ⟨rfl, kt_17, gt_17⟩
  have Kt_17 := Lib.hid kt_17
  have Gt_17 : Hid (w_t_16.grownBy wt_17 (Value.slice (some ⟨w.heap.size, 0, none⟩) 1 1).ownBlock) := Lib.hid gt_17
  clear kt_17 gt_17
  have HBwt_17 := Lib.hid (Go.Proofs.Ytlljmgphgmklcaa.GoC.below_cur HBw_t_16.out Gt_17.out HBw_t_16.out.size (Go.Proofs.Ytlljmgphgmklcaa.GoC.cur_lt Kt_14.out).1)
  replace Ot_9 := Lib.hid (own_other Ot_9.out Gt_17.out (Apart.symm Dt_9_t_6.out))
  replace Ot_13 := Lib.hid (own_other Ot_13.out Gt_17.out (Apart.symm Dt_13_t_6.out))
  replace Ot_16 := Lib.hid (own_other Ot_16.out Gt_17.out (Apart.symm Dt_16_t_6.out))
  clear Kt_14 Gt_17
  cases ret_hid H
  go_wp2_with fail
  (try simp only [Exit.inBlock, Exit.then]); refine bodyPost_ret (results_tmp4 rfl _ _ _) rfl ?_
  exact ⟨At_9, ct_9, rfl, Ot_9.out, HBwt_17.out⟩
end Go.Proofs.Ytlljmgphgmklcaa.GsDrawHeaviestFor

/- loop.example/g01062/impl.HeaviestFor as a plain function, and the contract of the program's: where the plain one has an answer, the program has it. Conditions: slices read as lists. -/
namespace Go.Proofs.Ytlljmgphgmklcaa.GiHeaviestFor
set_option linter.unusedVariables false
set_option linter.unusedSimpArgs false
open Go.RowKit
open Go.Proofs.Ytlljmgphgmklcaa.Rowed Go.Proofs.Ytlljmgphgmklcaa.Turn Go.Proofs.Ytlljmgphgmklcaa.Aid Go.Proofs.Ytlljmgphgmklcaa.GoP Go.Proofs.Ytlljmgphgmklcaa.GoM

def l0 (list : (List Go.Proofs.Ytlljmgphgmklcaa.PRate.Rate)) (day : Int) (zone : Int) (cents : Int) (k0 : Nat) (s : Int) (nx0 bk0 : Int → Option (Int × Bool)) : Option (Int × Bool) :=
  letK s fun heaviest_10l0 =>
  Option.bind (idx list (k0 : Int)) fun (yt_27 : Go.Proofs.Ytlljmgphgmklcaa.PRate.Rate) =>
  unRate yt_27 fun (t_27_zone : Int) (t_27_grams : Int) (t_27_from_ : Int) (t_27_until_ : Int) (t_27_cents : Int) =>
  letK (t_27_zone == zone) fun (t_34 : Bool) =>
  joinK (fun (t_40 : Bool) =>
  joinK (fun (t_48 : Bool) =>
  iteK t_48
  (appK nx0 (t_27_grams))
  (appK nx0 (heaviest_10l0))) fun jt_48 => iteK t_40 (Option.bind (Go.Proofs.Ytlljmgphgmklcaa.GiWithin.P day t_27_from_ t_27_until_) fun (t_47 : Bool) =>
  appK jt_48 t_47) (appK jt_48 false)) fun jt_40 => iteK t_34 (letK (decide (t_27_cents ≤ cents)) fun (t_39 : Bool) =>
  appK jt_40 t_39) (appK jt_40 false)

def e0  (s : Int) : Option (Int × Bool) :=
  letK s fun heaviest_10l0 =>
  letK (decide (0 < heaviest_10l0)) fun (t_56 : Bool) =>
  some (heaviest_10l0, t_56)

def P (list : (List Go.Proofs.Ytlljmgphgmklcaa.PRate.Rate)) (day : Int) (zone : Int) (cents : Int) : Option (Int × Bool) :=
  Option.bind (Go.Proofs.Ytlljmgphgmklcaa.GiAreRates.P list) fun (t_3 : Bool) =>
  letK (!t_3) fun (t_4 : Bool) =>
  joinK (fun (t_9 : Bool) =>
  joinK (fun (t_14 : Bool) =>
  joinK (fun (t_19 : Bool) =>
  iteK t_19
  (some (0, false))
  (cntK (l0 list day zone cents) (list.length) 0 (0) (e0 ))) fun jt_19 => iteK t_14 (appK jt_19 true) (Option.bind (Go.Proofs.Ytlljmgphgmklcaa.GiIsRateCents.P cents) fun (t_17 : Bool) =>
  letK (!t_17) fun (t_18 : Bool) =>
  appK jt_19 t_18)) fun jt_14 => iteK t_9 (appK jt_14 true) (Option.bind (Go.Proofs.Ytlljmgphgmklcaa.GiIsZone.P zone) fun (t_12 : Bool) =>
  letK (!t_12) fun (t_13 : Bool) =>
  appK jt_14 t_13)) fun jt_9 => iteK t_4 (appK jt_9 true) (Option.bind (Go.Proofs.Ytlljmgphgmklcaa.GiIsDay.P day) fun (t_7 : Bool) =>
  letK (!t_7) fun (t_8 : Bool) =>
  appK jt_9 t_8)

set_option maxRecDepth 100000 in
set_option maxHeartbeats 2000000 in
theorem C (list : (List Go.Proofs.Ytlljmgphgmklcaa.PRate.Rate)) (day : Int) (zone : Int) (cents : Int) (A0 : Option Addr) (c0 : Nat)  (w : World) (M0 : Hid (Cells w 5 A0 list.length (Go.Proofs.Ytlljmgphgmklcaa.PRate.flat list))) (N0 : Hid (list.length ≤ 9223372036854775807))  {r0 : Int} {r1 : Bool} (H : Hid (P list day zone cents = some (r0, r1))) :
    Calls Try.prog 75 #[.slice A0 list.length c0, .int .i64 day, .int .i64 zone, .int .i64 cents] w (Gives (.tuple #[.int .i64 r0, .bool r1]) w) := by
  have HB := Lib.hid (Below.refl w.heap.size w)
  unfold P at H
  have N0o := N0.out
  go_enter Try.func75, Try.ntmps75
  replace H := bind_hid H
  obtain ⟨t_3, qt_3, H⟩ := H
  go_wp2_with fail
  go_at_call 67
  refine (Go.Proofs.Ytlljmgphgmklcaa.GiAreRates.C (list) A0 c0 _   (Lib.hid (Cells.below M0.out HB.out)) N0 qt_3).mono ?_
  rintro e_t_3 wt_3 ⟨rfl, bt_3⟩
  have HBwt_3 := Lib.hid (Below.step HB.out bt_3)
  clear bt_3
  cases t_3 with
  | false =>
    replace H := let_hid H
    obtain ⟨t_4, ht_4, H⟩ := H
    obtain rfl : t_4 = true := ht_4.symm
    replace H := join_hid H
    replace H := ite_t H
    replace H := app_hid H
    replace H := join_hid H
    replace H := ite_t H
    replace H := app_hid H
    replace H := join_hid H
    replace H := ite_t H
    replace H := app_hid H
    replace H := ite_t H
    cases ret_hid H
    go_wp2_with fail
    go_ret2
    exact ⟨rfl, HBwt_3.out⟩
  | true =>
    replace H := let_hid H
    obtain ⟨t_4, ht_4, H⟩ := H
    obtain rfl : t_4 = false := ht_4.symm
    replace H := join_hid H
    replace H := ite_f H
    replace H := bind_hid H
    obtain ⟨t_7, qt_7, H⟩ := H
    go_wp2_with fail
    go_at_call 79
    refine (Go.Proofs.Ytlljmgphgmklcaa.GiIsDay.C (day)  _    qt_7).mono ?_
    rintro e_t_7 wt_7 ⟨rfl, bt_7⟩
    have HBwt_7 := Lib.hid (Below.step HBwt_3.out bt_7)
    clear bt_7
    cases t_7 with
    | false =>
      replace H := let_hid H
      obtain ⟨t_8, ht_8, H⟩ := H
      obtain rfl : t_8 = true := ht_8.symm
      replace H := app_hid H
      replace H := join_hid H
      replace H := ite_t H
      replace H := app_hid H
      replace H := join_hid H
      replace H := ite_t H
      replace H := app_hid H
      replace H := ite_t H
      cases ret_hid H
      go_wp2_with fail
      go_ret2
      exact ⟨rfl, HBwt_7.out⟩
    | true =>
      replace H := let_hid H
      obtain ⟨t_8, ht_8, H⟩ := H
      obtain rfl : t_8 = false := ht_8.symm
      replace H := app_hid H
      replace H := join_hid H
      replace H := ite_f H
      replace H := bind_hid H
      obtain ⟨t_12, qt_12, H⟩ := H
      go_wp2_with fail
      go_at_call 80
      refine (Go.Proofs.Ytlljmgphgmklcaa.GiIsZone.C (zone)  _    qt_12).mono ?_
      rintro e_t_12 wt_12 ⟨rfl, bt_12⟩
      have HBwt_12 := Lib.hid (Below.step HBwt_7.out bt_12)
      clear bt_12
      cases t_12 with
      | false =>
        replace H := let_hid H
        obtain ⟨t_13, ht_13, H⟩ := H
        obtain rfl : t_13 = true := ht_13.symm
        replace H := app_hid H
        replace H := join_hid H
        replace H := ite_t H
        replace H := app_hid H
        replace H := ite_t H
        cases ret_hid H
        go_wp2_with fail
        go_ret2
        exact ⟨rfl, HBwt_12.out⟩
      | true =>
        replace H := let_hid H
        obtain ⟨t_13, ht_13, H⟩ := H
        obtain rfl : t_13 = false := ht_13.symm
        replace H := app_hid H
        replace H := join_hid H
        replace H := ite_f H
        replace H := bind_hid H
        obtain ⟨t_17, qt_17, H⟩ := H
        go_wp2_with fail
        go_at_call 82
        refine (Go.Proofs.Ytlljmgphgmklcaa.GiIsRateCents.C (cents)  _    qt_17).mono ?_
        rintro e_t_17 wt_17 ⟨rfl, bt_17⟩
        have HBwt_17 := Lib.hid (Below.step HBwt_12.out bt_17)
        clear bt_17
        cases t_17 with
        | false =>
          replace H := let_hid H
          obtain ⟨t_18, ht_18, H⟩ := H
          obtain rfl : t_18 = true := ht_18.symm
          replace H := app_hid H
          replace H := ite_t H
          cases ret_hid H
          go_wp2_with fail
          go_ret2
          exact ⟨rfl, HBwt_17.out⟩
        | true =>
          replace H := let_hid H
          obtain ⟨t_18, ht_18, H⟩ := H
          obtain rfl : t_18 = false := ht_18.symm
          replace H := app_hid H
          replace H := ite_f H
          go_wp2_with fail
          go_loopg [33, 10] (list.length) (fun m_ v33_ v10_ wr => ∃ (k0 : Nat) (heaviest_10l0 : Int), k0 + m_ = list.length ∧ v33_ = .int .i64 (k0 : Int) ∧ v10_ = .int .i64 heaviest_10l0 ∧ Hid (cntK (l0 list day zone cents) m_ k0 (heaviest_10l0) (e0 ) = some (r0, r1)) ∧ Hid (Below w.heap.size w wr))
          case atStart => exact ⟨0, _, by omega, rfl, rfl, H, HBwt_17⟩
          case round =>
            obtain ⟨k0, heaviest_10l0, hkm0, rfl, rfl, H, HBwr0⟩ := hrel
            rename World => wr0
            cases gk with
            | zero =>
              obtain rfl : k0 = list.length := by omega
              have hc0 : decide (((list.length : Nat) : Int) < ((list.length : Nat) : Int)) = false := by simp
              replace H := cnt_zero H
              unfold e0 at H
              replace H := let_hid H
              obtain ⟨_, rfl, H⟩ := H
              replace H := let_hid H
              obtain ⟨t_56, ht_56, H⟩ := H
              cases ret_hid H
              go_wp2_with fail
              go_ret2
              exact ⟨rfl, HBwr0.out⟩
            | succ m0 =>
              have hlt0 : k0 < list.length := by omega
              have hc0 : decide ((k0 : Int) < ((list.length : Nat) : Int)) = true := by simp; omega
              replace H := cnt_succ H
              unfold l0 at H
              replace H := let_hid H
              obtain ⟨_, rfl, H⟩ := H
              replace H := idx_hid H
              obtain ⟨nt_27, yt_27, et_27, lt_27, gt_27, H⟩ := H
              obtain rfl : k0 = nt_27 := by omega
              clear et_27
              obtain ⟨t_27_zone, t_27_grams, t_27_from_, t_27_until_, t_27_cents⟩ := yt_27
              replace H := unRate_hid H
              obtain ⟨ab_t_27, ao_t_27, zt_27, At_27, z_t_27, ct_27_0, ct_27_1, ct_27_2, ct_27_3, ct_27_4⟩ := Go.Proofs.Ytlljmgphgmklcaa.ORate.at_ M0.out lt_27
              obtain rfl := Option.some.inj (gt_27.out.symm.trans z_t_27)
              subst At_27
              have ltt_27 := cell_lt ct_27_0
              replace ct_27_0 := cell_below HBwr0.out ct_27_0
              replace ct_27_1 := cell_below HBwr0.out ct_27_1
              replace ct_27_2 := cell_below HBwr0.out ct_27_2
              replace ct_27_3 := cell_below HBwr0.out ct_27_3
              replace ct_27_4 := cell_below HBwr0.out ct_27_4
              clear z_t_27
              have b0t_27 : (0 : Int) ≤ (k0 : Int) := by omega
              have b1t_27 : (k0 : Int) < ((list.length : Nat) : Int) := by omega
              have b2t_27 : ((k0 : Int)).toNat = k0 := by omega
              obtain ⟨w_r_29, hw_r_29⟩ : ∃ x, wr0.alloc (.cells #[.int .i64 t_27_zone, .int .i64 t_27_grams, .int .i64 t_27_from_, .int .i64 t_27_until_, .int .i64 t_27_cents] 104) = x := ⟨_, rfl⟩
              have bw_r_29 : Below wr0.heap.size wr0 w_r_29 := by rw [← hw_r_29]; exact (Below.refl _ _).alloc (Nat.le_refl _) _
              have HBw_r_29 := Lib.hid (Below.step HBwr0.out bw_r_29)
              have ct_27_0__1682 := cell_below bw_r_29 ct_27_0
              have ct_27_1__1683 := cell_below bw_r_29 ct_27_1
              have ct_27_2__1684 := cell_below bw_r_29 ct_27_2
              have ct_27_3__1685 := cell_below bw_r_29 ct_27_3
              have ct_27_4__1686 := cell_below bw_r_29 ct_27_4
              clear bw_r_29
              have kr_29_0 : w_r_29.cell? ⟨wr0.heap.size, 0, none⟩ = some (.int .i64 t_27_zone) := by rw [← hw_r_29]; exact box_new _ _ _ 0 _ rfl
              have kr_29_1 : w_r_29.cell? ⟨wr0.heap.size, 1, none⟩ = some (.int .i64 t_27_grams) := by rw [← hw_r_29]; exact box_new _ _ _ 1 _ rfl
              have kr_29_2 : w_r_29.cell? ⟨wr0.heap.size, 2, none⟩ = some (.int .i64 t_27_from_) := by rw [← hw_r_29]; exact box_new _ _ _ 2 _ rfl
              have kr_29_3 : w_r_29.cell? ⟨wr0.heap.size, 3, none⟩ = some (.int .i64 t_27_until_) := by rw [← hw_r_29]; exact box_new _ _ _ 3 _ rfl
              have kr_29_4 : w_r_29.cell? ⟨wr0.heap.size, 4, none⟩ = some (.int .i64 t_27_cents) := by rw [← hw_r_29]; exact box_new _ _ _ 4 _ rfl
              replace H := let_hid H
              obtain ⟨t_34, ht_34, H⟩ := H
              replace H := join_hid H
              cases t_34 with
              | false =>
                replace H := ite_f H
                replace H := app_hid H
                replace H := join_hid H
                replace H := ite_f H
                replace H := app_hid H
                replace H := ite_f H
                replace H := app_hid H
                go_wp2_with fail
                clear ct_27_0 ct_27_1 ct_27_2 ct_27_3 ct_27_4
                go_roundg m0
                case measure => omega
                case rel => exact ⟨k0 + 1, _, by omega, by go_num, rfl, H, HBw_r_29⟩
              | true =>
                replace H := ite_t H
                replace H := let_hid H
                obtain ⟨t_39, ht_39, H⟩ := H
                replace H := app_hid H
                replace H := join_hid H
                cases t_39 with
                | false =>
                  replace H := ite_f H
                  replace H := app_hid H
                  replace H := ite_f H
                  replace H := app_hid H
                  go_wp2_with fail
                  clear ct_27_0 ct_27_1 ct_27_2 ct_27_3 ct_27_4
                  go_roundg m0
                  case measure => omega
                  case rel => exact ⟨k0 + 1, _, by omega, by go_num, rfl, H, HBw_r_29⟩
                | true =>
                  replace H := ite_t H
                  replace H := bind_hid H
                  obtain ⟨t_47, qt_47, H⟩ := H
                  go_wp2_with fail
                  clear ct_27_0 ct_27_1 ct_27_2 ct_27_3 ct_27_4
                  go_at_call 78
                  refine (Go.Proofs.Ytlljmgphgmklcaa.GiWithin.C (day) (t_27_from_) (t_27_until_)  _    qt_47).mono ?_
                  rintro e_t_47 wt_47 ⟨rfl, bt_47⟩
                  have HBwt_47 := Lib.hid (Below.step HBw_r_29.out bt_47)
                  replace ct_27_0__1682 := cell_below bt_47 ct_27_0__1682
                  replace ct_27_1__1683 := cell_below bt_47 ct_27_1__1683
                  replace ct_27_2__1684 := cell_below bt_47 ct_27_2__1684
                  replace ct_27_3__1685 := cell_below bt_47 ct_27_3__1685
                  replace ct_27_4__1686 := cell_below bt_47 ct_27_4__1686
                  replace kr_29_0 := cell_below bt_47 kr_29_0
                  replace kr_29_1 := cell_below bt_47 kr_29_1
                  replace kr_29_2 := cell_below bt_47 kr_29_2
                  replace kr_29_3 := cell_below bt_47 kr_29_3
                  replace kr_29_4 := cell_below bt_47 kr_29_4
                  clear bt_47
                  replace H := app_hid H
                  cases t_47 with
                  | false =>
                    replace H := ite_f H
                    replace H := app_hid H
                    go_wp2_with fail
                    go_roundg m0
                    case measure => omega
                    case rel => exact ⟨k0 + 1, _, by omega, by go_num, rfl, H, HBwt_47⟩
                  | true =>
                    replace H := ite_t H
                    replace H := app_hid H
                    go_wp2_with fail
                    go_roundg m0
                    case measure => omega
                    case rel => exact ⟨k0 + 1, _, by omega, by go_num, rfl, H, HBwt_47⟩
end Go.Proofs.Ytlljmgphgmklcaa.GiHeaviestFor

