/- Texts on which the proofs of several laws stand, one behind the other (9 of 9). No condition of their own. -/
import Derived.Test.YtgimcnpkngpmiaaDoorChecked
import Derived.Test.YtgimcnpkngpmiaaDoorX11P2
import Derived.Test.YtgimcnpkngpmiaaDoorX11P1
import Derived.Lib.AppendIntMem
import Derived.Lib.Hide
import Derived.WalkKit
import Derived.WalkSpells
import Derived.Lib.ItoaMem
import Derived.Lib.ItoaLen
import Derived.IntWalk
import Derived.Outline
import Derived.BigQuiet
import Derived.Deep.QuietTactic
import Derived.WalkSmall
import Derived.Test.YtgimcnpkngpmiaaDoorX11P3
import Derived.WalkLawsBesides
import Derived.OwnWalk
import Derived.Deep.LoopGhost
import Derived.Lib.QuietBelow
import Derived.Test.YtgimcnpkngpmiaaDoorX11P4
import Derived.Test.YtgimcnpkngpmiaaDoorRows
import Derived.LaidSub
import Derived.Lib.LaidTab
import Derived.Lib.ItoaNum
import Derived.KernelRfl
import Derived.Lib.AtoiTie
import Derived.Test.YtgimcnpkngpmiaaDoorX11P5
/- The contract of strconv.Itoa in the words of the other contracts, and joins of texts. Condition of Itoa's: the library's table of powers of ten is as the library lays it. -/
namespace Go.Proofs.YtgimcnpkngpmiaaDoor.Tab
set_option linter.unusedVariables false
open Go.RowKit
open Go.Proofs.YtgimcnpkngpmiaaDoor.Rowed Go.Proofs.YtgimcnpkngpmiaaDoor.Turn

abbrev Tab (w : World) : Prop := Lib.TabIs Tryd.prog w "internal/strconv.uint64pow10" .u64 Lib.pow10Tab
theorem var_below {W W' : World} {n : String} {cs : Array Value} (h : Below W.heap.size W W') (hv : W.var? Tryd.prog n = some cs) : W'.var? Tryd.prog n = some cs := by
  unfold World.var? at hv ⊢
  cases hg : Tryd.prog.globalNamed n with
  | none => simp [hg] at hv
  | some g =>
    simp only [hg, Option.bind_some] at hv ⊢
    by_cases hlt : g < W.heap.size
    · rw [h.block g hlt]; exact hv
    · rw [Array.getElem?_eq_none (by omega)] at hv; simp at hv
theorem tab_below {W W' : World} (h : Below W.heap.size W W') (ht : Hid (Tab W)) : Hid (Tab W') := var_below h ht

def str (l : List UInt8) : ByteArray := ⟨l.toArray⟩
theorem itoa_any (n : Int) (h0 : -9223372036854775808 ≤ n) (h1 : n ≤ 9223372036854775807) (w : World) (ht : Hid (Tab w)) :
    Calls Tryd.prog 58 #[.int .i64 n] w fun e w' => e = .returned (.string ⟨(Lib.itoa n).toArray⟩) ∧ Below w.heap.size w w' := by
  refine (Tryd.strconv_Itoa n h0 h1 _ ht.out).mono ?_
  rintro e w' ⟨rfl, m, os, rfl⟩
  exact ⟨rfl, Lib.below_grow _ _ (Nat.le_refl _) m os⟩
end Go.Proofs.YtgimcnpkngpmiaaDoor.Tab

/- The contracts of spec.l1In and spec.l1Num: whether a number lies within bounds, and its decimal numeral. Condition: the number is an int, from -2^62 on for l1Num. -/
namespace Go.Proofs.YtgimcnpkngpmiaaDoor.Num
open Go.RowKit

theorem digits10 (n : Int) (_h0 : 0 ≤ n) (h : n < 10) : (ByteArray.mk #[48, 49, 50, 51, 52, 53, 54, 55, 56, 57]).extract n.toNat (n + 1).toNat = ByteArray.mk #[UInt8.ofNat (48 + n.toNat)] := by
  obtain rfl | rfl | rfl | rfl | rfl | rfl | rfl | rfl | rfl | rfl : n = 0 ∨ n = 1 ∨ n = 2 ∨ n = 3 ∨ n = 4 ∨ n = 5 ∨ n = 6 ∨ n = 7 ∨ n = 8 ∨ n = 9 := by omega
  all_goals rfl

theorem decDigits_step (n : Int) (_h0 : 0 ≤ n) (h : ¬ n < 10) : Lib.decDigits n.toNat = Lib.decDigits (n / 10).toNat ++ [UInt8.ofNat (48 + (n % 10).toNat)] := by
  rw [Lib.decDigits, dif_neg (by omega)]
  have e1 : n.toNat / 10 = (n / 10).toNat := by omega
  have e2 : n.toNat % 10 = (n % 10).toNat := by omega
  rw [e1, e2]

theorem add_digit (n : Int) (h0 : 0 ≤ n) (h : ¬ n < 10) (hb : n ≤ 4611686018427387904) (W : World) :
    (Op.stringOp .add ⟨(Lib.decDigits (n / 10).toNat).toArray⟩ ((ByteArray.mk #[48, 49, 50, 51, 52, 53, 54, 55, 56, 57]).extract (n % 10).toNat (n % 10 + 1).toNat)).run Tryd.prog W
      = .ok (.string ⟨(Lib.decDigits n.toNat).toArray⟩) W := by
  have hl : Lib.nDigits (n / 10).toNat ≤ 20 := Lib.nDigits_le20 _ (by omega)
  rw [digits10 (n % 10) (by omega) (by omega)]
  rw [run_string_add_sum]
  · rw [decDigits_step n h0 h]
    congr 2
  · have e1 : (ByteArray.mk (Lib.decDigits (n / 10).toNat).toArray).size = Lib.nDigits (n / 10).toNat := by
      rw [← Lib.decDigits_length]; rfl
    rw [e1]
    show Lib.nDigits (n / 10).toNat + 1 ≤ _
    omega

set_option maxHeartbeats 800000 in
theorem l1Num_pos (k : Nat) : ∀ (n : Int) (w : World), n < k → 0 ≤ n → n ≤ 4611686018427387904 →
    Calls Tryd.prog 57 #[.int .i64 n] w fun e w' => e = .returned (.string ⟨(Lib.decDigits n.toNat).toArray⟩) ∧ ∃ m, w' = w.drewN m := by
  induction k with
  | zero => intro n w hk h0 _; omega
  | succ k ih =>
    intro n w hk h0 hb
    by_cases h10 : n < 10
    · have HD := Lib.hid (digits10 n h0 h10)
      go_enter Tryd.func57, Tryd.ntmps57
      go_wp2_with fail
      go_ret
      refine ⟨?_, 0, rfl⟩
      rw [Lib.decDigits_one (by omega)]
      simp only [HD.out]
      rfl
    · have hadd := add_digit n h0 h10 hb
      go_enter Tryd.func57, Tryd.ntmps57
      go_wp2_with fail
      have q1 : IntKind.i64.wrap (n.tdiv 10) = n / 10 := by rw [Int.tdiv_eq_ediv_of_nonneg h0]; exact IntWalk.i64_in _ (by omega)
      have q2 : n.tmod 10 = n % 10 := Int.tmod_eq_emod_of_nonneg h0
      have q3 : IntKind.i64.wrap (n % 10) = n % 10 := IntWalk.i64_in _ (by omega)
      have q4 : IntKind.i64.wrap (n % 10 + 1) = n % 10 + 1 := IntWalk.i64_in _ (by omega)
      have b1 : 0 ≤ n % 10 := by omega
      have b2 : n % 10 ≤ n % 10 + 1 := by omega
      have b3 : n % 10 + 1 ≤ 10 := by omega
      have b4 : 0 ≤ n % 10 + 1 := by omega
      have L1 : n / 10 < (k : Int) := by omega
      have L2 : 0 ≤ n / 10 := by omega
      have L3 : n / 10 ≤ 4611686018427387904 := by omega
      go_quiet ((go_at_call 57; exact Calls.quiet_of (ih (n / 10) _ L1 L2 L3)))
      go_wp2_with fail
      go_ret
      exact ⟨rfl, _, rfl⟩

theorem add_minus (n : Int) (h : n < 0) (hb : -4611686018427387904 ≤ n) (W : World) :
    (Op.stringOp .add ⟨#[45]⟩ ⟨(Lib.decDigits (-n).toNat).toArray⟩).run Tryd.prog W = .ok (.string ⟨(Lib.itoa n).toArray⟩) W := by
  have hl : Lib.nDigits (-n).toNat ≤ 20 := Lib.nDigits_le20 _ (by omega)
  have e1 : (ByteArray.mk (Lib.decDigits (-n).toNat).toArray).size = Lib.nDigits (-n).toNat := by
    rw [← Lib.decDigits_length]; rfl
  have e2 : (-n).toNat = n.natAbs := by omega
  rw [run_string_add_sum]
  · unfold Lib.itoa
    rw [if_pos h, e2]
    congr 2
  · rw [e1]
    show 1 + _ ≤ _
    omega

/-- spec.l1Num, for every number that is not too far out -/
theorem l1Num_any (n : Int) (w : World) (h1 : -4611686018427387904 ≤ n) (h2 : n ≤ 4611686018427387904) :
    Calls Tryd.prog 57 #[.int .i64 n] w fun e w' => e = .returned (.string ⟨(Lib.itoa n).toArray⟩) ∧ ∃ m, w' = w.drewN m := by
  by_cases h : n < 0
  · have hadd := add_minus n h h1
    have L1 : -n < ((-n).toNat + 1 : Nat) := by omega
    go_enter Tryd.func57, Tryd.ntmps57
    go_wp2_with (go_at_call 57; refine (l1Num_pos ((-n).toNat + 1) (-n) _ L1 (by omega) (by omega)).mono ?_; rintro e w' ⟨rfl, m, rfl⟩)
    go_ret
    exact ⟨rfl, _, rfl⟩
  · refine (l1Num_pos (n.toNat + 1) n w (by omega) (by omega) h2).mono ?_
    rintro e w' ⟨rfl, m, rfl⟩
    refine ⟨?_, m, rfl⟩
    unfold Lib.itoa
    rw [if_neg h]

end Go.Proofs.YtgimcnpkngpmiaaDoor.Num

/- spec.l1Num as a plain function, for numbers that are not too far out; the contract of the program's. No condition. -/
namespace Go.Proofs.YtgimcnpkngpmiaaDoor.GsL1Num
set_option linter.unusedVariables false
open Go.RowKit
open Go.Proofs.YtgimcnpkngpmiaaDoor.Turn
def P (n : Int) : Option ByteArray := if -4611686018427387904 ≤ n ∧ n ≤ 4611686018427387904 then some ⟨(Lib.itoa n).toArray⟩ else none
theorem C (n : Int) (w : World) {r : ByteArray} (H : Hid (P n = some r)) : Calls Tryd.prog 57 #[.int .i64 n] w (Gives (.string r) w) := by
  have h : P n = some r := H
  unfold P at h
  by_cases hk : -4611686018427387904 ≤ n ∧ n ≤ 4611686018427387904
  · rw [if_pos hk] at h
    obtain rfl := Option.some.inj h
    refine (Go.Proofs.YtgimcnpkngpmiaaDoor.Num.l1Num_any n w hk.1 hk.2).mono ?_
    rintro e w' ⟨rfl, m, rfl⟩
    exact ⟨rfl, Go.below_drewN (Below.refl _ _) m⟩
  · rw [if_neg hk] at h; simp at h
end Go.Proofs.YtgimcnpkngpmiaaDoor.GsL1Num

/- loop.example/g01062/spec.PostmarkText as a plain function, and the contract of the program's: where the plain one has an answer, the program has it. Conditions: slices read as lists. -/
namespace Go.Proofs.YtgimcnpkngpmiaaDoor.GsPostmarkText
set_option linter.unusedVariables false
set_option linter.unusedSimpArgs false
open Go.RowKit
open Go.Proofs.YtgimcnpkngpmiaaDoor.Rowed Go.Proofs.YtgimcnpkngpmiaaDoor.Turn Go.Proofs.YtgimcnpkngpmiaaDoor.Aid Go.Proofs.YtgimcnpkngpmiaaDoor.GoP Go.Proofs.YtgimcnpkngpmiaaDoor.GoM

def P (fuel : Nat) (p : Go.Proofs.YtgimcnpkngpmiaaDoor.PPostmark.Postmark) : Option (ByteArray × Bool) :=
  unPostmark p fun (p_id : Int) (p_town : ByteArray) (p_kind_ : Int) (p_first : Int) (p_last : Int) (p_lost : ByteArray) =>
  Option.bind (Go.Proofs.YtgimcnpkngpmiaaDoor.GsL11One.P fuel (Go.Proofs.YtgimcnpkngpmiaaDoor.PPostmark.Postmark.mk p_id p_town p_kind_ p_first p_last p_lost)) fun (t_4 : Bool) =>
  letK (!t_4) fun (t_5 : Bool) =>
  iteK t_5
  (some ((⟨#[]⟩ : ByteArray), false))
  (Option.bind (Go.Proofs.YtgimcnpkngpmiaaDoor.GsL1Num.P p_id) fun (t_10 : ByteArray) =>
  guardK ((⟨#[112]⟩ : ByteArray).size + t_10.size ≤ maxLen) <|
  letK ((⟨#[112]⟩ : ByteArray) ++ t_10) fun (t_11 : ByteArray) =>
  guardK (t_11.size + (⟨#[32]⟩ : ByteArray).size ≤ maxLen) <|
  letK (t_11 ++ (⟨#[32]⟩ : ByteArray)) fun (t_12 : ByteArray) =>
  Option.bind (Go.Proofs.YtgimcnpkngpmiaaDoor.GsL11Shown.P fuel (Go.Proofs.YtgimcnpkngpmiaaDoor.PPostmark.Postmark.mk p_id p_town p_kind_ p_first p_last p_lost)) fun (t_14 : ByteArray) =>
  guardK (t_12.size + t_14.size ≤ maxLen) <|
  letK (t_12 ++ t_14) fun (t_15 : ByteArray) =>
  guardK (t_15.size + (⟨#[32, 107]⟩ : ByteArray).size ≤ maxLen) <|
  letK (t_15 ++ (⟨#[32, 107]⟩ : ByteArray)) fun (t_16 : ByteArray) =>
  Option.bind (Go.Proofs.YtgimcnpkngpmiaaDoor.GsL1Num.P p_kind_) fun (t_19 : ByteArray) =>
  guardK (t_16.size + t_19.size ≤ maxLen) <|
  letK (t_16 ++ t_19) fun (t_20 : ByteArray) =>
  guardK (t_20.size + (⟨#[32]⟩ : ByteArray).size ≤ maxLen) <|
  letK (t_20 ++ (⟨#[32]⟩ : ByteArray)) fun (t_21 : ByteArray) =>
  Option.bind (Go.Proofs.YtgimcnpkngpmiaaDoor.GsL1Num.P p_first) fun (t_24 : ByteArray) =>
  guardK (t_21.size + t_24.size ≤ maxLen) <|
  letK (t_21 ++ t_24) fun (t_25 : ByteArray) =>
  guardK (t_25.size + (⟨#[45]⟩ : ByteArray).size ≤ maxLen) <|
  letK (t_25 ++ (⟨#[45]⟩ : ByteArray)) fun (t_26 : ByteArray) =>
  Option.bind (Go.Proofs.YtgimcnpkngpmiaaDoor.GsL1Num.P p_last) fun (t_29 : ByteArray) =>
  guardK (t_26.size + t_29.size ≤ maxLen) <|
  letK (t_26 ++ t_29) fun (t_30 : ByteArray) =>
  some (t_30, true))

set_option maxRecDepth 100000 in
set_option maxHeartbeats 2000000 in
theorem C (fuel : Nat) (p : Go.Proofs.YtgimcnpkngpmiaaDoor.PPostmark.Postmark)   (w : World)   {r0 : ByteArray} {r1 : Bool} (H : Hid (P fuel p = some (r0, r1))) :
    Calls Tryd.prog 16 #[p.val] w (Gives (.tuple #[.string r0, .bool r1]) w) := by
  have HB := Lib.hid (Below.refl w.heap.size w)
  unfold P at H
  obtain ⟨p_id, p_town, p_kind_, p_first, p_last, p_lost⟩ := p
  replace H := unPostmark_hid H
  unfold Go.Proofs.YtgimcnpkngpmiaaDoor.PPostmark.Postmark.val
  go_enter Tryd.func16, Tryd.ntmps16
  obtain ⟨w_p_0, hw_p_0⟩ : ∃ x, w.alloc (.cells #[.int .i64 p_id, .string p_town, .int .i64 p_kind_, .int .i64 p_first, .int .i64 p_last, .string p_lost] 39) = x := ⟨_, rfl⟩
  have bw_p_0 : Below w.heap.size w w_p_0 := by rw [← hw_p_0]; exact (Below.refl _ _).alloc (Nat.le_refl _) _
  have HBw_p_0 := Lib.hid (Below.step HB.out bw_p_0)
  clear bw_p_0
  have kp_0_0 : w_p_0.cell? ⟨w.heap.size, 0, none⟩ = some (.int .i64 p_id) := by rw [← hw_p_0]; exact box_new _ _ _ 0 _ rfl
  have kp_0_1 : w_p_0.cell? ⟨w.heap.size, 1, none⟩ = some (.string p_town) := by rw [← hw_p_0]; exact box_new _ _ _ 1 _ rfl
  have kp_0_2 : w_p_0.cell? ⟨w.heap.size, 2, none⟩ = some (.int .i64 p_kind_) := by rw [← hw_p_0]; exact box_new _ _ _ 2 _ rfl
  have kp_0_3 : w_p_0.cell? ⟨w.heap.size, 3, none⟩ = some (.int .i64 p_first) := by rw [← hw_p_0]; exact box_new _ _ _ 3 _ rfl
  have kp_0_4 : w_p_0.cell? ⟨w.heap.size, 4, none⟩ = some (.int .i64 p_last) := by rw [← hw_p_0]; exact box_new _ _ _ 4 _ rfl
  have kp_0_5 : w_p_0.cell? ⟨w.heap.size, 5, none⟩ = some (.string p_lost) := by rw [← hw_p_0]; exact box_new _ _ _ 5 _ rfl
  replace H := bind_hid H
  obtain ⟨t_4, qt_4, H⟩ := H
  go_wp2_with fail
  go_at_call 56
  refine (Go.Proofs.YtgimcnpkngpmiaaDoor.GsL11One.C fuel ((Go.Proofs.YtgimcnpkngpmiaaDoor.PPostmark.Postmark.mk p_id p_town p_kind_ p_first p_last p_lost))  _    qt_4).mono ?_
  rintro e_t_4 wt_4 ⟨rfl, bt_4⟩
  have HBwt_4 := Lib.hid (Below.step HBw_p_0.out bt_4)
  replace kp_0_0 := cell_below bt_4 kp_0_0
  replace kp_0_1 := cell_below bt_4 kp_0_1
  replace kp_0_2 := cell_below bt_4 kp_0_2
  replace kp_0_3 := cell_below bt_4 kp_0_3
  replace kp_0_4 := cell_below bt_4 kp_0_4
  replace kp_0_5 := cell_below bt_4 kp_0_5
  clear bt_4
  cases t_4 with
  | false =>
    replace H := let_hid H
    obtain ⟨t_5, ht_5, H⟩ := H
    obtain rfl : t_5 = true := ht_5.symm
    replace H := ite_t H
    cases ret_hid H
    go_wp2_with fail
    go_ret2
    exact ⟨rfl, HBwt_4.out⟩
  | true =>
    replace H := let_hid H
    obtain ⟨t_5, ht_5, H⟩ := H
    obtain rfl : t_5 = false := ht_5.symm
    replace H := ite_f H
    go_wp2_with fail
    have Hkp_0_0 := Lib.hid kp_0_0
    replace kp_0_0 := cell_regrown kp_0_0
    have Hkp_0_1 := Lib.hid kp_0_1
    replace kp_0_1 := cell_regrown kp_0_1
    have Hkp_0_2 := Lib.hid kp_0_2
    replace kp_0_2 := cell_regrown kp_0_2
    have Hkp_0_3 := Lib.hid kp_0_3
    replace kp_0_3 := cell_regrown kp_0_3
    have Hkp_0_4 := Lib.hid kp_0_4
    replace kp_0_4 := cell_regrown kp_0_4
    have Hkp_0_5 := Lib.hid kp_0_5
    replace kp_0_5 := cell_regrown kp_0_5
    replace H := bind_hid H
    obtain ⟨t_10, qt_10, H⟩ := H
    have nt_10 : ∀ d os, Calls Tryd.prog 57 #[.int .i64 p_id] (Go.Sort.grow (redrawn wt_4 d) os) fun e w'' => e = .returned (.string t_10) ∧ ∃ p : Regrown, w'' = Go.Sort.grow (redrawn wt_4 p.d) p.os := fun d os => Calls.regrown_of (Go.Proofs.YtgimcnpkngpmiaaDoor.GsL1Num.C (p_id)  _    qt_10)
    replace H := guard_hid H
    obtain ⟨hl_t_11, H⟩ := H
    replace H := let_hid H
    obtain ⟨t_11, ht_11, H⟩ := H
    have ct_11 := cat_rule (P := Tryd.prog) ht_11 hl_t_11
    clear hl_t_11
    have hht_11 := Lib.hid ht_11
    clear ht_11
    replace H := guard_hid H
    obtain ⟨hl_t_12, H⟩ := H
    replace H := let_hid H
    obtain ⟨t_12, ht_12, H⟩ := H
    have ct_12 := cat_rule (P := Tryd.prog) ht_12 hl_t_12
    clear hl_t_12
    have hht_12 := Lib.hid ht_12
    clear ht_12
    replace H := bind_hid H
    obtain ⟨t_14, qt_14, H⟩ := H
    have nt_14 : ∀ d os, Calls Tryd.prog 45 #[.agg #[.int .i64 p_id, .string p_town, .int .i64 p_kind_, .int .i64 p_first, .int .i64 p_last, .string p_lost]] (Go.Sort.grow (redrawn wt_4 d) os) fun e w'' => e = .returned (.string t_14) ∧ ∃ p : Regrown, w'' = Go.Sort.grow (redrawn wt_4 p.d) p.os := fun d os => Calls.regrown_of (Go.Proofs.YtgimcnpkngpmiaaDoor.GsL11Shown.C fuel ((Go.Proofs.YtgimcnpkngpmiaaDoor.PPostmark.Postmark.mk p_id p_town p_kind_ p_first p_last p_lost))  _    qt_14)
    replace H := guard_hid H
    obtain ⟨hl_t_15, H⟩ := H
    replace H := let_hid H
    obtain ⟨t_15, ht_15, H⟩ := H
    have ct_15 := cat_rule (P := Tryd.prog) ht_15 hl_t_15
    clear hl_t_15
    have hht_15 := Lib.hid ht_15
    clear ht_15
    replace H := guard_hid H
    obtain ⟨hl_t_16, H⟩ := H
    replace H := let_hid H
    obtain ⟨t_16, ht_16, H⟩ := H
    have ct_16 := cat_rule (P := Tryd.prog) ht_16 hl_t_16
    clear hl_t_16
    have hht_16 := Lib.hid ht_16
    clear ht_16
    replace H := bind_hid H
    obtain ⟨t_19, qt_19, H⟩ := H
    have nt_19 : ∀ d os, Calls Tryd.prog 57 #[.int .i64 p_kind_] (Go.Sort.grow (redrawn wt_4 d) os) fun e w'' => e = .returned (.string t_19) ∧ ∃ p : Regrown, w'' = Go.Sort.grow (redrawn wt_4 p.d) p.os := fun d os => Calls.regrown_of (Go.Proofs.YtgimcnpkngpmiaaDoor.GsL1Num.C (p_kind_)  _    qt_19)
    replace H := guard_hid H
    obtain ⟨hl_t_20, H⟩ := H
    replace H := let_hid H
    obtain ⟨t_20, ht_20, H⟩ := H
    have ct_20 := cat_rule (P := Tryd.prog) ht_20 hl_t_20
    clear hl_t_20
    have hht_20 := Lib.hid ht_20
    clear ht_20
    replace H := guard_hid H
    obtain ⟨hl_t_21, H⟩ := H
    replace H := let_hid H
    obtain ⟨t_21, ht_21, H⟩ := H
    have ct_21 := cat_rule (P := Tryd.prog) ht_21 hl_t_21
    clear hl_t_21
    have hht_21 := Lib.hid ht_21
    clear ht_21
    replace H := bind_hid H
    obtain ⟨t_24, qt_24, H⟩ := H
    have nt_24 : ∀ d os, Calls Tryd.prog 57 #[.int .i64 p_first] (Go.Sort.grow (redrawn wt_4 d) os) fun e w'' => e = .returned (.string t_24) ∧ ∃ p : Regrown, w'' = Go.Sort.grow (redrawn wt_4 p.d) p.os := fun d os => Calls.regrown_of (Go.Proofs.YtgimcnpkngpmiaaDoor.GsL1Num.C (p_first)  _    qt_24)
    replace H := guard_hid H
    obtain ⟨hl_t_25, H⟩ := H
    replace H := let_hid H
    obtain ⟨t_25, ht_25, H⟩ := H
    have ct_25 := cat_rule (P := Tryd.prog) ht_25 hl_t_25
    clear hl_t_25
    have hht_25 := Lib.hid ht_25
    clear ht_25
    replace H := guard_hid H
    obtain ⟨hl_t_26, H⟩ := H
    replace H := let_hid H
    obtain ⟨t_26, ht_26, H⟩ := H
    have ct_26 := cat_rule (P := Tryd.prog) ht_26 hl_t_26
    clear hl_t_26
    have hht_26 := Lib.hid ht_26
    clear ht_26
    replace H := bind_hid H
    obtain ⟨t_29, qt_29, H⟩ := H
    have nt_29 : ∀ d os, Calls Tryd.prog 57 #[.int .i64 p_last] (Go.Sort.grow (redrawn wt_4 d) os) fun e w'' => e = .returned (.string t_29) ∧ ∃ p : Regrown, w'' = Go.Sort.grow (redrawn wt_4 p.d) p.os := fun d os => Calls.regrown_of (Go.Proofs.YtgimcnpkngpmiaaDoor.GsL1Num.C (p_last)  _    qt_29)
    replace H := guard_hid H
    obtain ⟨hl_t_30, H⟩ := H
    replace H := let_hid H
    obtain ⟨t_30, ht_30, H⟩ := H
    have ct_30 := cat_rule (P := Tryd.prog) ht_30 hl_t_30
    clear hl_t_30
    have hht_30 := Lib.hid ht_30
    clear ht_30
    refine wp_region_quiet_below (by kernel_rfl) (by kernel_rfl) ?_
    repeat (go_big_quiet_step (first | (go_at_call 57; with_reducible exact nt_10 _ _) | (go_at_call 57; with_reducible exact nt_19 _ _) | (go_at_call 57; with_reducible exact nt_24 _ _) | (go_at_call 57; with_reducible exact nt_29 _ _) | (go_at_call 57; exact nt_10 _ _) | (go_at_call 45; exact nt_14 _ _) | (go_at_call 57; exact nt_19 _ _) | (go_at_call 57; exact nt_24 _ _) | (go_at_call 57; exact nt_29 _ _)))
    refine wpQuiet_nil ?_
    intro Y3 hY3
    replace hY3 := below_class hY3
    clear nt_10 nt_14 nt_19 nt_24 nt_29
    replace kp_0_0 := Hkp_0_0.out
    clear Hkp_0_0
    replace kp_0_1 := Hkp_0_1.out
    clear Hkp_0_1
    replace kp_0_2 := Hkp_0_2.out
    clear Hkp_0_2
    replace kp_0_3 := Hkp_0_3.out
    clear Hkp_0_3
    replace kp_0_4 := Hkp_0_4.out
    clear Hkp_0_4
    replace kp_0_5 := Hkp_0_5.out
    clear Hkp_0_5
    have HBY3 := Lib.hid (Below.step HBwt_4.out hY3)
    replace kp_0_0 := cell_below hY3 kp_0_0
    replace kp_0_1 := cell_below hY3 kp_0_1
    replace kp_0_2 := cell_below hY3 kp_0_2
    replace kp_0_3 := cell_below hY3 kp_0_3
    replace kp_0_4 := cell_below hY3 kp_0_4
    replace kp_0_5 := cell_below hY3 kp_0_5
    clear hY3
    cases ret_hid H
    go_wp2_with fail
    go_ret2
    exact ⟨rfl, HBY3.out⟩
end Go.Proofs.YtgimcnpkngpmiaaDoor.GsPostmarkText

/- strconv.Itoa as a plain function; the contract of the program's. Condition: the library's table of powers of ten is as the library lays it. -/
namespace Go.Proofs.YtgimcnpkngpmiaaDoor.GxStrconvItoa
set_option linter.unusedVariables false
open Go.RowKit
open Go.Proofs.YtgimcnpkngpmiaaDoor.Turn Go.Proofs.YtgimcnpkngpmiaaDoor.Tab
def P (n : Int) : Option ByteArray := if -9223372036854775808 ≤ n ∧ n ≤ 9223372036854775807 then some ⟨(Lib.itoa n).toArray⟩ else none
theorem C (n : Int) (w : World) (HT : Hid (Tab w)) {r : ByteArray} (H : Hid (P n = some r)) : Calls Tryd.prog 58 #[.int .i64 n] w (Gives (.string r) w) := by
  have h : P n = some r := H
  unfold P at h
  by_cases hk : -9223372036854775808 ≤ n ∧ n ≤ 9223372036854775807
  · rw [if_pos hk] at h
    obtain rfl := Option.some.inj h
    exact itoa_any n hk.1 hk.2 w HT
  · rw [if_neg hk] at h; simp at h
end Go.Proofs.YtgimcnpkngpmiaaDoor.GxStrconvItoa

/- loop.example/g01062/impl.PostmarkText as a plain function, and the contract of the program's: where the plain one has an answer, the program has it. Conditions: slices read as lists. -/
namespace Go.Proofs.YtgimcnpkngpmiaaDoor.GiPostmarkText
set_option linter.unusedVariables false
set_option linter.unusedSimpArgs false
open Go.RowKit
open Go.Proofs.YtgimcnpkngpmiaaDoor.Rowed Go.Proofs.YtgimcnpkngpmiaaDoor.Turn Go.Proofs.YtgimcnpkngpmiaaDoor.Aid Go.Proofs.YtgimcnpkngpmiaaDoor.GoP Go.Proofs.YtgimcnpkngpmiaaDoor.GoM Go.Proofs.YtgimcnpkngpmiaaDoor.Tab

def P (p : Go.Proofs.YtgimcnpkngpmiaaDoor.PPostmark.Postmark) : Option (ByteArray × Bool) :=
  unPostmark p fun (p_id : Int) (p_town : ByteArray) (p_kind_ : Int) (p_first : Int) (p_last : Int) (p_lost : ByteArray) =>
  Option.bind (Go.Proofs.YtgimcnpkngpmiaaDoor.GiIsPostmark.P (Go.Proofs.YtgimcnpkngpmiaaDoor.PPostmark.Postmark.mk p_id p_town p_kind_ p_first p_last p_lost)) fun (t_4 : Bool) =>
  letK (!t_4) fun (t_5 : Bool) =>
  iteK t_5
  (some ((⟨#[]⟩ : ByteArray), false))
  (Option.bind (Go.Proofs.YtgimcnpkngpmiaaDoor.GxStrconvItoa.P p_id) fun (t_10 : ByteArray) =>
  guardK ((⟨#[112]⟩ : ByteArray).size + t_10.size ≤ maxLen) <|
  letK ((⟨#[112]⟩ : ByteArray) ++ t_10) fun (t_11 : ByteArray) =>
  guardK (t_11.size + (⟨#[32]⟩ : ByteArray).size ≤ maxLen) <|
  letK (t_11 ++ (⟨#[32]⟩ : ByteArray)) fun (t_12 : ByteArray) =>
  Option.bind (Go.Proofs.YtgimcnpkngpmiaaDoor.GiLoShownBy.P (Go.Proofs.YtgimcnpkngpmiaaDoor.PPostmark.Postmark.mk p_id p_town p_kind_ p_first p_last p_lost)) fun (t_14 : ByteArray) =>
  guardK (t_12.size + t_14.size ≤ maxLen) <|
  letK (t_12 ++ t_14) fun (t_15 : ByteArray) =>
  guardK (t_15.size + (⟨#[32, 107]⟩ : ByteArray).size ≤ maxLen) <|
  letK (t_15 ++ (⟨#[32, 107]⟩ : ByteArray)) fun (t_16 : ByteArray) =>
  Option.bind (Go.Proofs.YtgimcnpkngpmiaaDoor.GxStrconvItoa.P p_kind_) fun (t_19 : ByteArray) =>
  guardK (t_16.size + t_19.size ≤ maxLen) <|
  letK (t_16 ++ t_19) fun (t_20 : ByteArray) =>
  guardK (t_20.size + (⟨#[32]⟩ : ByteArray).size ≤ maxLen) <|
  letK (t_20 ++ (⟨#[32]⟩ : ByteArray)) fun (t_21 : ByteArray) =>
  Option.bind (Go.Proofs.YtgimcnpkngpmiaaDoor.GxStrconvItoa.P p_first) fun (t_24 : ByteArray) =>
  guardK (t_21.size + t_24.size ≤ maxLen) <|
  letK (t_21 ++ t_24) fun (t_25 : ByteArray) =>
  guardK (t_25.size + (⟨#[45]⟩ : ByteArray).size ≤ maxLen) <|
  letK (t_25 ++ (⟨#[45]⟩ : ByteArray)) fun (t_26 : ByteArray) =>
  Option.bind (Go.Proofs.YtgimcnpkngpmiaaDoor.GxStrconvItoa.P p_last) fun (t_29 : ByteArray) =>
  guardK (t_26.size + t_29.size ≤ maxLen) <|
  letK (t_26 ++ t_29) fun (t_30 : ByteArray) =>
  some (t_30, true))

set_option maxRecDepth 100000 in
set_option maxHeartbeats 2000000 in
theorem C (p : Go.Proofs.YtgimcnpkngpmiaaDoor.PPostmark.Postmark)   (w : World) (HT : Hid (Tab w))   {r0 : ByteArray} {r1 : Bool} (H : Hid (P p = some (r0, r1))) :
    Calls Tryd.prog 18 #[p.val] w (Gives (.tuple #[.string r0, .bool r1]) w) := by
  have HB := Lib.hid (Below.refl w.heap.size w)
  unfold P at H
  obtain ⟨p_id, p_town, p_kind_, p_first, p_last, p_lost⟩ := p
  replace H := unPostmark_hid H
  unfold Go.Proofs.YtgimcnpkngpmiaaDoor.PPostmark.Postmark.val
  go_enter Tryd.func18, Tryd.ntmps18
  obtain ⟨w_p_0, hw_p_0⟩ : ∃ x, w.alloc (.cells #[.int .i64 p_id, .string p_town, .int .i64 p_kind_, .int .i64 p_first, .int .i64 p_last, .string p_lost] 39) = x := ⟨_, rfl⟩
  have bw_p_0 : Below w.heap.size w w_p_0 := by rw [← hw_p_0]; exact (Below.refl _ _).alloc (Nat.le_refl _) _
  have HBw_p_0 := Lib.hid (Below.step HB.out bw_p_0)
  clear bw_p_0
  have kp_0_0 : w_p_0.cell? ⟨w.heap.size, 0, none⟩ = some (.int .i64 p_id) := by rw [← hw_p_0]; exact box_new _ _ _ 0 _ rfl
  have kp_0_1 : w_p_0.cell? ⟨w.heap.size, 1, none⟩ = some (.string p_town) := by rw [← hw_p_0]; exact box_new _ _ _ 1 _ rfl
  have kp_0_2 : w_p_0.cell? ⟨w.heap.size, 2, none⟩ = some (.int .i64 p_kind_) := by rw [← hw_p_0]; exact box_new _ _ _ 2 _ rfl
  have kp_0_3 : w_p_0.cell? ⟨w.heap.size, 3, none⟩ = some (.int .i64 p_first) := by rw [← hw_p_0]; exact box_new _ _ _ 3 _ rfl
  have kp_0_4 : w_p_0.cell? ⟨w.heap.size, 4, none⟩ = some (.int .i64 p_last) := by rw [← hw_p_0]; exact box_new _ _ _ 4 _ rfl
  have kp_0_5 : w_p_0.cell? ⟨w.heap.size, 5, none⟩ = some (.string p_lost) := by rw [← hw_p_0]; exact box_new _ _ _ 5 _ rfl
  replace H := bind_hid H
  obtain ⟨t_4, qt_4, H⟩ := H
  go_wp2_with fail
  go_at_call 36
  refine (Go.Proofs.YtgimcnpkngpmiaaDoor.GiIsPostmark.C ((Go.Proofs.YtgimcnpkngpmiaaDoor.PPostmark.Postmark.mk p_id p_town p_kind_ p_first p_last p_lost))  _    qt_4).mono ?_
  rintro e_t_4 wt_4 ⟨rfl, bt_4⟩
  have HBwt_4 := Lib.hid (Below.step HBw_p_0.out bt_4)
  replace kp_0_0 := cell_below bt_4 kp_0_0
  replace kp_0_1 := cell_below bt_4 kp_0_1
  replace kp_0_2 := cell_below bt_4 kp_0_2
  replace kp_0_3 := cell_below bt_4 kp_0_3
  replace kp_0_4 := cell_below bt_4 kp_0_4
  replace kp_0_5 := cell_below bt_4 kp_0_5
  clear bt_4
  cases t_4 with
  | false =>
    replace H := let_hid H
    obtain ⟨t_5, ht_5, H⟩ := H
    obtain rfl : t_5 = true := ht_5.symm
    replace H := ite_t H
    cases ret_hid H
    go_wp2_with fail
    go_ret2
    exact ⟨rfl, HBwt_4.out⟩
  | true =>
    replace H := let_hid H
    obtain ⟨t_5, ht_5, H⟩ := H
    obtain rfl : t_5 = false := ht_5.symm
    replace H := ite_f H
    go_wp2_with fail
    have Hkp_0_0 := Lib.hid kp_0_0
    replace kp_0_0 := cell_regrown kp_0_0
    have Hkp_0_1 := Lib.hid kp_0_1
    replace kp_0_1 := cell_regrown kp_0_1
    have Hkp_0_2 := Lib.hid kp_0_2
    replace kp_0_2 := cell_regrown kp_0_2
    have Hkp_0_3 := Lib.hid kp_0_3
    replace kp_0_3 := cell_regrown kp_0_3
    have Hkp_0_4 := Lib.hid kp_0_4
    replace kp_0_4 := cell_regrown kp_0_4
    have Hkp_0_5 := Lib.hid kp_0_5
    replace kp_0_5 := cell_regrown kp_0_5
    replace H := bind_hid H
    obtain ⟨t_10, qt_10, H⟩ := H
    have nt_10 : ∀ d os, Calls Tryd.prog 58 #[.int .i64 p_id] (Go.Sort.grow (redrawn wt_4 d) os) fun e w'' => e = .returned (.string t_10) ∧ ∃ p : Regrown, w'' = Go.Sort.grow (redrawn wt_4 p.d) p.os := fun d os => Calls.regrown_of (Go.Proofs.YtgimcnpkngpmiaaDoor.GxStrconvItoa.C (p_id)  _ (tab_below (below_regrown _ _ _) (tab_below HBwt_4.out HT))   qt_10)
    replace H := guard_hid H
    obtain ⟨hl_t_11, H⟩ := H
    replace H := let_hid H
    obtain ⟨t_11, ht_11, H⟩ := H
    have ct_11 := cat_rule (P := Tryd.prog) ht_11 hl_t_11
    clear hl_t_11
    have hht_11 := Lib.hid ht_11
    clear ht_11
    replace H := guard_hid H
    obtain ⟨hl_t_12, H⟩ := H
    replace H := let_hid H
    obtain ⟨t_12, ht_12, H⟩ := H
    have ct_12 := cat_rule (P := Tryd.prog) ht_12 hl_t_12
    clear hl_t_12
    have hht_12 := Lib.hid ht_12
    clear ht_12
    replace H := bind_hid H
    obtain ⟨t_14, qt_14, H⟩ := H
    have nt_14 : ∀ d os, Calls Tryd.prog 53 #[.agg #[.int .i64 p_id, .string p_town, .int .i64 p_kind_, .int .i64 p_first, .int .i64 p_last, .string p_lost]] (Go.Sort.grow (redrawn wt_4 d) os) fun e w'' => e = .returned (.string t_14) ∧ ∃ p : Regrown, w'' = Go.Sort.grow (redrawn wt_4 p.d) p.os := fun d os => Calls.regrown_of (Go.Proofs.YtgimcnpkngpmiaaDoor.GiLoShownBy.C ((Go.Proofs.YtgimcnpkngpmiaaDoor.PPostmark.Postmark.mk p_id p_town p_kind_ p_first p_last p_lost))  _    qt_14)
    replace H := guard_hid H
    obtain ⟨hl_t_15, H⟩ := H
    replace H := let_hid H
    obtain ⟨t_15, ht_15, H⟩ := H
    have ct_15 := cat_rule (P := Tryd.prog) ht_15 hl_t_15
    clear hl_t_15
    have hht_15 := Lib.hid ht_15
    clear ht_15
    replace H := guard_hid H
    obtain ⟨hl_t_16, H⟩ := H
    replace H := let_hid H
    obtain ⟨t_16, ht_16, H⟩ := H
    have ct_16 := cat_rule (P := Tryd.prog) ht_16 hl_t_16
    clear hl_t_16
    have hht_16 := Lib.hid ht_16
    clear ht_16
    replace H := bind_hid H
    obtain ⟨t_19, qt_19, H⟩ := H
    have nt_19 : ∀ d os, Calls Tryd.prog 58 #[.int .i64 p_kind_] (Go.Sort.grow (redrawn wt_4 d) os) fun e w'' => e = .returned (.string t_19) ∧ ∃ p : Regrown, w'' = Go.Sort.grow (redrawn wt_4 p.d) p.os := fun d os => Calls.regrown_of (Go.Proofs.YtgimcnpkngpmiaaDoor.GxStrconvItoa.C (p_kind_)  _ (tab_below (below_regrown _ _ _) (tab_below HBwt_4.out HT))   qt_19)
    replace H := guard_hid H
    obtain ⟨hl_t_20, H⟩ := H
    replace H := let_hid H
    obtain ⟨t_20, ht_20, H⟩ := H
    have ct_20 := cat_rule (P := Tryd.prog) ht_20 hl_t_20
    clear hl_t_20
    have hht_20 := Lib.hid ht_20
    clear ht_20
    replace H := guard_hid H
    obtain ⟨hl_t_21, H⟩ := H
    replace H := let_hid H
    obtain ⟨t_21, ht_21, H⟩ := H
    have ct_21 := cat_rule (P := Tryd.prog) ht_21 hl_t_21
    clear hl_t_21
    have hht_21 := Lib.hid ht_21
    clear ht_21
    replace H := bind_hid H
    obtain ⟨t_24, qt_24, H⟩ := H
    have nt_24 : ∀ d os, Calls Tryd.prog 58 #[.int .i64 p_first] (Go.Sort.grow (redrawn wt_4 d) os) fun e w'' => e = .returned (.string t_24) ∧ ∃ p : Regrown, w'' = Go.Sort.grow (redrawn wt_4 p.d) p.os := fun d os => Calls.regrown_of (Go.Proofs.YtgimcnpkngpmiaaDoor.GxStrconvItoa.C (p_first)  _ (tab_below (below_regrown _ _ _) (tab_below HBwt_4.out HT))   qt_24)
    replace H := guard_hid H
    obtain ⟨hl_t_25, H⟩ := H
    replace H := let_hid H
    obtain ⟨t_25, ht_25, H⟩ := H
    have ct_25 := cat_rule (P := Tryd.prog) ht_25 hl_t_25
    clear hl_t_25
    have hht_25 := Lib.hid ht_25
    clear ht_25
    replace H := guard_hid H
    obtain ⟨hl_t_26, H⟩ := H
    replace H := let_hid H
    obtain ⟨t_26, ht_26, H⟩ := H
    have ct_26 := cat_rule (P := Tryd.prog) ht_26 hl_t_26
    clear hl_t_26
    have hht_26 := Lib.hid ht_26
    clear ht_26
    replace H := bind_hid H
    obtain ⟨t_29, qt_29, H⟩ := H
    have nt_29 : ∀ d os, Calls Tryd.prog 58 #[.int .i64 p_last] (Go.Sort.grow (redrawn wt_4 d) os) fun e w'' => e = .returned (.string t_29) ∧ ∃ p : Regrown, w'' = Go.Sort.grow (redrawn wt_4 p.d) p.os := fun d os => Calls.regrown_of (Go.Proofs.YtgimcnpkngpmiaaDoor.GxStrconvItoa.C (p_last)  _ (tab_below (below_regrown _ _ _) (tab_below HBwt_4.out HT))   qt_29)
    replace H := guard_hid H
    obtain ⟨hl_t_30, H⟩ := H
    replace H := let_hid H
    obtain ⟨t_30, ht_30, H⟩ := H
    have ct_30 := cat_rule (P := Tryd.prog) ht_30 hl_t_30
    clear hl_t_30
    have hht_30 := Lib.hid ht_30
    clear ht_30
    refine wp_region_quiet_below (by kernel_rfl) (by kernel_rfl) ?_
    repeat (go_big_quiet_step (first | (go_at_call 58; with_reducible exact nt_10 _ _) | (go_at_call 58; with_reducible exact nt_19 _ _) | (go_at_call 58; with_reducible exact nt_24 _ _) | (go_at_call 58; with_reducible exact nt_29 _ _) | (go_at_call 58; exact nt_10 _ _) | (go_at_call 53; exact nt_14 _ _) | (go_at_call 58; exact nt_19 _ _) | (go_at_call 58; exact nt_24 _ _) | (go_at_call 58; exact nt_29 _ _)))
    refine wpQuiet_nil ?_
    intro Y3 hY3
    replace hY3 := below_class hY3
    clear nt_10 nt_14 nt_19 nt_24 nt_29
    replace kp_0_0 := Hkp_0_0.out
    clear Hkp_0_0
    replace kp_0_1 := Hkp_0_1.out
    clear Hkp_0_1
    replace kp_0_2 := Hkp_0_2.out
    clear Hkp_0_2
    replace kp_0_3 := Hkp_0_3.out
    clear Hkp_0_3
    replace kp_0_4 := Hkp_0_4.out
    clear Hkp_0_4
    replace kp_0_5 := Hkp_0_5.out
    clear Hkp_0_5
    have HBY3 := Lib.hid (Below.step HBwt_4.out hY3)
    replace kp_0_0 := cell_below hY3 kp_0_0
    replace kp_0_1 := cell_below hY3 kp_0_1
    replace kp_0_2 := cell_below hY3 kp_0_2
    replace kp_0_3 := cell_below hY3 kp_0_3
    replace kp_0_4 := cell_below hY3 kp_0_4
    replace kp_0_5 := cell_below hY3 kp_0_5
    clear hY3
    cases ret_hid H
    go_wp2_with fail
    go_ret2
    exact ⟨rfl, HBY3.out⟩
end Go.Proofs.YtgimcnpkngpmiaaDoor.GiPostmarkText

/- loop.example/g01062/laws.FnExactPostmarkText as a plain function, and the contract of the program's: where the plain one has an answer, the program has it. Conditions: slices read as lists. -/
namespace Go.Proofs.YtgimcnpkngpmiaaDoor.GlFnExactPostmarkText
set_option linter.unusedVariables false
set_option linter.unusedSimpArgs false
open Go.RowKit
open Go.Proofs.YtgimcnpkngpmiaaDoor.Rowed Go.Proofs.YtgimcnpkngpmiaaDoor.Turn Go.Proofs.YtgimcnpkngpmiaaDoor.Aid Go.Proofs.YtgimcnpkngpmiaaDoor.GoP Go.Proofs.YtgimcnpkngpmiaaDoor.GoM Go.Proofs.YtgimcnpkngpmiaaDoor.Tab

def P (fuel : Nat) (aP : Go.Proofs.YtgimcnpkngpmiaaDoor.PPostmark.Postmark) : Option (Bool) :=
  unPostmark aP fun (aP_id : Int) (aP_town : ByteArray) (aP_kind_ : Int) (aP_first : Int) (aP_last : Int) (aP_lost : ByteArray) =>
  Option.bind (Go.Proofs.YtgimcnpkngpmiaaDoor.GlSzPostmark.P (Go.Proofs.YtgimcnpkngpmiaaDoor.PPostmark.Postmark.mk aP_id aP_town aP_kind_ aP_first aP_last aP_lost) 1048576) fun (t_5 : Int) =>
  letK (decide (t_5 < 0)) fun (t_8 : Bool) =>
  iteK t_8
  (some true)
  (Option.bind (Go.Proofs.YtgimcnpkngpmiaaDoor.GlToPostmark.P (Go.Proofs.YtgimcnpkngpmiaaDoor.PPostmark.Postmark.mk aP_id aP_town aP_kind_ aP_first aP_last aP_lost)) fun (t_11 : Go.Proofs.YtgimcnpkngpmiaaDoor.PPostmark.Postmark) =>
  unPostmark t_11 fun (t_11_id : Int) (t_11_town : ByteArray) (t_11_kind_ : Int) (t_11_first : Int) (t_11_last : Int) (t_11_lost : ByteArray) =>
  bind2 (Go.Proofs.YtgimcnpkngpmiaaDoor.GsPostmarkText.P fuel (Go.Proofs.YtgimcnpkngpmiaaDoor.PPostmark.Postmark.mk t_11_id t_11_town t_11_kind_ t_11_first t_11_last t_11_lost)) fun (t_12a : ByteArray) (t_12b : Bool) =>
  Option.bind (Go.Proofs.YtgimcnpkngpmiaaDoor.GlToPostmark.P (Go.Proofs.YtgimcnpkngpmiaaDoor.PPostmark.Postmark.mk aP_id aP_town aP_kind_ aP_first aP_last aP_lost)) fun (t_19 : Go.Proofs.YtgimcnpkngpmiaaDoor.PPostmark.Postmark) =>
  unPostmark t_19 fun (t_19_id : Int) (t_19_town : ByteArray) (t_19_kind_ : Int) (t_19_first : Int) (t_19_last : Int) (t_19_lost : ByteArray) =>
  bind2 (Go.Proofs.YtgimcnpkngpmiaaDoor.GiPostmarkText.P (Go.Proofs.YtgimcnpkngpmiaaDoor.PPostmark.Postmark.mk t_19_id t_19_town t_19_kind_ t_19_first t_19_last t_19_lost)) fun (t_20a : ByteArray) (t_20b : Bool) =>
  letK (!(t_20a.toList == t_12a.toList)) fun (t_28 : Bool) =>
  joinK (fun (t_33 : Bool) =>
  iteK t_33
  (some false)
  (some true)) fun jt_33 => iteK t_28 (appK jt_33 true) (letK (!(t_20b == t_12b)) fun (t_32 : Bool) =>
  appK jt_33 t_32))

set_option maxRecDepth 100000 in
set_option maxHeartbeats 2000000 in
theorem C (fuel : Nat) (aP : Go.Proofs.YtgimcnpkngpmiaaDoor.PPostmark.Postmark)   (w : World) (HT : Hid (Tab w))   {r : Bool} (H : Hid (P fuel aP = some r)) :
    Calls Tryd.prog 4 #[aP.val] w (Gives (.bool r) w) := by
  have HB := Lib.hid (Below.refl w.heap.size w)
  unfold P at H
  obtain ⟨aP_id, aP_town, aP_kind_, aP_first, aP_last, aP_lost⟩ := aP
  replace H := unPostmark_hid H
  unfold Go.Proofs.YtgimcnpkngpmiaaDoor.PPostmark.Postmark.val
  go_enter Tryd.func4, Tryd.ntmps4
  obtain ⟨w_aP_0, hw_aP_0⟩ : ∃ x, w.alloc (.cells #[.int .i64 aP_id, .string aP_town, .int .i64 aP_kind_, .int .i64 aP_first, .int .i64 aP_last, .string aP_lost] 35) = x := ⟨_, rfl⟩
  have bw_aP_0 : Below w.heap.size w w_aP_0 := by rw [← hw_aP_0]; exact (Below.refl _ _).alloc (Nat.le_refl _) _
  have HBw_aP_0 := Lib.hid (Below.step HB.out bw_aP_0)
  clear bw_aP_0
  have kaP_0_0 : w_aP_0.cell? ⟨w.heap.size, 0, none⟩ = some (.int .i64 aP_id) := by rw [← hw_aP_0]; exact box_new _ _ _ 0 _ rfl
  have kaP_0_1 : w_aP_0.cell? ⟨w.heap.size, 1, none⟩ = some (.string aP_town) := by rw [← hw_aP_0]; exact box_new _ _ _ 1 _ rfl
  have kaP_0_2 : w_aP_0.cell? ⟨w.heap.size, 2, none⟩ = some (.int .i64 aP_kind_) := by rw [← hw_aP_0]; exact box_new _ _ _ 2 _ rfl
  have kaP_0_3 : w_aP_0.cell? ⟨w.heap.size, 3, none⟩ = some (.int .i64 aP_first) := by rw [← hw_aP_0]; exact box_new _ _ _ 3 _ rfl
  have kaP_0_4 : w_aP_0.cell? ⟨w.heap.size, 4, none⟩ = some (.int .i64 aP_last) := by rw [← hw_aP_0]; exact box_new _ _ _ 4 _ rfl
  have kaP_0_5 : w_aP_0.cell? ⟨w.heap.size, 5, none⟩ = some (.string aP_lost) := by rw [← hw_aP_0]; exact box_new _ _ _ 5 _ rfl
  replace H := bind_hid H
  obtain ⟨t_5, qt_5, H⟩ := H
  go_wp2_with fail
  go_at_call 15
  refine (Go.Proofs.YtgimcnpkngpmiaaDoor.GlSzPostmark.C ((Go.Proofs.YtgimcnpkngpmiaaDoor.PPostmark.Postmark.mk aP_id aP_town aP_kind_ aP_first aP_last aP_lost)) (1048576)  _    qt_5).mono ?_
  rintro e_t_5 wt_5 ⟨rfl, bt_5⟩
  have HBwt_5 := Lib.hid (Below.step HBw_aP_0.out bt_5)
  replace kaP_0_0 := cell_below bt_5 kaP_0_0
  replace kaP_0_1 := cell_below bt_5 kaP_0_1
  replace kaP_0_2 := cell_below bt_5 kaP_0_2
  replace kaP_0_3 := cell_below bt_5 kaP_0_3
  replace kaP_0_4 := cell_below bt_5 kaP_0_4
  replace kaP_0_5 := cell_below bt_5 kaP_0_5
  clear bt_5
  replace H := let_hid H
  obtain ⟨t_8, ht_8, H⟩ := H
  cases t_8 with
  | false =>
    replace H := ite_f H
    replace H := bind_hid H
    obtain ⟨t_11, qt_11, H⟩ := H
    obtain ⟨t_11_id, t_11_town, t_11_kind_, t_11_first, t_11_last, t_11_lost⟩ := t_11
    replace H := unPostmark_hid H
    go_wp2_with fail
    go_at_call 17
    refine (Go.Proofs.YtgimcnpkngpmiaaDoor.GlToPostmark.C ((Go.Proofs.YtgimcnpkngpmiaaDoor.PPostmark.Postmark.mk aP_id aP_town aP_kind_ aP_first aP_last aP_lost))  _    qt_11).mono ?_
    rintro e_t_11 wt_11 ⟨rfl, bt_11⟩
    unfold Go.Proofs.YtgimcnpkngpmiaaDoor.PPostmark.Postmark.val
    have HBwt_11 := Lib.hid (Below.step HBwt_5.out bt_11)
    replace kaP_0_0 := cell_below bt_11 kaP_0_0
    replace kaP_0_1 := cell_below bt_11 kaP_0_1
    replace kaP_0_2 := cell_below bt_11 kaP_0_2
    replace kaP_0_3 := cell_below bt_11 kaP_0_3
    replace kaP_0_4 := cell_below bt_11 kaP_0_4
    replace kaP_0_5 := cell_below bt_11 kaP_0_5
    clear bt_11
    replace H := bind2_hid H
    obtain ⟨t_12a, t_12b, qt_12, H⟩ := H
    go_wp2_with fail
    go_at_call 16
    refine (Go.Proofs.YtgimcnpkngpmiaaDoor.GsPostmarkText.C fuel ((Go.Proofs.YtgimcnpkngpmiaaDoor.PPostmark.Postmark.mk t_11_id t_11_town t_11_kind_ t_11_first t_11_last t_11_lost))  _    qt_12).mono ?_
    rintro e_t_12 wt_12 ⟨rfl, bt_12⟩
    have HBwt_12 := Lib.hid (Below.step HBwt_11.out bt_12)
    replace kaP_0_0 := cell_below bt_12 kaP_0_0
    replace kaP_0_1 := cell_below bt_12 kaP_0_1
    replace kaP_0_2 := cell_below bt_12 kaP_0_2
    replace kaP_0_3 := cell_below bt_12 kaP_0_3
    replace kaP_0_4 := cell_below bt_12 kaP_0_4
    replace kaP_0_5 := cell_below bt_12 kaP_0_5
    clear bt_12
    replace H := bind_hid H
    obtain ⟨t_19, qt_19, H⟩ := H
    obtain ⟨t_19_id, t_19_town, t_19_kind_, t_19_first, t_19_last, t_19_lost⟩ := t_19
    replace H := unPostmark_hid H
    go_wp2_with fail
    go_at_call 17
    refine (Go.Proofs.YtgimcnpkngpmiaaDoor.GlToPostmark.C ((Go.Proofs.YtgimcnpkngpmiaaDoor.PPostmark.Postmark.mk aP_id aP_town aP_kind_ aP_first aP_last aP_lost))  _    qt_19).mono ?_
    rintro e_t_19 wt_19 ⟨rfl, bt_19⟩
    unfold Go.Proofs.YtgimcnpkngpmiaaDoor.PPostmark.Postmark.val
    have HBwt_19 := Lib.hid (Below.step HBwt_12.out bt_19)
    replace kaP_0_0 := cell_below bt_19 kaP_0_0
    replace kaP_0_1 := cell_below bt_19 kaP_0_1
    replace kaP_0_2 := cell_below bt_19 kaP_0_2
    replace kaP_0_3 := cell_below bt_19 kaP_0_3
    replace kaP_0_4 := cell_below bt_19 kaP_0_4
    replace kaP_0_5 := cell_below bt_19 kaP_0_5
    clear bt_19
    replace H := bind2_hid H
    obtain ⟨t_20a, t_20b, qt_20, H⟩ := H
    go_wp2_with fail
    go_at_call 18
    refine (Go.Proofs.YtgimcnpkngpmiaaDoor.GiPostmarkText.C ((Go.Proofs.YtgimcnpkngpmiaaDoor.PPostmark.Postmark.mk t_19_id t_19_town t_19_kind_ t_19_first t_19_last t_19_lost))  _ (tab_below HBwt_19.out HT)   qt_20).mono ?_
    rintro e_t_20 wt_20 ⟨rfl, bt_20⟩
    have HBwt_20 := Lib.hid (Below.step HBwt_19.out bt_20)
    replace kaP_0_0 := cell_below bt_20 kaP_0_0
    replace kaP_0_1 := cell_below bt_20 kaP_0_1
    replace kaP_0_2 := cell_below bt_20 kaP_0_2
    replace kaP_0_3 := cell_below bt_20 kaP_0_3
    replace kaP_0_4 := cell_below bt_20 kaP_0_4
    replace kaP_0_5 := cell_below bt_20 kaP_0_5
    clear bt_20
    replace H := let_hid H
    obtain ⟨t_28, ht_28, H⟩ := H
    replace H := join_hid H
    cases t_28 with
    | false =>
      replace H := ite_f H
      replace H := let_hid H
      obtain ⟨t_32, ht_32, H⟩ := H
      replace H := app_hid H
      cases t_32 with
      | false =>
        replace H := ite_f H
        obtain rfl := ret_hid H
        go_wp2_with fail
        go_ret
        exact ⟨rfl, HBwt_20.out⟩
      | true =>
        replace H := ite_t H
        obtain rfl := ret_hid H
        go_wp2_with fail
        go_ret
        exact ⟨rfl, HBwt_20.out⟩
    | true =>
      replace H := ite_t H
      replace H := app_hid H
      replace H := ite_t H
      obtain rfl := ret_hid H
      go_wp2_with fail
      go_ret
      exact ⟨rfl, HBwt_20.out⟩
  | true =>
    replace H := ite_t H
    obtain rfl := ret_hid H
    go_wp2_with fail
    go_ret
    exact ⟨rfl, HBwt_5.out⟩
end Go.Proofs.YtgimcnpkngpmiaaDoor.GlFnExactPostmarkText

/- What the rows' lists of the library's tables give: the table of powers of ten holds what Itoa reads. Condition: the row's list is met. -/
namespace Go.Proofs.YtgimcnpkngpmiaaDoor.DoorLaid

theorem gPow : Tryd.prog.globalNamed "internal/strconv.uint64pow10" = some 1 := by kernel_rfl
def keepPow (x : String × DataW Unit) : Bool := x.1 == "internal/strconv.uint64pow10"
theorem gPowType : (Tryd.prog.globals[1]?).map (·.type) = some 116 := by kernel_rfl
theorem cellsPow : Tryd.prog.cellsOf 116 = 20 := by kernel_rfl
theorem cellsU64 : Tryd.prog.cellsOf 70 = 1 := by kernel_rfl

/-- Of whatever list holds the table at its own datum: the table is there. -/
theorem pow10 {l : List (String × DataW Unit)} {W : World} (h : laidMetH Tryd.prog l W) (hl : l.filter keepPow = [("internal/strconv.uint64pow10", Lib.tabData .u64 Lib.pow10Tab)]) :
    Lib.TabIs Tryd.prog W "internal/strconv.uint64pow10" .u64 Lib.pow10Tab := by
  have h1 := laidMetH.filter keepPow h
  rw [hl] at h1
  exact Lib.tabIs_of_head (rest := []) gPow gPowType Tryd.underlying116 Tryd.underlying70 cellsU64 cellsPow h1
end Go.Proofs.YtgimcnpkngpmiaaDoor.DoorLaid

/- Plain facts on decimal numerals: what a row of digits is worth, and that a numeral read back is its number. No condition. -/
namespace Go.Proofs.YtgimcnpkngpmiaaDoor.PlainNum

def step (a : Nat) (c : UInt8) : Nat := 10 * a + (c.toNat - 48)
def dv (l : List UInt8) : Nat := l.foldl step 0
def Digs (l : List UInt8) : Prop := ∀ c ∈ l, 48 ≤ c.toNat ∧ c.toNat ≤ 57

theorem dv_snoc (l : List UInt8) (c : UInt8) : dv (l ++ [c]) = 10 * dv l + (c.toNat - 48) := by
  unfold dv; rw [List.foldl_append]; rfl

theorem digit_toNat (i : Nat) (h : i < 10) : (UInt8.ofNat (48 + i)).toNat = 48 + i := by
  rw [UInt8.toNat_ofNat']; omega

theorem digs_dec (u : Nat) : Digs (Lib.decDigits u) := by
  induction u using Nat.strongRecOn with
  | _ u ih =>
    rw [Lib.decDigits]
    by_cases h : u < 10
    · rw [dif_pos h]
      intro c hc
      obtain rfl : c = UInt8.ofNat (48 + u) := by simpa using hc
      rw [digit_toNat u h]; omega
    · rw [dif_neg h]
      intro c hc
      rcases List.mem_append.1 hc with h1 | h1
      · exact ih (u / 10) (by omega) c h1
      · obtain rfl : c = UInt8.ofNat (48 + u % 10) := by simpa using h1
        rw [digit_toNat _ (by omega)]; omega

theorem dv_dec (u : Nat) : dv (Lib.decDigits u) = u := by
  induction u using Nat.strongRecOn with
  | _ u ih =>
    rw [Lib.decDigits]
    by_cases h : u < 10
    · rw [dif_pos h]
      show step 0 (UInt8.ofNat (48 + u)) = u
      unfold step; rw [digit_toNat u h]; omega
    · rw [dif_neg h, dv_snoc, ih (u / 10) (by omega), digit_toNat _ (by omega)]; omega

theorem nd_le (k : Nat) : ∀ u, u < 10 ^ (k + 1) → Lib.nDigits u ≤ k + 1 := by
  induction k with
  | zero => intro u h; rw [Lib.nDigits_small (by omega)]; omega
  | succ k ih =>
    intro u h
    by_cases h10 : u < 10
    · rw [Lib.nDigits_small h10]; omega
    · rw [Lib.nDigits_big h10]
      have := ih (u / 10) (by rw [Nat.pow_succ] at h; omega)
      omega

theorem len_dec (u : Nat) (h : u ≤ 999999) : 1 ≤ (Lib.decDigits u).length ∧ (Lib.decDigits u).length ≤ 6 := by
  rw [Lib.decDigits_length]
  exact ⟨Lib.nDigits_pos u, nd_le 5 u (by omega)⟩

theorem decFrom_dv (l : List UInt8) : ∀ a, Digs l → Lib.decFrom a l = some (l.foldl step a) := by
  induction l with
  | nil => intro a _; rfl
  | cons c r ih =>
    intro a h
    have hc := h c (by simp)
    have e : Lib.digitVal c = some (c.toNat - 48) := by unfold Lib.digitVal; rw [if_pos hc]
    rw [Lib.decFrom, e]
    show Lib.decFrom (a * 10 + (c.toNat - 48)) r = _
    rw [ih _ (fun x hx => h x (by simp [hx])), Nat.mul_comm a 10]
    rfl

theorem decNat_dec (u : Nat) (h : u ≤ 999999) : Lib.decNat (Lib.decDigits u) = some u := by
  have hl := (len_dec u h).1
  unfold Lib.decNat
  rw [if_neg (by intro e; rw [List.isEmpty_iff] at e; rw [e] at hl; simp at hl), decFrom_dv _ 0 (digs_dec u)]
  exact congrArg some (dv_dec u)

/-- l is the numeral of n -/
def Inv (l : List UInt8) (n : Int) : Prop := -999999 ≤ n ∧ n ≤ 999999 ∧ Lib.itoa n = l

theorem itoa_cases (n : Int) : (n < 0 ∧ Lib.itoa n = 45 :: Lib.decDigits n.natAbs) ∨ (0 ≤ n ∧ Lib.itoa n = Lib.decDigits n.natAbs) := by
  by_cases h : n < 0
  · left; refine ⟨h, ?_⟩; unfold Lib.itoa; rw [if_pos h]
  · right; refine ⟨by omega, ?_⟩; unfold Lib.itoa; rw [if_neg h]; congr 1; omega

theorem itoa_len (n : Int) (h1 : -999999 ≤ n) (h2 : n ≤ 999999) : 1 ≤ (Lib.itoa n).length ∧ (Lib.itoa n).length ≤ 7 := by
  have := len_dec n.natAbs (by omega)
  rcases itoa_cases n with ⟨_, e⟩ | ⟨_, e⟩
  · rw [e, List.length_cons]; omega
  · rw [e]; omega

theorem atoi_itoa (n : Int) (h1 : -999999 ≤ n) (h2 : n ≤ 999999) : Lib.atoiAll (Lib.itoa n) = .ok n := by
  rw [Lib.atoiAll_short _ (by have := itoa_len n h1 h2; omega)]
  have hd := decNat_dec n.natAbs (by omega)
  rcases itoa_cases n with ⟨hn, e⟩ | ⟨hn, e⟩
  · rw [e]
    show Lib.NumEnd.ofOption ((Lib.decNat (Lib.decDigits n.natAbs)).map fun (m : Nat) => -(m : Int)) = _
    rw [hd]
    show Lib.NumEnd.ok (-((n.natAbs : Nat) : Int)) = _
    congr 1; omega
  · rw [e]
    have hl := len_dec n.natAbs (by omega)
    have hg := digs_dec n.natAbs
    cases hx : Lib.decDigits n.natAbs with
    | nil => rw [hx] at hl; simp at hl
    | cons b r =>
      rw [hx] at hg hd
      have hb := hg b (by simp)
      have e1 : (b == 45) = false := by
        rw [beq_eq_false_iff_ne]; rintro rfl; have : (45 : UInt8).toNat = 45 := rfl; omega
      have e2 : (b == 43) = false := by
        rw [beq_eq_false_iff_ne]; rintro rfl; have : (43 : UInt8).toNat = 43 := rfl; omega
      unfold Lib.atoi
      simp only [e1, e2, Bool.false_eq_true, if_false, hd]
      show Lib.NumEnd.ok ((n.natAbs : Nat) : Int) = _
      congr 1; omega

theorem Inv.uniq {l : List UInt8} {n m : Int} (h : Inv l n) (k : Inv l m) : n = m := by
  have e1 := atoi_itoa n h.1 h.2.1
  have e2 := atoi_itoa m k.1 k.2.1
  rw [h.2.2] at e1
  rw [k.2.2] at e2
  rw [e1] at e2
  injection e2

/-- how a numeral's reading ends: the number and true; else 0 and false -/
def Rd (l : List UInt8) (v : Int) (b : Bool) : Prop := (b = true ∧ Inv l v) ∨ (b = false ∧ v = 0 ∧ ∀ n, ¬ Inv l n)

theorem Rd.uniq {l : List UInt8} {v v' : Int} {b b' : Bool} (h : Rd l v b) (k : Rd l v' b') : v = v' ∧ b = b' := by
  rcases h with ⟨rfl, h⟩ | ⟨rfl, rfl, h⟩ <;> rcases k with ⟨rfl, k⟩ | ⟨rfl, rfl, k⟩
  · exact ⟨h.uniq k, rfl⟩
  · exact absurd h (k _)
  · exact absurd k (h _)
  · exact ⟨rfl, rfl⟩

theorem Rd.no {l : List UInt8} (h : ∀ n, ¬ Inv l n) : Rd l 0 false := .inr ⟨rfl, rfl, h⟩
end Go.Proofs.YtgimcnpkngpmiaaDoor.PlainNum

/- Plain words on the text of a face, and on short decimal texts. No condition. -/
namespace Go.Proofs.YtgimcnpkngpmiaaDoor.PlainFace
set_option linter.unusedVariables false
open Go.Proofs.YtgimcnpkngpmiaaDoor.PlainNum

def dig (d : Int) : UInt8 := UInt8.ofNat (48 + d.toNat)
theorem dec_step (n : Nat) (h : 10 ≤ n) : Lib.decDigits n = Lib.decDigits (n / 10) ++ [UInt8.ofNat (48 + n % 10)] := by
  rw [Lib.decDigits, dif_neg (by omega)]
/-- the text of a face -/
def faceL (n : Int) : List UInt8 := Lib.itoa (n / 100) ++ [46] ++ Lib.itoa (n / 10 % 10) ++ Lib.itoa (n % 10)
def str (l : List UInt8) : ByteArray := ⟨l.toArray⟩
def faceRes (n : Int) : ByteArray × Bool := if 0 ≤ n ∧ n ≤ 9999 then (str (faceL n), true) else (⟨#[]⟩, false)
end Go.Proofs.YtgimcnpkngpmiaaDoor.PlainFace

/- Decimal texts as plain functions: Itoa and l1Num, for short numbers. No condition. -/
namespace Go.Proofs.YtgimcnpkngpmiaaDoor.QNum
set_option linter.unusedVariables false
set_option linter.unusedSimpArgs false
open Go.RowKit
open Go.Proofs.YtgimcnpkngpmiaaDoor.GoP Go.Proofs.YtgimcnpkngpmiaaDoor.QBase

def itoaB (n : Int) : ByteArray := ⟨(Lib.itoa n).toArray⟩
theorem itoa_eq {n : Int} (h1 : -999999 ≤ n) (h2 : n ≤ 999999) : GxStrconvItoa.P n = some (itoaB n) := by unfold GxStrconvItoa.P; rw [if_pos (by omega)]; rfl
theorem num_eq {n : Int} (h1 : -999999 ≤ n) (h2 : n ≤ 999999) : GsL1Num.P n = some (itoaB n) := by unfold GsL1Num.P; rw [if_pos (by omega)]; rfl
theorem itoaB_size {n : Int} (h1 : -999999 ≤ n) (h2 : n ≤ 999999) : (itoaB n).size ≤ 7 := by
  show (Lib.itoa n).toArray.size ≤ 7
  rw [List.size_toArray]; exact (PlainNum.itoa_len n h1 h2).2
end Go.Proofs.YtgimcnpkngpmiaaDoor.QNum

/- Chapter 11: postmarks: the plain functions of the program and of the reference agree, and the laws answer true. (Q11Text) No condition but those of each theorem. -/
namespace Go.Proofs.YtgimcnpkngpmiaaDoor.Q11Text
set_option linter.unusedVariables false
set_option linter.unusedSimpArgs false
open Go.RowKit
open Go.Proofs.YtgimcnpkngpmiaaDoor.GoP Go.Proofs.YtgimcnpkngpmiaaDoor.PlainStamp Go.Proofs.YtgimcnpkngpmiaaDoor.QBase Go.Proofs.YtgimcnpkngpmiaaDoor.QWord Go.Proofs.YtgimcnpkngpmiaaDoor.Q11Show Go.Proofs.YtgimcnpkngpmiaaDoor.Q11Mark Go.Proofs.YtgimcnpkngpmiaaDoor.QNum Go.Proofs.YtgimcnpkngpmiaaDoor.QLoop Go.Proofs.YtgimcnpkngpmiaaDoor.PPostmark

theorem text_same (x : Postmark) (h : x.fits) (fuel : Nat) (hfu : 100 ≤ fuel) : GiPostmarkText.P x = GsPostmarkText.P fuel x ∧ ∃ a b, GsPostmarkText.P fuel x = some (a, b) := by
  have h3 := l11One_eq x h fuel hfu
  have h4 := isPostmark_eq x (fits_sz h).2
  have hof := fun hc => okPm_of (p := x) hc
  have hsz := fun hc => okPm_size (p := x) hc
  have s5 := fun hc : okPm x = true => shown_impl (hsz hc).1 (by have := hsz hc; omega)
  have s6 := fun hc : okPm x = true => shown_spec (hsz hc).1 (by have := hsz hc; omega) fuel hfu
  have s7 := fun hc : okPm x = true => shown_size (hsz hc).1
  generalize hsh : shown x = t at s5 s6 s7
  obtain ⟨a, b, c, d, e, g⟩ := x
  simp only [GiPostmarkText.P, GsPostmarkText.P, unPostmark, h3, h4, Option.bind_some, letK, iteK_if]
  cases hc : okPm ⟨a, b, c, d, e, g⟩ with
  | false => exact ⟨by simp, _, _, by simp; exact ⟨rfl, rfl⟩⟩
  | true =>
    obtain ⟨ha, hb, hcw, hd, he, hde, hw⟩ := hof hc
    have hsz2 := hsz hc
    have s5 := s5 hc
    have s6 := s6 hc
    have s7 := s7 hc
    dsimp only at ha hb hcw hd he hde hsz2 s7
    have s1 := itoaB_size (n := a) (by omega) (by omega)
    have s2 := itoaB_size (n := c) (by omega) (by omega)
    have s3 := itoaB_size (n := d) (by omega) (by omega)
    have s4 := itoaB_size (n := e) (by omega) (by omega)
    simp only [s5, s6, itoa_eq (n := a) (by omega) (by omega), itoa_eq (n := c) (by omega) (by omega), itoa_eq (n := d) (by omega) (by omega), itoa_eq (n := e) (by omega) (by omega), num_eq (n := a) (by omega) (by omega), num_eq (n := c) (by omega) (by omega), num_eq (n := d) (by omega) (by omega), num_eq (n := e) (by omega) (by omega), Option.bind_some]
    refine ⟨by first | rfl | trivial, ?_⟩
    have e1 : (⟨#[32]⟩ : ByteArray).size = 1 := rfl
    have e2 : (⟨#[32, 107]⟩ : ByteArray).size = 2 := rfl
    have e3 : (⟨#[112]⟩ : ByteArray).size = 1 := rfl
    have e4 : (⟨#[45]⟩ : ByteArray).size = 1 := rfl
    simp only [Bool.not_true, Bool.false_eq_true, if_false]
    rw [guardK_pos (by unfold maxLen; omega), guardK_pos (by simp only [ByteArray.size_append]; unfold maxLen; omega), guardK_pos (by simp only [ByteArray.size_append]; unfold maxLen; omega), guardK_pos (by simp only [ByteArray.size_append]; unfold maxLen; omega), guardK_pos (by simp only [ByteArray.size_append]; unfold maxLen; omega), guardK_pos (by simp only [ByteArray.size_append]; unfold maxLen; omega), guardK_pos (by simp only [ByteArray.size_append]; unfold maxLen; omega), guardK_pos (by simp only [ByteArray.size_append]; unfold maxLen; omega), guardK_pos (by simp only [ByteArray.size_append]; unfold maxLen; omega)]
    exact ⟨_, _, rfl⟩
end Go.Proofs.YtgimcnpkngpmiaaDoor.Q11Text

/- Chapter 11: postmarks: the plain functions of the program and of the reference agree, and the laws answer true. (QL11Text) No condition but those of each theorem. -/
namespace Go.Proofs.YtgimcnpkngpmiaaDoor.QL11Text
set_option linter.unusedVariables false
set_option linter.unusedSimpArgs false
open Go.RowKit
open Go.Proofs.YtgimcnpkngpmiaaDoor.GoP Go.Proofs.YtgimcnpkngpmiaaDoor.PlainStamp Go.Proofs.YtgimcnpkngpmiaaDoor.QBase Go.Proofs.YtgimcnpkngpmiaaDoor.Q11Text Go.Proofs.YtgimcnpkngpmiaaDoor.Q11Mark Go.Proofs.YtgimcnpkngpmiaaDoor.QLoop Go.Proofs.YtgimcnpkngpmiaaDoor.PPostmark Go.Proofs.YtgimcnpkngpmiaaDoor.QHPostmarkE

theorem law_text (fuel : Nat) (hfu : 100 ≤ fuel) (x : Postmark) (h : x.fits) : GlFnExactPostmarkText.P fuel x = some true := by
  obtain ⟨v, hv, _⟩ := szOne x 1048576 h (by omega) (by omega)
  obtain ⟨hi, p, q, hs⟩ := text_same x h fuel hfu
  rw [hs] at hi
  obtain ⟨a, b, c, d, e, g⟩ := x
  simp only [GlFnExactPostmarkText.P, unPostmark, hv, Option.bind_some, letK, iteK_if]
  by_cases hb : v < 0
  · rw [if_pos (by simpa using hb)]
  · rw [if_neg (by simpa using hb)]
    simp [toOne, unPostmark, hs, hi, bind2, joinK, appK, iteK_if]
end Go.Proofs.YtgimcnpkngpmiaaDoor.QL11Text

