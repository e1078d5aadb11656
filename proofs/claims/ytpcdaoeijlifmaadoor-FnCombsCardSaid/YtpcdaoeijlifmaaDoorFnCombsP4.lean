/- The texts on which the proof of FnCombs stands, one behind the other (4 of 5). No condition of their own. -/
import Derived.Test.YtpcdaoeijlifmaaDoorChecked
import Derived.WalkKit
import Derived.Lib.ItoaMem
import Derived.Lib.Hide
import Derived.Lib.ItoaLen
import Derived.IntWalk
import Derived.Outline
import Derived.WalkSpells
import Derived.BigQuiet
import Derived.Deep.QuietTactic
import Derived.Test.YtpcdaoeijlifmaaDoorFnCombsP1
import Derived.WalkSmall
import Derived.WalkLawsBesides
import Derived.OwnWalk
import Derived.Deep.LoopGhost
import Derived.Lib.QuietBelow
import Derived.Test.YtpcdaoeijlifmaaDoorFnCombsP3
import Derived.Test.YtpcdaoeijlifmaaDoorFnCombsP2
import Derived.Test.YtpcdaoeijlifmaaDoorRows
import Derived.LaidSub
import Derived.Lib.LaidTab
import Derived.Lib.ItoaNum
import Derived.KernelRfl
import Derived.Lib.AtoiTie
/- The contracts of spec.l1In and spec.l1Num: whether a number lies within bounds, and its decimal numeral. Condition: the number is an int, from -2^62 on for l1Num. -/
namespace Go.Proofs.YtpcdaoeijlifmaaDoor.Num
open Go.RowKit

theorem l1In_yes (x a b : Int) (w : World) (h1 : a ≤ x) (h2 : x ≤ b) :
    Calls Tryd.prog 39 #[.int .i64 x, .int .i64 a, .int .i64 b] w fun e w' => e = .returned (.bool true) ∧ w = w' := by
  go_enter Tryd.func39, Tryd.ntmps39
  go_wp2
  go_ret
  exact ⟨rfl, rfl⟩

theorem l1In_no (x a b : Int) (w : World) (h : x < a ∨ b < x) :
    Calls Tryd.prog 39 #[.int .i64 x, .int .i64 a, .int .i64 b] w fun e w' => e = .returned (.bool false) ∧ w = w' := by
  by_cases h1 : a ≤ x
  · have h2 : b < x := by omega
    clear h
    go_enter Tryd.func39, Tryd.ntmps39
    go_wp2
    go_ret
    exact ⟨by simp; omega, rfl⟩
  · clear h
    go_enter Tryd.func39, Tryd.ntmps39
    go_wp2
    go_ret
    exact ⟨rfl, rfl⟩

theorem digits10 (n : Int) (_h0 : 0 ≤ n) (h : n < 10) : (ByteArray.mk #[48, 49, 50, 51, 52, 53, 54, 55, 56, 57]).extract n.toNat (n + 1).toNat = ByteArray.mk #[UInt8.ofNat (48 + n.toNat)] := by
  obtain rfl | rfl | rfl | rfl | rfl | rfl | rfl | rfl | rfl | rfl : n = 0 ∨ n = 1 ∨ n = 2 ∨ n = 3 ∨ n = 4 ∨ n = 5 ∨ n = 6 ∨ n = 7 ∨ n = 8 ∨ n = 9 := by omega
  all_goals rfl

theorem decDigits_step (n : Int) (_h0 : 0 ≤ n) (h : ¬ n < 10) : Lib.decDigits n.toNat = Lib.decDigits (n / 10).toNat ++ [UInt8.ofNat (48 + (n % 10).toNat)] := by
  rw [Lib.decDigits, dif_neg (by omega)]
  have e1 : n.toNat / 10 = (n / 10).toNat := by omega
  have e2 : n.toNat % 10 = (n % 10).toNat := by omega
  rw [e1, e2]

theorem add_digit (n : Int) (h0 : 0 ≤ n) (h : ¬ n < 10) (hb : n ≤ 4611686018427387904) (W : World) :
    (Op.stringOp .add ⟨(Lib.decDigits (n / 10).toNat).toArray⟩ ((ByteArray.mk #[48, 49, 50, 51, 52, 53, 54, 55, 56, 57]).extract (n % 10).toNat (n % 10 + 1).toNat)).run Tryd.prog W
      = .ok (.string ⟨(Lib.decDigits n.toNat).toArray⟩) W := by
  have hl : Lib.nDigits (n / 10).toNat ≤ 20 := Lib.nDigits_le20 _ (by omega)
  rw [digits10 (n % 10) (by omega) (by omega)]
  rw [run_string_add_sum]
  · rw [decDigits_step n h0 h]
    congr 2
  · have e1 : (ByteArray.mk (Lib.decDigits (n / 10).toNat).toArray).size = Lib.nDigits (n / 10).toNat := by
      rw [← Lib.decDigits_length]; rfl
    rw [e1]
    show Lib.nDigits (n / 10).toNat + 1 ≤ _
    omega

set_option maxHeartbeats 800000 in
theorem l1Num_pos (k : Nat) : ∀ (n : Int) (w : World), n < k → 0 ≤ n → n ≤ 4611686018427387904 →
    Calls Tryd.prog 71 #[.int .i64 n] w fun e w' => e = .returned (.string ⟨(Lib.decDigits n.toNat).toArray⟩) ∧ ∃ m, w' = w.drewN m := by
  induction k with
  | zero => intro n w hk h0 _; omega
  | succ k ih =>
    intro n w hk h0 hb
    by_cases h10 : n < 10
    · have HD := Lib.hid (digits10 n h0 h10)
      go_enter Tryd.func71, Tryd.ntmps71
      go_wp2_with fail
      go_ret
      refine ⟨?_, 0, rfl⟩
      rw [Lib.decDigits_one (by omega)]
      simp only [HD.out]
      rfl
    · have hadd := add_digit n h0 h10 hb
      go_enter Tryd.func71, Tryd.ntmps71
      go_wp2_with fail
      have q1 : IntKind.i64.wrap (n.tdiv 10) = n / 10 := by rw [Int.tdiv_eq_ediv_of_nonneg h0]; exact IntWalk.i64_in _ (by omega)
      have q2 : n.tmod 10 = n % 10 := Int.tmod_eq_emod_of_nonneg h0
      have q3 : IntKind.i64.wrap (n % 10) = n % 10 := IntWalk.i64_in _ (by omega)
      have q4 : IntKind.i64.wrap (n % 10 + 1) = n % 10 + 1 := IntWalk.i64_in _ (by omega)
      have b1 : 0 ≤ n % 10 := by omega
      have b2 : n % 10 ≤ n % 10 + 1 := by omega
      have b3 : n % 10 + 1 ≤ 10 := by omega
      have b4 : 0 ≤ n % 10 + 1 := by omega
      have L1 : n / 10 < (k : Int) := by omega
      have L2 : 0 ≤ n / 10 := by omega
      have L3 : n / 10 ≤ 4611686018427387904 := by omega
      go_quiet ((go_at_call 71; exact Calls.quiet_of (ih (n / 10) _ L1 L2 L3)))
      go_wp2_with fail
      go_ret
      exact ⟨rfl, _, rfl⟩

theorem add_minus (n : Int) (h : n < 0) (hb : -4611686018427387904 ≤ n) (W : World) :
    (Op.stringOp .add ⟨#[45]⟩ ⟨(Lib.decDigits (-n).toNat).toArray⟩).run Tryd.prog W = .ok (.string ⟨(Lib.itoa n).toArray⟩) W := by
  have hl : Lib.nDigits (-n).toNat ≤ 20 := Lib.nDigits_le20 _ (by omega)
  have e1 : (ByteArray.mk (Lib.decDigits (-n).toNat).toArray).size = Lib.nDigits (-n).toNat := by
    rw [← Lib.decDigits_length]; rfl
  have e2 : (-n).toNat = n.natAbs := by omega
  rw [run_string_add_sum]
  · unfold Lib.itoa
    rw [if_pos h, e2]
    congr 2
  · rw [e1]
    show 1 + _ ≤ _
    omega

/-- spec.l1Num, for every number that is not too far out -/
theorem l1Num_any (n : Int) (w : World) (h1 : -4611686018427387904 ≤ n) (h2 : n ≤ 4611686018427387904) :
    Calls Tryd.prog 71 #[.int .i64 n] w fun e w' => e = .returned (.string ⟨(Lib.itoa n).toArray⟩) ∧ ∃ m, w' = w.drewN m := by
  by_cases h : n < 0
  · have hadd := add_minus n h h1
    have L1 : -n < ((-n).toNat + 1 : Nat) := by omega
    go_enter Tryd.func71, Tryd.ntmps71
    go_wp2_with (go_at_call 71; refine (l1Num_pos ((-n).toNat + 1) (-n) _ L1 (by omega) (by omega)).mono ?_; rintro e w' ⟨rfl, m, rfl⟩)
    go_ret
    exact ⟨rfl, _, rfl⟩
  · refine (l1Num_pos (n.toNat + 1) n w (by omega) (by omega) h2).mono ?_
    rintro e w' ⟨rfl, m, rfl⟩
    refine ⟨?_, m, rfl⟩
    unfold Lib.itoa
    rw [if_neg h]

end Go.Proofs.YtpcdaoeijlifmaaDoor.Num

/- spec.l1Num as a plain function, for numbers that are not too far out; the contract of the program's. No condition. -/
namespace Go.Proofs.YtpcdaoeijlifmaaDoor.GsL1Num
set_option linter.unusedVariables false
open Go.RowKit
open Go.Proofs.YtpcdaoeijlifmaaDoor.Turn
def P (n : Int) : Option ByteArray := if -4611686018427387904 ≤ n ∧ n ≤ 4611686018427387904 then some ⟨(Lib.itoa n).toArray⟩ else none
theorem C (n : Int) (w : World) {r : ByteArray} (H : Hid (P n = some r)) : Calls Tryd.prog 71 #[.int .i64 n] w (Gives (.string r) w) := by
  have h : P n = some r := H
  unfold P at h
  by_cases hk : -4611686018427387904 ≤ n ∧ n ≤ 4611686018427387904
  · rw [if_pos hk] at h
    obtain rfl := Option.some.inj h
    refine (Go.Proofs.YtpcdaoeijlifmaaDoor.Num.l1Num_any n w hk.1 hk.2).mono ?_
    rintro e w' ⟨rfl, m, rfl⟩
    exact ⟨rfl, Go.below_drewN (Below.refl _ _) m⟩
  · rw [if_neg hk] at h; simp at h
end Go.Proofs.YtpcdaoeijlifmaaDoor.GsL1Num

/- loop.example/g01062/spec.l5Text as a plain function, and the contract of the program's: where the plain one has an answer, the program has it. Conditions: slices read as lists. -/
namespace Go.Proofs.YtpcdaoeijlifmaaDoor.GsL5Text
set_option linter.unusedVariables false
set_option linter.unusedSimpArgs false
open Go.RowKit
open Go.Proofs.YtpcdaoeijlifmaaDoor.Rowed Go.Proofs.YtpcdaoeijlifmaaDoor.Turn Go.Proofs.YtpcdaoeijlifmaaDoor.Aid Go.Proofs.YtpcdaoeijlifmaaDoor.GoP Go.Proofs.YtpcdaoeijlifmaaDoor.GoM

def j1  (s : ByteArray) : Option (ByteArray) :=
  some s

def j0 (gauge : Int) (s : ByteArray) : Option (ByteArray) :=
  letK (Int.tmod gauge 10) fun (t_17 : Int) =>
  letK (decide (0 < t_17)) fun (t_18 : Bool) =>
  iteK t_18
  (letK (Int.tmod gauge 10) fun (t_21 : Int) =>
  Option.bind (Go.Proofs.YtpcdaoeijlifmaaDoor.GsL1Num.P t_21) fun (t_22 : ByteArray) =>
  guardK (s.size + t_22.size ≤ maxLen) <|
  letK (s ++ t_22) fun (t_23 : ByteArray) =>
  j1  (t_23))
  (j1  (s))

def P (gauge : Int) : Option (ByteArray) :=
  letK (IntKind.i64.wrap (Int.tdiv gauge 100)) fun (t_2 : Int) =>
  Option.bind (Go.Proofs.YtpcdaoeijlifmaaDoor.GsL1Num.P t_2) fun (t_3 : ByteArray) =>
  letK (Int.tmod gauge 100) fun (t_6 : Int) =>
  letK (decide (0 < t_6)) fun (t_7 : Bool) =>
  iteK t_7
  (guardK (t_3.size + (⟨#[46]⟩ : ByteArray).size ≤ maxLen) <|
  letK (t_3 ++ (⟨#[46]⟩ : ByteArray)) fun (t_9 : ByteArray) =>
  letK (IntKind.i64.wrap (Int.tdiv gauge 10)) fun (t_11 : Int) =>
  letK (Int.tmod t_11 10) fun (t_12 : Int) =>
  Option.bind (Go.Proofs.YtpcdaoeijlifmaaDoor.GsL1Num.P t_12) fun (t_13 : ByteArray) =>
  guardK (t_9.size + t_13.size ≤ maxLen) <|
  letK (t_9 ++ t_13) fun (t_14 : ByteArray) =>
  j0 gauge (t_14))
  (j0 gauge (t_3))

set_option maxRecDepth 100000 in
set_option maxHeartbeats 2000000 in
theorem C (gauge : Int)   (w : World)   {r : ByteArray} (H : Hid (P gauge = some r)) :
    Calls Tryd.prog 66 #[.int .i64 gauge] w (Gives (.string r) w) := by
  have HB := Lib.hid (Below.refl w.heap.size w)
  unfold P at H
  go_enter Tryd.func66, Tryd.ntmps66
  replace H := let_hid H
  obtain ⟨t_2, ht_2, H⟩ := H
  replace H := bind_hid H
  obtain ⟨t_3, qt_3, H⟩ := H
  go_wp2_with fail
  go_at_call 71
  refine (Go.Proofs.YtpcdaoeijlifmaaDoor.GsL1Num.C (t_2)  _    qt_3).mono ?_
  rintro e_t_3 wt_3 ⟨rfl, bt_3⟩
  have HBwt_3 := Lib.hid (Below.step HB.out bt_3)
  clear bt_3
  replace H := let_hid H
  obtain ⟨t_6, ht_6, H⟩ := H
  replace H := let_hid H
  obtain ⟨t_7, ht_7, H⟩ := H
  cases t_7 with
  | false =>
    replace H := ite_f H
    unfold j0 at H
    replace H := let_hid H
    obtain ⟨t_17, ht_17, H⟩ := H
    replace H := let_hid H
    obtain ⟨t_18, ht_18, H⟩ := H
    cases t_18 with
    | false =>
      replace H := ite_f H
      unfold j1 at H
      obtain rfl := ret_hid H
      go_wp2_with fail
      go_ret
      exact ⟨rfl, HBwt_3.out⟩
    | true =>
      replace H := ite_t H
      replace H := let_hid H
      obtain ⟨t_21, ht_21, H⟩ := H
      obtain rfl := ht_17.symm.trans ht_21
      replace H := bind_hid H
      obtain ⟨t_22, qt_22, H⟩ := H
      go_wp2_with fail
      go_at_call 71
      refine (Go.Proofs.YtpcdaoeijlifmaaDoor.GsL1Num.C (t_17)  _    qt_22).mono ?_
      rintro e_t_22 wt_22 ⟨rfl, bt_22⟩
      have HBwt_22 := Lib.hid (Below.step HBwt_3.out bt_22)
      clear bt_22
      replace H := guard_hid H
      obtain ⟨hl_t_23, H⟩ := H
      replace H := let_hid H
      obtain ⟨t_23, ht_23, H⟩ := H
      have ct_23 := cat_rule (P := Tryd.prog) ht_23 hl_t_23
      clear hl_t_23
      have hht_23 := Lib.hid ht_23
      clear ht_23
      unfold j1 at H
      obtain rfl := ret_hid H
      go_wp2_with fail
      go_ret
      exact ⟨rfl, HBwt_22.out⟩
  | true =>
    replace H := ite_t H
    replace H := guard_hid H
    obtain ⟨hl_t_9, H⟩ := H
    replace H := let_hid H
    obtain ⟨t_9, ht_9, H⟩ := H
    have ct_9 := cat_rule (P := Tryd.prog) ht_9 hl_t_9
    clear hl_t_9
    have hht_9 := Lib.hid ht_9
    clear ht_9
    replace H := let_hid H
    obtain ⟨t_11, ht_11, H⟩ := H
    replace H := let_hid H
    obtain ⟨t_12, ht_12, H⟩ := H
    replace H := bind_hid H
    obtain ⟨t_13, qt_13, H⟩ := H
    go_wp2_with fail
    go_at_call 71
    refine (Go.Proofs.YtpcdaoeijlifmaaDoor.GsL1Num.C (t_12)  _    qt_13).mono ?_
    rintro e_t_13 wt_13 ⟨rfl, bt_13⟩
    have HBwt_13 := Lib.hid (Below.step HBwt_3.out bt_13)
    clear bt_13
    replace H := guard_hid H
    obtain ⟨hl_t_14, H⟩ := H
    replace H := let_hid H
    obtain ⟨t_14, ht_14, H⟩ := H
    have ct_14 := cat_rule (P := Tryd.prog) ht_14 hl_t_14
    clear hl_t_14
    have hht_14 := Lib.hid ht_14
    clear ht_14
    unfold j0 at H
    replace H := let_hid H
    obtain ⟨t_17, ht_17, H⟩ := H
    replace H := let_hid H
    obtain ⟨t_18, ht_18, H⟩ := H
    cases t_18 with
    | false =>
      replace H := ite_f H
      unfold j1 at H
      obtain rfl := ret_hid H
      go_wp2_with fail
      go_ret
      exact ⟨rfl, HBwt_13.out⟩
    | true =>
      replace H := ite_t H
      replace H := let_hid H
      obtain ⟨t_21, ht_21, H⟩ := H
      obtain rfl := ht_17.symm.trans ht_21
      replace H := bind_hid H
      obtain ⟨t_22, qt_22, H⟩ := H
      go_wp2_with fail
      go_at_call 71
      refine (Go.Proofs.YtpcdaoeijlifmaaDoor.GsL1Num.C (t_17)  _    qt_22).mono ?_
      rintro e_t_22 wt_22 ⟨rfl, bt_22⟩
      have HBwt_22 := Lib.hid (Below.step HBwt_13.out bt_22)
      clear bt_22
      replace H := guard_hid H
      obtain ⟨hl_t_23, H⟩ := H
      replace H := let_hid H
      obtain ⟨t_23, ht_23, H⟩ := H
      have ct_23 := cat_rule (P := Tryd.prog) ht_23 hl_t_23
      clear hl_t_23
      have hht_23 := Lib.hid ht_23
      clear ht_23
      unfold j1 at H
      obtain rfl := ret_hid H
      go_wp2_with fail
      go_ret
      exact ⟨rfl, HBwt_22.out⟩
end Go.Proofs.YtpcdaoeijlifmaaDoor.GsL5Text

/- loop.example/g01062/spec.GaugeText as a plain function, and the contract of the program's: where the plain one has an answer, the program has it. Conditions: slices read as lists. -/
namespace Go.Proofs.YtpcdaoeijlifmaaDoor.GsGaugeText
set_option linter.unusedVariables false
set_option linter.unusedSimpArgs false
open Go.RowKit
open Go.Proofs.YtpcdaoeijlifmaaDoor.Rowed Go.Proofs.YtpcdaoeijlifmaaDoor.Turn Go.Proofs.YtpcdaoeijlifmaaDoor.Aid Go.Proofs.YtpcdaoeijlifmaaDoor.GoP Go.Proofs.YtpcdaoeijlifmaaDoor.GoM

def P (gauge : Int) : Option (ByteArray × Bool) :=
  Option.bind (Go.Proofs.YtpcdaoeijlifmaaDoor.GsL5Gauge.P gauge) fun (t_3 : Bool) =>
  letK (!t_3) fun (t_4 : Bool) =>
  iteK t_4
  (some ((⟨#[]⟩ : ByteArray), false))
  (Option.bind (Go.Proofs.YtpcdaoeijlifmaaDoor.GsL5Text.P gauge) fun (t_8 : ByteArray) =>
  some (t_8, true))

set_option maxRecDepth 100000 in
set_option maxHeartbeats 2000000 in
theorem C (gauge : Int)   (w : World)   {r0 : ByteArray} {r1 : Bool} (H : Hid (P gauge = some (r0, r1))) :
    Calls Tryd.prog 25 #[.int .i64 gauge] w (Gives (.tuple #[.string r0, .bool r1]) w) := by
  have HB := Lib.hid (Below.refl w.heap.size w)
  unfold P at H
  go_enter Tryd.func25, Tryd.ntmps25
  replace H := bind_hid H
  obtain ⟨t_3, qt_3, H⟩ := H
  go_wp2_with fail
  go_at_call 65
  refine (Go.Proofs.YtpcdaoeijlifmaaDoor.GsL5Gauge.C (gauge)  _    qt_3).mono ?_
  rintro e_t_3 wt_3 ⟨rfl, bt_3⟩
  have HBwt_3 := Lib.hid (Below.step HB.out bt_3)
  clear bt_3
  cases t_3 with
  | false =>
    replace H := let_hid H
    obtain ⟨t_4, ht_4, H⟩ := H
    obtain rfl : t_4 = true := ht_4.symm
    replace H := ite_t H
    cases ret_hid H
    go_wp2_with fail
    go_ret2
    exact ⟨rfl, HBwt_3.out⟩
  | true =>
    replace H := let_hid H
    obtain ⟨t_4, ht_4, H⟩ := H
    obtain rfl : t_4 = false := ht_4.symm
    replace H := ite_f H
    replace H := bind_hid H
    obtain ⟨t_8, qt_8, H⟩ := H
    go_wp2_with fail
    go_at_call 66
    refine (Go.Proofs.YtpcdaoeijlifmaaDoor.GsL5Text.C (gauge)  _    qt_8).mono ?_
    rintro e_t_8 wt_8 ⟨rfl, bt_8⟩
    have HBwt_8 := Lib.hid (Below.step HBwt_3.out bt_8)
    clear bt_8
    cases ret_hid H
    go_wp2_with fail
    go_ret2
    exact ⟨rfl, HBwt_8.out⟩
end Go.Proofs.YtpcdaoeijlifmaaDoor.GsGaugeText

/- loop.example/g01062/spec.DrawCombText as a plain function, and the contract of the program's: where the plain one has an answer, the program has it. Conditions: slices read as lists. -/
namespace Go.Proofs.YtpcdaoeijlifmaaDoor.GsDrawCombText
set_option linter.unusedVariables false
set_option linter.unusedSimpArgs false
open Go.RowKit
open Go.Proofs.YtpcdaoeijlifmaaDoor.Rowed Go.Proofs.YtpcdaoeijlifmaaDoor.Turn Go.Proofs.YtpcdaoeijlifmaaDoor.Aid Go.Proofs.YtpcdaoeijlifmaaDoor.GoP Go.Proofs.YtpcdaoeijlifmaaDoor.GoM

def P (tapes : List Int → Go.Proofs.YtpcdaoeijlifmaaDoor.GoC.Tape) (code : (List Int)) : Option (Go.Proofs.YtpcdaoeijlifmaaDoor.PComb.Comb) :=
  letK (tapes code) fun (t_3 : Go.Proofs.YtpcdaoeijlifmaaDoor.GoC.Tape) =>
  letK ([1, 42, 99]) fun (t_7 : (List Int)) =>
  bind2 (Go.Proofs.YtpcdaoeijlifmaaDoor.GsL1CurAmong.P t_3 t_7) fun (t_8 : Int) (t_8_tp : Go.Proofs.YtpcdaoeijlifmaaDoor.GoC.Tape) =>
  bind2 (Go.Proofs.YtpcdaoeijlifmaaDoor.GsL1CurComb5.P t_8_tp t_8) fun (t_9 : Go.Proofs.YtpcdaoeijlifmaaDoor.PComb.Comb) (t_9_tp : Go.Proofs.YtpcdaoeijlifmaaDoor.GoC.Tape) =>
  unComb t_9 fun (t_9_id : Int) (t_9_wide : Int) (t_9_high : Int) (t_9_line : Bool) =>
  some (Go.Proofs.YtpcdaoeijlifmaaDoor.PComb.Comb.mk t_9_id t_9_wide t_9_high t_9_line)

set_option maxRecDepth 100000 in
set_option maxHeartbeats 2000000 in
theorem C (tapes : List Int → Go.Proofs.YtpcdaoeijlifmaaDoor.GoC.Tape) (code : (List Int)) (A0 : Option Addr) (c0 : Nat)  (w : World) (HE : Hid (Go.Proofs.YtpcdaoeijlifmaaDoor.GoC.Tells tapes)) (M0 : Hid (Cells w 1 A0 code.length (Go.Proofs.YtpcdaoeijlifmaaDoor.GoC.u8s code))) (N0 : Hid (code.length ≤ 9223372036854775807)) (V0 : Hid (∀ z ∈ code, 0 ≤ z ∧ z ≤ 255))  {r : Go.Proofs.YtpcdaoeijlifmaaDoor.PComb.Comb} (H : Hid (P tapes code = some r)) :
    Calls Tryd.prog 26 #[.slice A0 code.length c0] w (Gives ((Go.Proofs.YtpcdaoeijlifmaaDoor.PComb.Comb.val r)) w) := by
  have HB := Lib.hid (Below.refl w.heap.size w)
  unfold P at H
  have N0o := N0.out
  go_enter Tryd.func26, Tryd.ntmps26
  obtain ⟨w_t_0, hw_t_0⟩ : ∃ x, w.alloc (.cells #[.int .i64 0, .int .i64 0, .int .i64 0, .bool false] 43) = x := ⟨_, rfl⟩
  have bw_t_0 : Below w.heap.size w w_t_0 := by rw [← hw_t_0]; exact (Below.refl _ _).alloc (Nat.le_refl _) _
  have HBw_t_0 := Lib.hid (Below.step HB.out bw_t_0)
  clear bw_t_0
  have kt_0_0 : w_t_0.cell? ⟨w.heap.size, 0, none⟩ = some (.int .i64 0) := by rw [← hw_t_0]; exact box_new _ _ _ 0 _ rfl
  have kt_0_1 : w_t_0.cell? ⟨w.heap.size, 1, none⟩ = some (.int .i64 0) := by rw [← hw_t_0]; exact box_new _ _ _ 1 _ rfl
  have kt_0_2 : w_t_0.cell? ⟨w.heap.size, 2, none⟩ = some (.int .i64 0) := by rw [← hw_t_0]; exact box_new _ _ _ 2 _ rfl
  have kt_0_3 : w_t_0.cell? ⟨w.heap.size, 3, none⟩ = some (.bool false) := by rw [← hw_t_0]; exact box_new _ _ _ 3 _ rfl
  have Ot_0 : Hid (w_t_0.ownsRow w.heap.size 43 4 (.slice (some ⟨w.heap.size, 0, none⟩) 1 1) 1 [.int .i64 0, .int .i64 0, .int .i64 0, .bool false]) := Lib.hid (by rw [← hw_t_0]; exact own_laid (n := 1) HB.out.size rfl rfl (by unfold maxLen; omega))
  replace H := let_hid H
  obtain ⟨t_3, ht_3, H⟩ := H
  obtain ⟨w_t_3, hw_t_3⟩ : ∃ x, w_t_0.alloc (.cells #[.slice A0 code.length c0, .int .i64 0, .int .u64 0] 78) = x := ⟨_, rfl⟩
  have bw_t_3 : Below w_t_0.heap.size w_t_0 w_t_3 := by rw [← hw_t_3]; exact (Below.refl _ _).alloc (Nat.le_refl _) _
  have Kt_3 : Hid (Go.Proofs.YtpcdaoeijlifmaaDoor.GoC.CurIs w_t_3 w.heap.size w_t_0.heap.size A0 c0 t_3) := Lib.hid (by rw [← hw_t_3, ← ht_3]; exact Go.Proofs.YtpcdaoeijlifmaaDoor.GoC.cur_new HBw_t_0.out.size (Cells.below M0.out HBw_t_0.out) (fun a_ ha_ h0_ => by subst ha_; exact Go.Proofs.YtpcdaoeijlifmaaDoor.GoC.cells_lt M0.out (by unfold Go.Proofs.YtpcdaoeijlifmaaDoor.GoC.u8s; rw [List.length_map]; exact h0_)) (HE.out.2.2 code V0.out N0.out))
  have hht_3 := Lib.hid ht_3
  clear ht_3
  have Dt_3_t_0 := Lib.hid (apart_box kt_0_0)
  have HBw_t_3 := Lib.hid (Below.step HBw_t_0.out bw_t_3)
  have kt_0_0__297 := cell_below bw_t_3 kt_0_0
  have kt_0_1__298 := cell_below bw_t_3 kt_0_1
  have kt_0_2__299 := cell_below bw_t_3 kt_0_2
  have kt_0_3__300 := cell_below bw_t_3 kt_0_3
  replace Ot_0 := Lib.hid (own_below Ot_0.out bw_t_3)
  clear bw_t_3
  replace H := let_hid H
  obtain ⟨t_7, ht_7, H⟩ := H
  obtain ⟨w_t_7, hw_t_7⟩ : ∃ x, w_t_3.alloc (.cells #[.int .i64 1, .int .i64 42, .int .i64 99] 3) = x := ⟨_, rfl⟩
  have bw_t_7 : Below w_t_3.heap.size w_t_3 w_t_7 := by rw [← hw_t_7]; exact (Below.refl _ _).alloc (Nat.le_refl _) _
  have hs_t_7 := HBw_t_3.out.size
  have nt_7 : t_7.length = 3 := by rw [← ht_7]; rfl
  have Ot_7 : Hid (w_t_7.ownsRow w.heap.size 3 1 (.slice (some ⟨w_t_3.heap.size, 0, none⟩) 3 3) 3 (Go.Proofs.YtpcdaoeijlifmaaDoor.HelpInt.iv t_7)) := by
    rw [← hw_t_7, ← ht_7]
    have e_ : ([.int .i64 1, .int .i64 42, .int .i64 99] : List Value) = (Go.Proofs.YtpcdaoeijlifmaaDoor.HelpInt.iv ([1, 42, 99] : List Int)) := rfl
    exact Lib.hid (own_laid (n := 3) hs_t_7 e_ rfl (by unfold maxLen; omega))
  clear hs_t_7
  have hht_7 := Lib.hid ht_7
  clear ht_7
  replace nt_7 := Lib.hid nt_7
  have Dt_7_t_3 := Lib.hid (Go.Proofs.YtpcdaoeijlifmaaDoor.GoC.apart_cur Kt_3.out)
  have Dt_7_t_0 := Lib.hid (apart_box kt_0_0__297)
  have HBw_t_7 := Lib.hid (Below.step HBw_t_3.out bw_t_7)
  have kt_0_0__301 := cell_below bw_t_7 kt_0_0__297
  have kt_0_1__302 := cell_below bw_t_7 kt_0_1__298
  have kt_0_2__303 := cell_below bw_t_7 kt_0_2__299
  have kt_0_3__304 := cell_below bw_t_7 kt_0_3__300
  replace Kt_3 := Lib.hid (Go.Proofs.YtpcdaoeijlifmaaDoor.GoC.cur_below Kt_3.out bw_t_7)
  replace Ot_0 := Lib.hid (own_below Ot_0.out bw_t_7)
  clear bw_t_7
  replace H := bind2_hid H
  obtain ⟨t_8, t_8_tp, qt_8, H⟩ := H
  go_wp2_with fail
  clear kt_0_0 kt_0_1 kt_0_2 kt_0_3 kt_0_0__297 kt_0_1__298 kt_0_2__299 kt_0_3__300
  have hc_ := nt_7.out
  have hv_ : (Value.slice (some ⟨w_t_3.heap.size, 0, none⟩) 3 3 : Value) = Value.slice (some ⟨w_t_3.heap.size, 0, none⟩) t_7.length 3 := by rw [hc_]
  try rw [hv_]
  replace Ot_7 := Lib.hid (own_len hc_ Ot_7.out)
  clear hc_ hv_
  go_wp2_with fail
  go_at_call 46
  refine (Go.Proofs.YtpcdaoeijlifmaaDoor.GsL1CurAmong.C (t_3) (t_7) (some ⟨w_t_3.heap.size, 0, none⟩) 3 (w_t_0.heap.size) (A0) (c0) (w.heap.size) _   (Lib.hid (own_cells Ot_7.out)) (Lib.hid (own_max Ot_7.out)) Kt_3 (Lib.hid (fun _ => Dt_7_t_3.out)) qt_8).mono ?_
  rintro e_t_8 wt_8 ⟨rfl, kt_8, gt_8⟩
  have Kt_8 := Lib.hid kt_8
  have Gt_8 : Hid (w_t_7.grownBy wt_8 (Value.slice (some ⟨w_t_0.heap.size, 0, none⟩) 1 1).ownBlock) := Lib.hid gt_8
  clear kt_8 gt_8
  have HBwt_8 := Lib.hid (Go.Proofs.YtpcdaoeijlifmaaDoor.GoC.below_cur HBw_t_7.out Gt_8.out HBw_t_7.out.size (Go.Proofs.YtpcdaoeijlifmaaDoor.GoC.cur_lt Kt_3.out).1)
  replace kt_0_0__301 := cell_other kt_0_0__301 Gt_8.out Dt_3_t_0.out
  replace kt_0_1__302 := cell_other kt_0_1__302 Gt_8.out Dt_3_t_0.out
  replace kt_0_2__303 := cell_other kt_0_2__303 Gt_8.out Dt_3_t_0.out
  replace kt_0_3__304 := cell_other kt_0_3__304 Gt_8.out Dt_3_t_0.out
  replace Ot_0 := Lib.hid (own_other Ot_0.out Gt_8.out Dt_3_t_0.out)
  replace Ot_7 := Lib.hid (own_other Ot_7.out Gt_8.out (Apart.symm Dt_7_t_3.out))
  clear Kt_3 Gt_8
  replace H := bind2_hid H
  obtain ⟨t_9, t_9_tp, qt_9, H⟩ := H
  obtain ⟨t_9_id, t_9_wide, t_9_high, t_9_line⟩ := t_9
  replace H := unComb_hid H
  go_wp2_with fail
  go_at_call 67
  refine (Go.Proofs.YtpcdaoeijlifmaaDoor.GsL1CurComb5.C (t_8_tp) (t_8) (w_t_0.heap.size) (A0) (c0) (w.heap.size) _   Kt_8 qt_9).mono ?_
  rintro e_t_9 wt_9 ⟨rfl, kt_9, gt_9⟩
  unfold Go.Proofs.YtpcdaoeijlifmaaDoor.PComb.Comb.val
  have Kt_9 := Lib.hid kt_9
  have Gt_9 : Hid (wt_8.grownBy wt_9 (Value.slice (some ⟨w_t_0.heap.size, 0, none⟩) 1 1).ownBlock) := Lib.hid gt_9
  clear kt_9 gt_9
  have HBwt_9 := Lib.hid (Go.Proofs.YtpcdaoeijlifmaaDoor.GoC.below_cur HBwt_8.out Gt_9.out HBwt_8.out.size (Go.Proofs.YtpcdaoeijlifmaaDoor.GoC.cur_lt Kt_8.out).1)
  replace kt_0_0__301 := cell_other kt_0_0__301 Gt_9.out Dt_3_t_0.out
  replace kt_0_1__302 := cell_other kt_0_1__302 Gt_9.out Dt_3_t_0.out
  replace kt_0_2__303 := cell_other kt_0_2__303 Gt_9.out Dt_3_t_0.out
  replace kt_0_3__304 := cell_other kt_0_3__304 Gt_9.out Dt_3_t_0.out
  replace Ot_0 := Lib.hid (own_other Ot_0.out Gt_9.out Dt_3_t_0.out)
  replace Ot_7 := Lib.hid (own_other Ot_7.out Gt_9.out (Apart.symm Dt_7_t_3.out))
  clear Kt_8 Gt_9
  obtain ⟨wb10_10, hwb10_10⟩ : ∃ x, ((((wt_9).setCell ⟨w.heap.size, 0, none⟩ (.int .i64 t_9_id)).setCell ⟨w.heap.size, 1, none⟩ (.int .i64 t_9_wide)).setCell ⟨w.heap.size, 2, none⟩ (.int .i64 t_9_high)).setCell ⟨w.heap.size, 3, none⟩ (.bool t_9_line) = x := ⟨_, rfl⟩
  have z0b10_10 := Ot_0.out.frozenAt 0
  have z1b10_10 := Ot_0.out.frozenAt 1
  have z2b10_10 := Ot_0.out.frozenAt 2
  have z3b10_10 := Ot_0.out.frozenAt 3
  have Sb10_10 := Lib.hid (own_stores [(0, .int .i64 t_9_id), (1, .int .i64 t_9_wide), (2, .int .i64 t_9_high), (3, .bool t_9_line)] Ot_0.out)
  have Pb10_10 : Hid (wb10_10.ownsRow w.heap.size 43 4 (.slice (some ⟨w.heap.size, 0, none⟩) 1 1) 1 [.int .i64 t_9_id, .int .i64 t_9_wide, .int .i64 t_9_high, .bool t_9_line]) := Lib.hid (by rw [← hwb10_10]; exact Sb10_10.out.1)
  have Gb10_10 : Hid (wt_9.grownBy wb10_10 (Value.slice (some ⟨w.heap.size, 0, none⟩) 1 1).ownBlock) := Lib.hid (by rw [← hwb10_10]; exact Sb10_10.out.2)
  have HBwb10_10 := Lib.hid (HBwt_9.out.grown Gb10_10.out HBwt_9.out.size (fun q hq => (Ot_0.out.lt q hq).1))
  clear Sb10_10
  replace Ot_7 := Lib.hid (own_other Ot_7.out Gb10_10.out (Apart.symm Dt_7_t_0.out))
  replace Kt_9 := Lib.hid (Go.Proofs.YtpcdaoeijlifmaaDoor.GoC.cur_other Kt_9.out Gb10_10.out (Apart.symm Dt_3_t_0.out) (Go.Proofs.YtpcdaoeijlifmaaDoor.GoC.own_ge Ot_0.out))
  clear Ot_0 Gb10_10
  have kt_0_0__305 : wb10_10.cell? ⟨w.heap.size, 0, none⟩ = some (.int .i64 t_9_id) := Pb10_10.out.cells rfl 0 _ rfl
  have kt_0_1__306 : wb10_10.cell? ⟨w.heap.size, 1, none⟩ = some (.int .i64 t_9_wide) := Pb10_10.out.cells rfl 1 _ rfl
  have kt_0_2__307 : wb10_10.cell? ⟨w.heap.size, 2, none⟩ = some (.int .i64 t_9_high) := Pb10_10.out.cells rfl 2 _ rfl
  have kt_0_3__308 : wb10_10.cell? ⟨w.heap.size, 3, none⟩ = some (.bool t_9_line) := Pb10_10.out.cells rfl 3 _ rfl
  cases ret_hid H
  go_wp2_with fail
  (try simp only [Exit.inBlock, Exit.then])
  refine bodyPost_ret (v := .agg #[.int .i64 t_9_id, .int .i64 t_9_wide, .int .i64 t_9_high, .bool t_9_line]) ?hr_ ?hd_ ?_
  case hd_ => rfl
  case hr_ => simp [results, Tryd.results26, kt_0_0__305, kt_0_1__306, kt_0_2__307, kt_0_3__308, go_sem]
  exact ⟨rfl, HBwb10_10.out⟩
end Go.Proofs.YtpcdaoeijlifmaaDoor.GsDrawCombText

/- loop.example/g01062/impl.CombText as a plain function, and the contract of the program's: where the plain one has an answer, the program has it. Conditions: slices read as lists. -/
namespace Go.Proofs.YtpcdaoeijlifmaaDoor.GiCombText
set_option linter.unusedVariables false
set_option linter.unusedSimpArgs false
open Go.RowKit
open Go.Proofs.YtpcdaoeijlifmaaDoor.Rowed Go.Proofs.YtpcdaoeijlifmaaDoor.Turn Go.Proofs.YtpcdaoeijlifmaaDoor.Aid Go.Proofs.YtpcdaoeijlifmaaDoor.GoP Go.Proofs.YtpcdaoeijlifmaaDoor.GoM Go.Proofs.YtpcdaoeijlifmaaDoor.Tab

def j1  (s : ByteArray) : Option (ByteArray × Bool) :=
  some (s, true)

def j0 (x_line : Bool) (s : ByteArray) : Option (ByteArray × Bool) :=
  iteK x_line
  (guardK (s.size + (⟨#[32, 108, 105, 110, 101]⟩ : ByteArray).size ≤ maxLen) <|
  letK (s ++ (⟨#[32, 108, 105, 110, 101]⟩ : ByteArray)) fun (t_45 : ByteArray) =>
  j1  (t_45))
  (j1  (s))

def P (x : Go.Proofs.YtpcdaoeijlifmaaDoor.PComb.Comb) : Option (ByteArray × Bool) :=
  unComb x fun (x_id : Int) (x_wide : Int) (x_high : Int) (x_line : Bool) =>
  Option.bind (Go.Proofs.YtpcdaoeijlifmaaDoor.GiIsComb.P (Go.Proofs.YtpcdaoeijlifmaaDoor.PComb.Comb.mk x_id x_wide x_high x_line)) fun (t_4 : Bool) =>
  letK (!t_4) fun (t_5 : Bool) =>
  iteK t_5
  (some ((⟨#[]⟩ : ByteArray), false))
  (bind2 (Go.Proofs.YtpcdaoeijlifmaaDoor.GiGaugeText.P x_wide) fun (t_10a : ByteArray) (t_10b : Bool) =>
  bind2 (Go.Proofs.YtpcdaoeijlifmaaDoor.GiGaugeText.P x_high) fun (t_18a : ByteArray) (t_18b : Bool) =>
  Option.bind (Go.Proofs.YtpcdaoeijlifmaaDoor.GxStrconvItoa.P x_id) fun (t_26 : ByteArray) =>
  guardK ((⟨#[99]⟩ : ByteArray).size + t_26.size ≤ maxLen) <|
  letK ((⟨#[99]⟩ : ByteArray) ++ t_26) fun (t_27 : ByteArray) =>
  guardK (t_27.size + (⟨#[32]⟩ : ByteArray).size ≤ maxLen) <|
  letK (t_27 ++ (⟨#[32]⟩ : ByteArray)) fun (t_28 : ByteArray) =>
  guardK (t_28.size + t_10a.size ≤ maxLen) <|
  letK (t_28 ++ t_10a) fun (t_30 : ByteArray) =>
  letK (x_high != x_wide) fun (t_36 : Bool) =>
  iteK t_36
  (guardK ((⟨#[32, 120, 32]⟩ : ByteArray).size + t_18a.size ≤ maxLen) <|
  letK ((⟨#[32, 120, 32]⟩ : ByteArray) ++ t_18a) fun (t_39 : ByteArray) =>
  guardK (t_30.size + t_39.size ≤ maxLen) <|
  letK (t_30 ++ t_39) fun (t_40 : ByteArray) =>
  j0 x_line (t_40))
  (j0 x_line (t_30)))

set_option maxRecDepth 100000 in
set_option maxHeartbeats 2000000 in
theorem C (x : Go.Proofs.YtpcdaoeijlifmaaDoor.PComb.Comb)   (w : World) (HT : Hid (Tab w))   {r0 : ByteArray} {r1 : Bool} (H : Hid (P x = some (r0, r1))) :
    Calls Tryd.prog 27 #[x.val] w (Gives (.tuple #[.string r0, .bool r1]) w) := by
  have HB := Lib.hid (Below.refl w.heap.size w)
  unfold P at H
  obtain ⟨x_id, x_wide, x_high, x_line⟩ := x
  replace H := unComb_hid H
  unfold Go.Proofs.YtpcdaoeijlifmaaDoor.PComb.Comb.val
  go_enter Tryd.func27, Tryd.ntmps27
  obtain ⟨w_x_0, hw_x_0⟩ : ∃ x, w.alloc (.cells #[.int .i64 x_id, .int .i64 x_wide, .int .i64 x_high, .bool x_line] 43) = x := ⟨_, rfl⟩
  have bw_x_0 : Below w.heap.size w w_x_0 := by rw [← hw_x_0]; exact (Below.refl _ _).alloc (Nat.le_refl _) _
  have HBw_x_0 := Lib.hid (Below.step HB.out bw_x_0)
  clear bw_x_0
  have kx_0_0 : w_x_0.cell? ⟨w.heap.size, 0, none⟩ = some (.int .i64 x_id) := by rw [← hw_x_0]; exact box_new _ _ _ 0 _ rfl
  have kx_0_1 : w_x_0.cell? ⟨w.heap.size, 1, none⟩ = some (.int .i64 x_wide) := by rw [← hw_x_0]; exact box_new _ _ _ 1 _ rfl
  have kx_0_2 : w_x_0.cell? ⟨w.heap.size, 2, none⟩ = some (.int .i64 x_high) := by rw [← hw_x_0]; exact box_new _ _ _ 2 _ rfl
  have kx_0_3 : w_x_0.cell? ⟨w.heap.size, 3, none⟩ = some (.bool x_line) := by rw [← hw_x_0]; exact box_new _ _ _ 3 _ rfl
  replace H := bind_hid H
  obtain ⟨t_4, qt_4, H⟩ := H
  go_wp2_with fail
  go_at_call 68
  refine (Go.Proofs.YtpcdaoeijlifmaaDoor.GiIsComb.C ((Go.Proofs.YtpcdaoeijlifmaaDoor.PComb.Comb.mk x_id x_wide x_high x_line))  _    qt_4).mono ?_
  rintro e_t_4 wt_4 ⟨rfl, bt_4⟩
  have HBwt_4 := Lib.hid (Below.step HBw_x_0.out bt_4)
  replace kx_0_0 := cell_below bt_4 kx_0_0
  replace kx_0_1 := cell_below bt_4 kx_0_1
  replace kx_0_2 := cell_below bt_4 kx_0_2
  replace kx_0_3 := cell_below bt_4 kx_0_3
  clear bt_4
  cases t_4 with
  | false =>
    replace H := let_hid H
    obtain ⟨t_5, ht_5, H⟩ := H
    obtain rfl : t_5 = true := ht_5.symm
    replace H := ite_t H
    cases ret_hid H
    go_wp2_with fail
    go_ret2
    exact ⟨rfl, HBwt_4.out⟩
  | true =>
    replace H := let_hid H
    obtain ⟨t_5, ht_5, H⟩ := H
    obtain rfl : t_5 = false := ht_5.symm
    replace H := ite_f H
    replace H := bind2_hid H
    obtain ⟨t_10a, t_10b, qt_10, H⟩ := H
    go_wp2_with fail
    go_at_call 24
    refine (Go.Proofs.YtpcdaoeijlifmaaDoor.GiGaugeText.C (x_wide)  _ (tab_below HBwt_4.out HT)   qt_10).mono ?_
    rintro e_t_10 wt_10 ⟨rfl, bt_10⟩
    have HBwt_10 := Lib.hid (Below.step HBwt_4.out bt_10)
    replace kx_0_0 := cell_below bt_10 kx_0_0
    replace kx_0_1 := cell_below bt_10 kx_0_1
    replace kx_0_2 := cell_below bt_10 kx_0_2
    replace kx_0_3 := cell_below bt_10 kx_0_3
    clear bt_10
    replace H := bind2_hid H
    obtain ⟨t_18a, t_18b, qt_18, H⟩ := H
    go_wp2_with fail
    go_at_call 24
    refine (Go.Proofs.YtpcdaoeijlifmaaDoor.GiGaugeText.C (x_high)  _ (tab_below HBwt_10.out HT)   qt_18).mono ?_
    rintro e_t_18 wt_18 ⟨rfl, bt_18⟩
    have HBwt_18 := Lib.hid (Below.step HBwt_10.out bt_18)
    replace kx_0_0 := cell_below bt_18 kx_0_0
    replace kx_0_1 := cell_below bt_18 kx_0_1
    replace kx_0_2 := cell_below bt_18 kx_0_2
    replace kx_0_3 := cell_below bt_18 kx_0_3
    clear bt_18
    replace H := bind_hid H
    obtain ⟨t_26, qt_26, H⟩ := H
    go_wp2_with fail
    go_at_call 69
    refine (Go.Proofs.YtpcdaoeijlifmaaDoor.GxStrconvItoa.C (x_id)  _ (tab_below HBwt_18.out HT)   qt_26).mono ?_
    rintro e_t_26 wt_26 ⟨rfl, bt_26⟩
    have HBwt_26 := Lib.hid (Below.step HBwt_18.out bt_26)
    replace kx_0_0 := cell_below bt_26 kx_0_0
    replace kx_0_1 := cell_below bt_26 kx_0_1
    replace kx_0_2 := cell_below bt_26 kx_0_2
    replace kx_0_3 := cell_below bt_26 kx_0_3
    clear bt_26
    replace H := guard_hid H
    obtain ⟨hl_t_27, H⟩ := H
    replace H := let_hid H
    obtain ⟨t_27, ht_27, H⟩ := H
    have ct_27 := cat_rule (P := Tryd.prog) ht_27 hl_t_27
    clear hl_t_27
    have hht_27 := Lib.hid ht_27
    clear ht_27
    replace H := guard_hid H
    obtain ⟨hl_t_28, H⟩ := H
    replace H := let_hid H
    obtain ⟨t_28, ht_28, H⟩ := H
    have ct_28 := cat_rule (P := Tryd.prog) ht_28 hl_t_28
    clear hl_t_28
    have hht_28 := Lib.hid ht_28
    clear ht_28
    replace H := guard_hid H
    obtain ⟨hl_t_30, H⟩ := H
    replace H := let_hid H
    obtain ⟨t_30, ht_30, H⟩ := H
    have ct_30 := cat_rule (P := Tryd.prog) ht_30 hl_t_30
    clear hl_t_30
    have hht_30 := Lib.hid ht_30
    clear ht_30
    replace H := let_hid H
    obtain ⟨t_36, ht_36, H⟩ := H
    cases t_36 with
    | false =>
      replace H := ite_f H
      unfold j0 at H
      cases x_line with
      | false =>
        replace H := ite_f H
        unfold j1 at H
        cases ret_hid H
        go_wp2_with fail
        go_ret2
        exact ⟨rfl, HBwt_26.out⟩
      | true =>
        replace H := ite_t H
        replace H := guard_hid H
        obtain ⟨hl_t_45, H⟩ := H
        replace H := let_hid H
        obtain ⟨t_45, ht_45, H⟩ := H
        have ct_45 := cat_rule (P := Tryd.prog) ht_45 hl_t_45
        clear hl_t_45
        have hht_45 := Lib.hid ht_45
        clear ht_45
        unfold j1 at H
        cases ret_hid H
        go_wp2_with fail
        go_ret2
        exact ⟨rfl, HBwt_26.out⟩
    | true =>
      replace H := ite_t H
      replace H := guard_hid H
      obtain ⟨hl_t_39, H⟩ := H
      replace H := let_hid H
      obtain ⟨t_39, ht_39, H⟩ := H
      have ct_39 := cat_rule (P := Tryd.prog) ht_39 hl_t_39
      clear hl_t_39
      have hht_39 := Lib.hid ht_39
      clear ht_39
      replace H := guard_hid H
      obtain ⟨hl_t_40, H⟩ := H
      replace H := let_hid H
      obtain ⟨t_40, ht_40, H⟩ := H
      have ct_40 := cat_rule (P := Tryd.prog) ht_40 hl_t_40
      clear hl_t_40
      have hht_40 := Lib.hid ht_40
      clear ht_40
      unfold j0 at H
      cases x_line with
      | false =>
        replace H := ite_f H
        unfold j1 at H
        cases ret_hid H
        go_wp2_with fail
        go_ret2
        exact ⟨rfl, HBwt_26.out⟩
      | true =>
        replace H := ite_t H
        replace H := guard_hid H
        obtain ⟨hl_t_45, H⟩ := H
        replace H := let_hid H
        obtain ⟨t_45, ht_45, H⟩ := H
        have ct_45 := cat_rule (P := Tryd.prog) ht_45 hl_t_45
        clear hl_t_45
        have hht_45 := Lib.hid ht_45
        clear ht_45
        unfold j1 at H
        cases ret_hid H
        go_wp2_with fail
        go_ret2
        exact ⟨rfl, HBwt_26.out⟩
end Go.Proofs.YtpcdaoeijlifmaaDoor.GiCombText

/- loop.example/g01062/spec.CombText as a plain function, and the contract of the program's: where the plain one has an answer, the program has it. Conditions: slices read as lists. -/
namespace Go.Proofs.YtpcdaoeijlifmaaDoor.GsCombText
set_option linter.unusedVariables false
set_option linter.unusedSimpArgs false
open Go.RowKit
open Go.Proofs.YtpcdaoeijlifmaaDoor.Rowed Go.Proofs.YtpcdaoeijlifmaaDoor.Turn Go.Proofs.YtpcdaoeijlifmaaDoor.Aid Go.Proofs.YtpcdaoeijlifmaaDoor.GoP Go.Proofs.YtpcdaoeijlifmaaDoor.GoM

def j1  (s : ByteArray) : Option (ByteArray × Bool) :=
  some (s, true)

def j0 (x_line : Bool) (s : ByteArray) : Option (ByteArray × Bool) :=
  iteK x_line
  (guardK (s.size + (⟨#[32, 108, 105, 110, 101]⟩ : ByteArray).size ≤ maxLen) <|
  letK (s ++ (⟨#[32, 108, 105, 110, 101]⟩ : ByteArray)) fun (t_33 : ByteArray) =>
  j1  (t_33))
  (j1  (s))

def P (x : Go.Proofs.YtpcdaoeijlifmaaDoor.PComb.Comb) : Option (ByteArray × Bool) :=
  unComb x fun (x_id : Int) (x_wide : Int) (x_high : Int) (x_line : Bool) =>
  Option.bind (Go.Proofs.YtpcdaoeijlifmaaDoor.GsL5One.P (Go.Proofs.YtpcdaoeijlifmaaDoor.PComb.Comb.mk x_id x_wide x_high x_line)) fun (t_4 : Bool) =>
  letK (!t_4) fun (t_5 : Bool) =>
  iteK t_5
  (some ((⟨#[]⟩ : ByteArray), false))
  (Option.bind (Go.Proofs.YtpcdaoeijlifmaaDoor.GsL1Num.P x_id) fun (t_10 : ByteArray) =>
  guardK ((⟨#[99]⟩ : ByteArray).size + t_10.size ≤ maxLen) <|
  letK ((⟨#[99]⟩ : ByteArray) ++ t_10) fun (t_11 : ByteArray) =>
  guardK (t_11.size + (⟨#[32]⟩ : ByteArray).size ≤ maxLen) <|
  letK (t_11 ++ (⟨#[32]⟩ : ByteArray)) fun (t_12 : ByteArray) =>
  Option.bind (Go.Proofs.YtpcdaoeijlifmaaDoor.GsL5Text.P x_wide) fun (t_15 : ByteArray) =>
  guardK (t_12.size + t_15.size ≤ maxLen) <|
  letK (t_12 ++ t_15) fun (t_16 : ByteArray) =>
  letK (x_high != x_wide) fun (t_22 : Bool) =>
  iteK t_22
  (guardK (t_16.size + (⟨#[32, 120, 32]⟩ : ByteArray).size ≤ maxLen) <|
  letK (t_16 ++ (⟨#[32, 120, 32]⟩ : ByteArray)) fun (t_24 : ByteArray) =>
  Option.bind (Go.Proofs.YtpcdaoeijlifmaaDoor.GsL5Text.P x_high) fun (t_27 : ByteArray) =>
  guardK (t_24.size + t_27.size ≤ maxLen) <|
  letK (t_24 ++ t_27) fun (t_28 : ByteArray) =>
  j0 x_line (t_28))
  (j0 x_line (t_16)))

set_option maxRecDepth 100000 in
set_option maxHeartbeats 2000000 in
theorem C (x : Go.Proofs.YtpcdaoeijlifmaaDoor.PComb.Comb)   (w : World)   {r0 : ByteArray} {r1 : Bool} (H : Hid (P x = some (r0, r1))) :
    Calls Tryd.prog 28 #[x.val] w (Gives (.tuple #[.string r0, .bool r1]) w) := by
  have HB := Lib.hid (Below.refl w.heap.size w)
  unfold P at H
  obtain ⟨x_id, x_wide, x_high, x_line⟩ := x
  replace H := unComb_hid H
  unfold Go.Proofs.YtpcdaoeijlifmaaDoor.PComb.Comb.val
  go_enter Tryd.func28, Tryd.ntmps28
  obtain ⟨w_x_0, hw_x_0⟩ : ∃ x, w.alloc (.cells #[.int .i64 x_id, .int .i64 x_wide, .int .i64 x_high, .bool x_line] 43) = x := ⟨_, rfl⟩
  have bw_x_0 : Below w.heap.size w w_x_0 := by rw [← hw_x_0]; exact (Below.refl _ _).alloc (Nat.le_refl _) _
  have HBw_x_0 := Lib.hid (Below.step HB.out bw_x_0)
  clear bw_x_0
  have kx_0_0 : w_x_0.cell? ⟨w.heap.size, 0, none⟩ = some (.int .i64 x_id) := by rw [← hw_x_0]; exact box_new _ _ _ 0 _ rfl
  have kx_0_1 : w_x_0.cell? ⟨w.heap.size, 1, none⟩ = some (.int .i64 x_wide) := by rw [← hw_x_0]; exact box_new _ _ _ 1 _ rfl
  have kx_0_2 : w_x_0.cell? ⟨w.heap.size, 2, none⟩ = some (.int .i64 x_high) := by rw [← hw_x_0]; exact box_new _ _ _ 2 _ rfl
  have kx_0_3 : w_x_0.cell? ⟨w.heap.size, 3, none⟩ = some (.bool x_line) := by rw [← hw_x_0]; exact box_new _ _ _ 3 _ rfl
  replace H := bind_hid H
  obtain ⟨t_4, qt_4, H⟩ := H
  go_wp2_with fail
  go_at_call 70
  refine (Go.Proofs.YtpcdaoeijlifmaaDoor.GsL5One.C ((Go.Proofs.YtpcdaoeijlifmaaDoor.PComb.Comb.mk x_id x_wide x_high x_line))  _    qt_4).mono ?_
  rintro e_t_4 wt_4 ⟨rfl, bt_4⟩
  have HBwt_4 := Lib.hid (Below.step HBw_x_0.out bt_4)
  replace kx_0_0 := cell_below bt_4 kx_0_0
  replace kx_0_1 := cell_below bt_4 kx_0_1
  replace kx_0_2 := cell_below bt_4 kx_0_2
  replace kx_0_3 := cell_below bt_4 kx_0_3
  clear bt_4
  cases t_4 with
  | false =>
    replace H := let_hid H
    obtain ⟨t_5, ht_5, H⟩ := H
    obtain rfl : t_5 = true := ht_5.symm
    replace H := ite_t H
    cases ret_hid H
    go_wp2_with fail
    go_ret2
    exact ⟨rfl, HBwt_4.out⟩
  | true =>
    replace H := let_hid H
    obtain ⟨t_5, ht_5, H⟩ := H
    obtain rfl : t_5 = false := ht_5.symm
    replace H := ite_f H
    go_wp2_with fail
    have Hkx_0_0 := Lib.hid kx_0_0
    replace kx_0_0 := cell_regrown kx_0_0
    have Hkx_0_1 := Lib.hid kx_0_1
    replace kx_0_1 := cell_regrown kx_0_1
    have Hkx_0_2 := Lib.hid kx_0_2
    replace kx_0_2 := cell_regrown kx_0_2
    have Hkx_0_3 := Lib.hid kx_0_3
    replace kx_0_3 := cell_regrown kx_0_3
    replace H := bind_hid H
    obtain ⟨t_10, qt_10, H⟩ := H
    have nt_10 : ∀ d os, Calls Tryd.prog 71 #[.int .i64 x_id] (Go.Sort.grow (redrawn wt_4 d) os) fun e w'' => e = .returned (.string t_10) ∧ ∃ p : Regrown, w'' = Go.Sort.grow (redrawn wt_4 p.d) p.os := fun d os => Calls.regrown_of (Go.Proofs.YtpcdaoeijlifmaaDoor.GsL1Num.C (x_id)  _    qt_10)
    replace H := guard_hid H
    obtain ⟨hl_t_11, H⟩ := H
    replace H := let_hid H
    obtain ⟨t_11, ht_11, H⟩ := H
    have ct_11 := cat_rule (P := Tryd.prog) ht_11 hl_t_11
    clear hl_t_11
    have hht_11 := Lib.hid ht_11
    clear ht_11
    replace H := guard_hid H
    obtain ⟨hl_t_12, H⟩ := H
    replace H := let_hid H
    obtain ⟨t_12, ht_12, H⟩ := H
    have ct_12 := cat_rule (P := Tryd.prog) ht_12 hl_t_12
    clear hl_t_12
    have hht_12 := Lib.hid ht_12
    clear ht_12
    replace H := bind_hid H
    obtain ⟨t_15, qt_15, H⟩ := H
    have nt_15 : ∀ d os, Calls Tryd.prog 66 #[.int .i64 x_wide] (Go.Sort.grow (redrawn wt_4 d) os) fun e w'' => e = .returned (.string t_15) ∧ ∃ p : Regrown, w'' = Go.Sort.grow (redrawn wt_4 p.d) p.os := fun d os => Calls.regrown_of (Go.Proofs.YtpcdaoeijlifmaaDoor.GsL5Text.C (x_wide)  _    qt_15)
    replace H := guard_hid H
    obtain ⟨hl_t_16, H⟩ := H
    replace H := let_hid H
    obtain ⟨t_16, ht_16, H⟩ := H
    have ct_16 := cat_rule (P := Tryd.prog) ht_16 hl_t_16
    clear hl_t_16
    have hht_16 := Lib.hid ht_16
    clear ht_16
    refine wp_region_quiet_below (by kernel_rfl) (by kernel_rfl) ?_
    repeat (go_big_quiet_step (first | (go_at_call 71; exact nt_10 _ _) | (go_at_call 66; exact nt_15 _ _)))
    refine wpQuiet_nil ?_
    intro Y3 hY3
    replace hY3 := below_class hY3
    clear nt_10 nt_15
    replace kx_0_0 := Hkx_0_0.out
    clear Hkx_0_0
    replace kx_0_1 := Hkx_0_1.out
    clear Hkx_0_1
    replace kx_0_2 := Hkx_0_2.out
    clear Hkx_0_2
    replace kx_0_3 := Hkx_0_3.out
    clear Hkx_0_3
    have HBY3 := Lib.hid (Below.step HBwt_4.out hY3)
    replace kx_0_0 := cell_below hY3 kx_0_0
    replace kx_0_1 := cell_below hY3 kx_0_1
    replace kx_0_2 := cell_below hY3 kx_0_2
    replace kx_0_3 := cell_below hY3 kx_0_3
    clear hY3
    replace H := let_hid H
    obtain ⟨t_22, ht_22, H⟩ := H
    cases t_22 with
    | false =>
      replace H := ite_f H
      unfold j0 at H
      cases x_line with
      | false =>
        replace H := ite_f H
        unfold j1 at H
        cases ret_hid H
        go_wp2_with fail
        go_ret2
        exact ⟨rfl, HBY3.out⟩
      | true =>
        replace H := ite_t H
        replace H := guard_hid H
        obtain ⟨hl_t_33, H⟩ := H
        replace H := let_hid H
        obtain ⟨t_33, ht_33, H⟩ := H
        have ct_33 := cat_rule (P := Tryd.prog) ht_33 hl_t_33
        clear hl_t_33
        have hht_33 := Lib.hid ht_33
        clear ht_33
        unfold j1 at H
        cases ret_hid H
        go_wp2_with fail
        go_ret2
        exact ⟨rfl, HBY3.out⟩
    | true =>
      replace H := ite_t H
      replace H := guard_hid H
      obtain ⟨hl_t_24, H⟩ := H
      replace H := let_hid H
      obtain ⟨t_24, ht_24, H⟩ := H
      have ct_24 := cat_rule (P := Tryd.prog) ht_24 hl_t_24
      clear hl_t_24
      have hht_24 := Lib.hid ht_24
      clear ht_24
      replace H := bind_hid H
      obtain ⟨t_27, qt_27, H⟩ := H
      go_wp2_with fail
      go_at_call 66
      refine (Go.Proofs.YtpcdaoeijlifmaaDoor.GsL5Text.C (x_high)  _    qt_27).mono ?_
      rintro e_t_27 wt_27 ⟨rfl, bt_27⟩
      have HBwt_27 := Lib.hid (Below.step HBY3.out bt_27)
      replace kx_0_0 := cell_below bt_27 kx_0_0
      replace kx_0_1 := cell_below bt_27 kx_0_1
      replace kx_0_2 := cell_below bt_27 kx_0_2
      replace kx_0_3 := cell_below bt_27 kx_0_3
      clear bt_27
      replace H := guard_hid H
      obtain ⟨hl_t_28, H⟩ := H
      replace H := let_hid H
      obtain ⟨t_28, ht_28, H⟩ := H
      have ct_28 := cat_rule (P := Tryd.prog) ht_28 hl_t_28
      clear hl_t_28
      have hht_28 := Lib.hid ht_28
      clear ht_28
      unfold j0 at H
      cases x_line with
      | false =>
        replace H := ite_f H
        unfold j1 at H
        cases ret_hid H
        go_wp2_with fail
        go_ret2
        exact ⟨rfl, HBwt_27.out⟩
      | true =>
        replace H := ite_t H
        replace H := guard_hid H
        obtain ⟨hl_t_33, H⟩ := H
        replace H := let_hid H
        obtain ⟨t_33, ht_33, H⟩ := H
        have ct_33 := cat_rule (P := Tryd.prog) ht_33 hl_t_33
        clear hl_t_33
        have hht_33 := Lib.hid ht_33
        clear ht_33
        unfold j1 at H
        cases ret_hid H
        go_wp2_with fail
        go_ret2
        exact ⟨rfl, HBwt_27.out⟩
end Go.Proofs.YtpcdaoeijlifmaaDoor.GsCombText

/- loop.example/g01062/spec.AreCombs as a plain function, and the contract of the program's: where the plain one has an answer, the program has it. Conditions: slices read as lists. -/
namespace Go.Proofs.YtpcdaoeijlifmaaDoor.GsAreCombs
set_option linter.unusedVariables false
set_option linter.unusedSimpArgs false
open Go.RowKit
open Go.Proofs.YtpcdaoeijlifmaaDoor.Rowed Go.Proofs.YtpcdaoeijlifmaaDoor.Turn Go.Proofs.YtpcdaoeijlifmaaDoor.Aid Go.Proofs.YtpcdaoeijlifmaaDoor.GoP Go.Proofs.YtpcdaoeijlifmaaDoor.GoM

def P (list : (List Go.Proofs.YtpcdaoeijlifmaaDoor.PComb.Comb)) : Option (Bool) :=
  Option.bind (Go.Proofs.YtpcdaoeijlifmaaDoor.GsL5Good.P list) fun (t_2 : Bool) =>
  some t_2

set_option maxRecDepth 100000 in
set_option maxHeartbeats 2000000 in
theorem C (list : (List Go.Proofs.YtpcdaoeijlifmaaDoor.PComb.Comb)) (A0 : Option Addr) (c0 : Nat)  (w : World) (M0 : Hid (Cells w 4 A0 list.length (Go.Proofs.YtpcdaoeijlifmaaDoor.PComb.flat list))) (N0 : Hid (list.length ≤ 9223372036854775807))  {r : Bool} (H : Hid (P list = some r)) :
    Calls Tryd.prog 30 #[.slice A0 list.length c0] w (Gives (.bool r) w) := by
  have HB := Lib.hid (Below.refl w.heap.size w)
  unfold P at H
  have N0o := N0.out
  go_enter Tryd.func30, Tryd.ntmps30
  replace H := bind_hid H
  obtain ⟨t_2, qt_2, H⟩ := H
  go_wp2_with fail
  go_at_call 60
  refine (Go.Proofs.YtpcdaoeijlifmaaDoor.GsL5Good.C (list) A0 c0 _   (Lib.hid (Cells.below M0.out HB.out)) N0 qt_2).mono ?_
  rintro e_t_2 wt_2 ⟨rfl, bt_2⟩
  have HBwt_2 := Lib.hid (Below.step HB.out bt_2)
  clear bt_2
  obtain rfl := ret_hid H
  go_wp2_with fail
  go_ret
  exact ⟨rfl, HBwt_2.out⟩
end Go.Proofs.YtpcdaoeijlifmaaDoor.GsAreCombs

/- loop.example/g01062/laws.FnCombs as a plain function, and the contract of the program's: where the plain one has an answer, the program has it. Conditions: slices read as lists. -/
namespace Go.Proofs.YtpcdaoeijlifmaaDoor.GlFnCombs
set_option linter.unusedVariables false
set_option linter.unusedSimpArgs false
open Go.RowKit
open Go.Proofs.YtpcdaoeijlifmaaDoor.Rowed Go.Proofs.YtpcdaoeijlifmaaDoor.Turn Go.Proofs.YtpcdaoeijlifmaaDoor.Aid Go.Proofs.YtpcdaoeijlifmaaDoor.GoP Go.Proofs.YtpcdaoeijlifmaaDoor.GoM Go.Proofs.YtpcdaoeijlifmaaDoor.Tab

def l0 (t_5a : (List Go.Proofs.YtpcdaoeijlifmaaDoor.PComb.Comb)) (t_19a : (List Int)) (t_19b : Bool) (t_49a : (List Int)) (t_84a : (List Int)) (s : Int) (nx0 bk0 : Int → Option (Bool)) : Option (Bool) :=
  letK s fun i_17l0 =>
  letK (decide (i_17l0 < (t_5a.length : Int))) fun (t_98 : Bool) =>
  joinK (fun (t_101 : Bool) =>
  iteK t_101
  (Option.bind (idx t_5a i_17l0) fun (yt_104 : Go.Proofs.YtpcdaoeijlifmaaDoor.PComb.Comb) =>
  unComb yt_104 fun (t_104_id : Int) (t_104_wide : Int) (t_104_high : Int) (t_104_line : Bool) =>
  Option.bind (Go.Proofs.YtpcdaoeijlifmaaDoor.GlRHas.P t_49a t_104_id) fun (t_110 : Bool) =>
  Option.bind (Go.Proofs.YtpcdaoeijlifmaaDoor.GlRHas.P t_84a t_104_id) fun (t_113 : Bool) =>
  joinK (fun (t_119 : Bool) =>
  letK (!(t_110 == t_119)) fun (t_120 : Bool) =>
  iteK t_120
  (some false)
  (letK (IntKind.i64.wrap (i_17l0 + 1)) fun (t_123 : Int) =>
  appK nx0 (t_123))) fun jt_119 => iteK t_113 (Option.bind (Go.Proofs.YtpcdaoeijlifmaaDoor.GlRHas.P t_19a t_104_id) fun (t_117 : Bool) =>
  letK (!t_117) fun (t_118 : Bool) =>
  appK jt_119 t_118) (appK jt_119 false))
  (appK bk0 (i_17l0))) fun jt_101 => iteK t_98 (appK jt_101 t_19b) (appK jt_101 false)

def l1 (t_126a : (List (List Int))) (k1 : Nat) (s : Int) (nx1 bk1 : Int → Option (Bool)) : Option (Bool) :=
  letK s fun sum_23l1 =>
  Option.bind (idx t_126a (k1 : Int)) fun (yt_158 : (List Int)) =>
  letK (IntKind.i64.wrap (sum_23l1 + (yt_158.length : Int))) fun (t_161 : Int) =>
  appK nx1 (t_161)

def e1 (code : (List Int)) (tapes : List Int → Go.Proofs.YtpcdaoeijlifmaaDoor.GoC.Tape) (t_5a : (List Go.Proofs.YtpcdaoeijlifmaaDoor.PComb.Comb)) (t_126b : Bool) (s : Int) : Option (Bool) :=
  letK s fun sum_23l1 =>
  joinK (fun (t_172 : Bool) =>
  iteK t_172
  (some false)
  (Option.bind (Go.Proofs.YtpcdaoeijlifmaaDoor.GsDrawGaugeText.P tapes code) fun (t_175 : Int) =>
  bind2 (Go.Proofs.YtpcdaoeijlifmaaDoor.GiGaugeText.P t_175) fun (t_178a : ByteArray) (t_178b : Bool) =>
  bind2 (Go.Proofs.YtpcdaoeijlifmaaDoor.GsGaugeText.P t_175) fun (t_185a : ByteArray) (t_185b : Bool) =>
  Option.bind (Go.Proofs.YtpcdaoeijlifmaaDoor.GsDrawCombText.P tapes code) fun (t_192 : Go.Proofs.YtpcdaoeijlifmaaDoor.PComb.Comb) =>
  unComb t_192 fun (t_192_id : Int) (t_192_wide : Int) (t_192_high : Int) (t_192_line : Bool) =>
  bind2 (Go.Proofs.YtpcdaoeijlifmaaDoor.GiCombText.P (Go.Proofs.YtpcdaoeijlifmaaDoor.PComb.Comb.mk t_192_id t_192_wide t_192_high t_192_line)) fun (t_196a : ByteArray) (t_196b : Bool) =>
  bind2 (Go.Proofs.YtpcdaoeijlifmaaDoor.GsCombText.P (Go.Proofs.YtpcdaoeijlifmaaDoor.PComb.Comb.mk t_192_id t_192_wide t_192_high t_192_line)) fun (t_203a : ByteArray) (t_203b : Bool) =>
  letK (t_178a.toList == t_185a.toList) fun (t_211 : Bool) =>
  joinK (fun (t_216 : Bool) =>
  joinK (fun (t_221 : Bool) =>
  joinK (fun (t_226 : Bool) =>
  joinK (fun (t_233 : Bool) =>
  some t_233) fun jt_233 => iteK t_226 (Option.bind (Go.Proofs.YtpcdaoeijlifmaaDoor.GiAreCombs.P t_5a) fun (t_229 : Bool) =>
  Option.bind (Go.Proofs.YtpcdaoeijlifmaaDoor.GsAreCombs.P t_5a) fun (t_231 : Bool) =>
  letK (t_229 == t_231) fun (t_232 : Bool) =>
  appK jt_233 t_232) (appK jt_233 false)) fun jt_226 => iteK t_221 (letK (t_196b == t_203b) fun (t_225 : Bool) =>
  appK jt_226 t_225) (appK jt_226 false)) fun jt_221 => iteK t_216 (letK (t_196a.toList == t_203a.toList) fun (t_220 : Bool) =>
  appK jt_221 t_220) (appK jt_221 false)) fun jt_216 => iteK t_211 (letK (t_178b == t_185b) fun (t_215 : Bool) =>
  appK jt_216 t_215) (appK jt_216 false))) fun jt_172 => iteK t_126b (letK (sum_23l1 != (t_5a.length : Int)) fun (t_171 : Bool) =>
  appK jt_172 t_171) (appK jt_172 false)

def e0 (code : (List Int)) (tapes : List Int → Go.Proofs.YtpcdaoeijlifmaaDoor.GoC.Tape) (t_5a : (List Go.Proofs.YtpcdaoeijlifmaaDoor.PComb.Comb)) (s : Int) : Option (Bool) :=
  letK s fun i_17l0 =>
  bind2 (Go.Proofs.YtpcdaoeijlifmaaDoor.GiSameGauges.P t_5a) fun (t_126a : (List (List Int))) (t_126b : Bool) =>
  bind2 (Go.Proofs.YtpcdaoeijlifmaaDoor.GsSameGauges.P t_5a) fun (t_133a : (List (List Int))) (t_133b : Bool) =>
  letK (!(t_126b == t_133b)) fun (t_141 : Bool) =>
  joinK (fun (t_147 : Bool) =>
  iteK t_147
  (some false)
  (cntK (l1 t_126a) (t_126a.length) 0 (0) (e1 code tapes t_5a t_126b))) fun jt_147 => iteK t_141 (appK jt_147 true) (Option.bind (Go.Proofs.YtpcdaoeijlifmaaDoor.GlRTable.P t_126a t_133a) fun (t_145 : Bool) =>
  letK (!t_145) fun (t_146 : Bool) =>
  appK jt_147 t_146)

def P (fuel : Nat) (tapes : List Int → Go.Proofs.YtpcdaoeijlifmaaDoor.GoC.Tape) (code : (List Int)) : Option (Bool) :=
  Option.bind (Go.Proofs.YtpcdaoeijlifmaaDoor.GlRBig.P code) fun (t_2 : Bool) =>
  iteK t_2
  (some true)
  (bind4 (Go.Proofs.YtpcdaoeijlifmaaDoor.GsDrawMatchCombs.P fuel tapes code) fun (t_5a : (List Go.Proofs.YtpcdaoeijlifmaaDoor.PComb.Comb)) (t_5b : Int) (t_5c : Int) (t_5d : Int) =>
  bind2 (Go.Proofs.YtpcdaoeijlifmaaDoor.GiMatchCombs.P t_5a t_5b t_5c t_5d) fun (t_19a : (List Int)) (t_19b : Bool) =>
  bind2 (Go.Proofs.YtpcdaoeijlifmaaDoor.GsMatchCombs.P t_5a t_5b t_5c t_5d) fun (t_29a : (List Int)) (t_29b : Bool) =>
  letK (!(t_19b == t_29b)) fun (t_37 : Bool) =>
  joinK (fun (t_43 : Bool) =>
  iteK t_43
  (some false)
  (bind2 (Go.Proofs.YtpcdaoeijlifmaaDoor.GiTurnedCombs.P t_5a t_5b t_5c t_5d) fun (t_49a : (List Int)) (t_49b : Bool) =>
  bind2 (Go.Proofs.YtpcdaoeijlifmaaDoor.GsTurnedCombs.P t_5a t_5b t_5c t_5d) fun (t_59a : (List Int)) (t_59b : Bool) =>
  letK (!(t_49b == t_59b)) fun (t_67 : Bool) =>
  joinK (fun (t_72 : Bool) =>
  joinK (fun (t_78 : Bool) =>
  iteK t_78
  (some false)
  (bind2 (Go.Proofs.YtpcdaoeijlifmaaDoor.GiMatchCombs.P t_5a t_5c t_5b t_5d) fun (t_84a : (List Int)) (t_84b : Bool) =>
  letK (!(t_84b == t_19b)) fun (t_92 : Bool) =>
  iteK t_92
  (some false)
  (loopK (l0 t_5a t_19a t_19b t_49a t_84a) fuel (0) (e0 code tapes t_5a)))) fun jt_78 => iteK t_72 (appK jt_78 true) (Option.bind (Go.Proofs.YtpcdaoeijlifmaaDoor.GlRInts.P t_49a t_59a) fun (t_76 : Bool) =>
  letK (!t_76) fun (t_77 : Bool) =>
  appK jt_78 t_77)) fun jt_72 => iteK t_67 (appK jt_72 true) (letK (!(t_49b == t_19b)) fun (t_71 : Bool) =>
  appK jt_72 t_71))) fun jt_43 => iteK t_37 (appK jt_43 true) (Option.bind (Go.Proofs.YtpcdaoeijlifmaaDoor.GlRInts.P t_19a t_29a) fun (t_41 : Bool) =>
  letK (!t_41) fun (t_42 : Bool) =>
  appK jt_43 t_42))

set_option maxRecDepth 100000 in
set_option maxHeartbeats 2000000 in
theorem C (fuel : Nat) (tapes : List Int → Go.Proofs.YtpcdaoeijlifmaaDoor.GoC.Tape) (code : (List Int)) (A0 : Option Addr) (c0 : Nat)  (w : World) (HT : Hid (Tab w)) (HE : Hid (Go.Proofs.YtpcdaoeijlifmaaDoor.GoC.Tells tapes)) (M0 : Hid (Cells w 1 A0 code.length (Go.Proofs.YtpcdaoeijlifmaaDoor.GoC.u8s code))) (N0 : Hid (code.length ≤ 9223372036854775807)) (V0 : Hid (∀ z ∈ code, 0 ≤ z ∧ z ≤ 255))  {r : Bool} (H : Hid (P fuel tapes code = some r)) :
    Calls Tryd.prog 5 #[.slice A0 code.length c0] w (Gives (.bool r) w) := by
  have HB := Lib.hid (Below.refl w.heap.size w)
  unfold P at H
  have N0o := N0.out
  go_enter Tryd.func5, Tryd.ntmps5
  replace H := bind_hid H
  obtain ⟨t_2, qt_2, H⟩ := H
  go_wp2_with fail
  go_at_call 12
  refine (Go.Proofs.YtpcdaoeijlifmaaDoor.GlRBig.C (code) A0 c0 _   (Lib.hid (Cells.below M0.out HB.out)) N0 V0 qt_2).mono ?_
  rintro e_t_2 wt_2 ⟨rfl, bt_2⟩
  have HBwt_2 := Lib.hid (Below.step HB.out bt_2)
  clear bt_2
  cases t_2 with
  | false =>
    replace H := ite_f H
    replace H := bind4_hid H
    obtain ⟨t_5a, t_5b, t_5c, t_5d, qt_5, H⟩ := H
    go_wp2_with fail
    go_at_call 13
    refine (Go.Proofs.YtpcdaoeijlifmaaDoor.GsDrawMatchCombs.C fuel tapes (code) A0 c0 _  HE (Lib.hid (Cells.below M0.out HBwt_2.out)) N0 V0 qt_5).mono ?_
    rintro e_t_5 wt_5 ⟨At_5a, ct_5a, rfl, ot_5a, bt_5⟩
    have Ot_5a := Lib.hid (own_lower ot_5a HBwt_2.out.size)
    clear ot_5a
    have HBwt_5 := Lib.hid (Below.step HBwt_2.out bt_5)
    clear bt_5
    replace H := bind2_hid H
    obtain ⟨t_19a, t_19b, qt_19, H⟩ := H
    go_wp2_with fail
    go_at_call 14
    refine (Go.Proofs.YtpcdaoeijlifmaaDoor.GiMatchCombs.C (t_5a) (t_5b) (t_5c) (t_5d) At_5a ct_5a _   (Lib.hid (own_cells Ot_5a.out)) (Lib.hid (own_max Ot_5a.out)) qt_19).mono ?_
    rintro e_t_19 wt_19 ⟨At_19a, ct_19a, rfl, ot_19a, bt_19⟩
    have Dt_19a_t_5a := Lib.hid (apart_call ot_19a Ot_5a.out)
    have Ot_19a := Lib.hid (own_lower ot_19a HBwt_5.out.size)
    clear ot_19a
    have HBwt_19 := Lib.hid (Below.step HBwt_5.out bt_19)
    replace Ot_5a := Lib.hid (own_below Ot_5a.out bt_19)
    clear bt_19
    replace H := bind2_hid H
    obtain ⟨t_29a, t_29b, qt_29, H⟩ := H
    go_wp2_with fail
    go_at_call 15
    refine (Go.Proofs.YtpcdaoeijlifmaaDoor.GsMatchCombs.C (t_5a) (t_5b) (t_5c) (t_5d) At_5a ct_5a _   (Lib.hid (own_cells Ot_5a.out)) (Lib.hid (own_max Ot_5a.out)) qt_29).mono ?_
    rintro e_t_29 wt_29 ⟨At_29a, ct_29a, rfl, ot_29a, bt_29⟩
    have Dt_29a_t_5a := Lib.hid (apart_call ot_29a Ot_5a.out)
    have Dt_29a_t_19a := Lib.hid (apart_call ot_29a Ot_19a.out)
    have Ot_29a := Lib.hid (own_lower ot_29a HBwt_19.out.size)
    clear ot_29a
    have HBwt_29 := Lib.hid (Below.step HBwt_19.out bt_29)
    replace Ot_5a := Lib.hid (own_below Ot_5a.out bt_29)
    replace Ot_19a := Lib.hid (own_below Ot_19a.out bt_29)
    clear bt_29
    replace H := let_hid H
    obtain ⟨t_37, ht_37, H⟩ := H
    replace H := join_hid H
    cases t_37 with
    | false =>
      replace H := ite_f H
      replace H := bind_hid H
      obtain ⟨t_41, qt_41, H⟩ := H
      go_wp2_with fail
      go_at_call 16
      refine (Go.Proofs.YtpcdaoeijlifmaaDoor.GlRInts.C (t_19a) (t_29a) At_19a ct_19a At_29a ct_29a _   (Lib.hid (own_cells Ot_19a.out)) (Lib.hid (own_max Ot_19a.out)) (Lib.hid (own_cells Ot_29a.out)) (Lib.hid (own_max Ot_29a.out)) qt_41).mono ?_
      rintro e_t_41 wt_41 ⟨rfl, bt_41⟩
      have HBwt_41 := Lib.hid (Below.step HBwt_29.out bt_41)
      replace Ot_5a := Lib.hid (own_below Ot_5a.out bt_41)
      replace Ot_19a := Lib.hid (own_below Ot_19a.out bt_41)
      replace Ot_29a := Lib.hid (own_below Ot_29a.out bt_41)
      clear bt_41
      cases t_41 with
      | false =>
        replace H := let_hid H
        obtain ⟨t_42, ht_42, H⟩ := H
        obtain rfl : t_42 = true := ht_42.symm
        replace H := app_hid H
        replace H := ite_t H
        obtain rfl := ret_hid H
        go_wp2_with fail
        go_ret
        exact ⟨rfl, HBwt_41.out⟩
      | true =>
        replace H := let_hid H
        obtain ⟨t_42, ht_42, H⟩ := H
        obtain rfl : t_42 = false := ht_42.symm
        replace H := app_hid H
        replace H := ite_f H
        replace H := bind2_hid H
        obtain ⟨t_49a, t_49b, qt_49, H⟩ := H
        go_wp2_with fail
        go_at_call 17
        refine (Go.Proofs.YtpcdaoeijlifmaaDoor.GiTurnedCombs.C (t_5a) (t_5b) (t_5c) (t_5d) At_5a ct_5a _   (Lib.hid (own_cells Ot_5a.out)) (Lib.hid (own_max Ot_5a.out)) qt_49).mono ?_
        rintro e_t_49 wt_49 ⟨At_49a, ct_49a, rfl, ot_49a, bt_49⟩
        have Dt_49a_t_5a := Lib.hid (apart_call ot_49a Ot_5a.out)
        have Dt_49a_t_19a := Lib.hid (apart_call ot_49a Ot_19a.out)
        have Dt_49a_t_29a := Lib.hid (apart_call ot_49a Ot_29a.out)
        have Ot_49a := Lib.hid (own_lower ot_49a HBwt_41.out.size)
        clear ot_49a
        have HBwt_49 := Lib.hid (Below.step HBwt_41.out bt_49)
        replace Ot_5a := Lib.hid (own_below Ot_5a.out bt_49)
        replace Ot_19a := Lib.hid (own_below Ot_19a.out bt_49)
        replace Ot_29a := Lib.hid (own_below Ot_29a.out bt_49)
        clear bt_49
        replace H := bind2_hid H
        obtain ⟨t_59a, t_59b, qt_59, H⟩ := H
        go_wp2_with fail
        go_at_call 18
        refine (Go.Proofs.YtpcdaoeijlifmaaDoor.GsTurnedCombs.C (t_5a) (t_5b) (t_5c) (t_5d) At_5a ct_5a _   (Lib.hid (own_cells Ot_5a.out)) (Lib.hid (own_max Ot_5a.out)) qt_59).mono ?_
        rintro e_t_59 wt_59 ⟨At_59a, ct_59a, rfl, ot_59a, bt_59⟩
        have Dt_59a_t_5a := Lib.hid (apart_call ot_59a Ot_5a.out)
        have Dt_59a_t_19a := Lib.hid (apart_call ot_59a Ot_19a.out)
        have Dt_59a_t_29a := Lib.hid (apart_call ot_59a Ot_29a.out)
        have Dt_59a_t_49a := Lib.hid (apart_call ot_59a Ot_49a.out)
        have Ot_59a := Lib.hid (own_lower ot_59a HBwt_49.out.size)
        clear ot_59a
        have HBwt_59 := Lib.hid (Below.step HBwt_49.out bt_59)
        replace Ot_5a := Lib.hid (own_below Ot_5a.out bt_59)
        replace Ot_19a := Lib.hid (own_below Ot_19a.out bt_59)
        replace Ot_29a := Lib.hid (own_below Ot_29a.out bt_59)
        replace Ot_49a := Lib.hid (own_below Ot_49a.out bt_59)
        clear bt_59
        replace H := let_hid H
        obtain ⟨t_67, ht_67, H⟩ := H
        replace H := join_hid H
        cases t_67 with
        | false =>
          replace H := ite_f H
          replace H := let_hid H
          obtain ⟨t_71, ht_71, H⟩ := H
          replace H := app_hid H
          replace H := join_hid H
          cases t_71 with
          | false =>
            replace H := ite_f H
            replace H := bind_hid H
            obtain ⟨t_76, qt_76, H⟩ := H
            go_wp2_with fail
            go_at_call 16
            refine (Go.Proofs.YtpcdaoeijlifmaaDoor.GlRInts.C (t_49a) (t_59a) At_49a ct_49a At_59a ct_59a _   (Lib.hid (own_cells Ot_49a.out)) (Lib.hid (own_max Ot_49a.out)) (Lib.hid (own_cells Ot_59a.out)) (Lib.hid (own_max Ot_59a.out)) qt_76).mono ?_
            rintro e_t_76 wt_76 ⟨rfl, bt_76⟩
            have HBwt_76 := Lib.hid (Below.step HBwt_59.out bt_76)
            replace Ot_5a := Lib.hid (own_below Ot_5a.out bt_76)
            replace Ot_19a := Lib.hid (own_below Ot_19a.out bt_76)
            replace Ot_29a := Lib.hid (own_below Ot_29a.out bt_76)
            replace Ot_49a := Lib.hid (own_below Ot_49a.out bt_76)
            replace Ot_59a := Lib.hid (own_below Ot_59a.out bt_76)
            clear bt_76
            cases t_76 with
            | false =>
              replace H := let_hid H
              obtain ⟨t_77, ht_77, H⟩ := H
              obtain rfl : t_77 = true := ht_77.symm
              replace H := app_hid H
              replace H := ite_t H
              obtain rfl := ret_hid H
              go_wp2_with fail
              go_ret
              exact ⟨rfl, HBwt_76.out⟩
            | true =>
              replace H := let_hid H
              obtain ⟨t_77, ht_77, H⟩ := H
              obtain rfl : t_77 = false := ht_77.symm
              replace H := app_hid H
              replace H := ite_f H
              replace H := bind2_hid H
              obtain ⟨t_84a, t_84b, qt_84, H⟩ := H
              go_wp2_with fail
              go_at_call 14
              refine (Go.Proofs.YtpcdaoeijlifmaaDoor.GiMatchCombs.C (t_5a) (t_5c) (t_5b) (t_5d) At_5a ct_5a _   (Lib.hid (own_cells Ot_5a.out)) (Lib.hid (own_max Ot_5a.out)) qt_84).mono ?_
              rintro e_t_84 wt_84 ⟨At_84a, ct_84a, rfl, ot_84a, bt_84⟩
              have Dt_84a_t_5a := Lib.hid (apart_call ot_84a Ot_5a.out)
              have Dt_84a_t_19a := Lib.hid (apart_call ot_84a Ot_19a.out)
              have Dt_84a_t_29a := Lib.hid (apart_call ot_84a Ot_29a.out)
              have Dt_84a_t_49a := Lib.hid (apart_call ot_84a Ot_49a.out)
              have Dt_84a_t_59a := Lib.hid (apart_call ot_84a Ot_59a.out)
              have Ot_84a := Lib.hid (own_lower ot_84a HBwt_76.out.size)
              clear ot_84a
              have HBwt_84 := Lib.hid (Below.step HBwt_76.out bt_84)
              replace Ot_5a := Lib.hid (own_below Ot_5a.out bt_84)
              replace Ot_19a := Lib.hid (own_below Ot_19a.out bt_84)
              replace Ot_29a := Lib.hid (own_below Ot_29a.out bt_84)
              replace Ot_49a := Lib.hid (own_below Ot_49a.out bt_84)
              replace Ot_59a := Lib.hid (own_below Ot_59a.out bt_84)
              clear bt_84
              replace H := let_hid H
              obtain ⟨t_92, ht_92, H⟩ := H
              cases t_92 with
              | false =>
                replace H := ite_f H
                go_wp2_with fail
                go_loopg [17] (fuel) (fun m_ v17_ wr => ∃ (i_17l0 : Int), v17_ = .int .i64 i_17l0 ∧ Hid (loopK (l0 t_5a t_19a t_19b t_49a t_84a) m_ (i_17l0) (e0 code tapes t_5a) = some r) ∧ Hid (Below w.heap.size w wr) ∧ Hid (wr.ownsRow w.heap.size 43 4 (.slice At_5a t_5a.length ct_5a) t_5a.length (Go.Proofs.YtpcdaoeijlifmaaDoor.PComb.flat t_5a)) ∧ Hid (wr.ownsRow w.heap.size 3 1 (.slice At_19a t_19a.length ct_19a) t_19a.length (Go.Proofs.YtpcdaoeijlifmaaDoor.HelpInt.iv t_19a)) ∧ Hid (wr.ownsRow w.heap.size 3 1 (.slice At_29a t_29a.length ct_29a) t_29a.length (Go.Proofs.YtpcdaoeijlifmaaDoor.HelpInt.iv t_29a)) ∧ Hid (wr.ownsRow w.heap.size 3 1 (.slice At_49a t_49a.length ct_49a) t_49a.length (Go.Proofs.YtpcdaoeijlifmaaDoor.HelpInt.iv t_49a)) ∧ Hid (wr.ownsRow w.heap.size 3 1 (.slice At_59a t_59a.length ct_59a) t_59a.length (Go.Proofs.YtpcdaoeijlifmaaDoor.HelpInt.iv t_59a)) ∧ Hid (wr.ownsRow w.heap.size 3 1 (.slice At_84a t_84a.length ct_84a) t_84a.length (Go.Proofs.YtpcdaoeijlifmaaDoor.HelpInt.iv t_84a)))
                case atStart => exact ⟨_, rfl, H, HBwt_84, Ot_5a, Ot_19a, Ot_29a, Ot_49a, Ot_59a, Ot_84a⟩
                case round =>
                  obtain ⟨i_17l0, rfl, H, HBwr0, Ot_5a, Ot_19a, Ot_29a, Ot_49a, Ot_59a, Ot_84a⟩ := hrel
                  rename World => wr0
                  cases gk with
                  | zero => exact (loop_zero H).elim
                  | succ m0 =>
                    replace H := loop_succ H
                    unfold l0 at H
                    replace H := let_hid H
                    obtain ⟨_, rfl, H⟩ := H
                    replace H := let_hid H
                    obtain ⟨t_98, ht_98, H⟩ := H
                    replace H := join_hid H
                    cases t_98 with
                    | false =>
                      replace H := ite_f H
                      replace H := app_hid H
                      replace H := ite_f H
                      replace H := app_hid H
                      unfold e0 at H
                      replace H := let_hid H
                      obtain ⟨_, rfl, H⟩ := H
                      replace H := bind2_hid H
                      obtain ⟨t_126a, t_126b, qt_126, H⟩ := H
                      go_wp2_with fail
                      go_at_call 20
                      refine (Go.Proofs.YtpcdaoeijlifmaaDoor.GiSameGauges.C (t_5a) At_5a ct_5a _   (Lib.hid (own_cells Ot_5a.out)) (Lib.hid (own_max Ot_5a.out)) (Lib.hid (own_room Ot_5a.out)) qt_126).mono ?_
                      rintro e_t_126 wt_126 ⟨At_126a, ct_126a, rfl, ⟨Bt_126a, ot_126a⟩, bt_126⟩
                      have Dt_126a_t_5a := Lib.hid (Go.Proofs.YtpcdaoeijlifmaaDoor.GoN.nest_callrow ot_126a Ot_5a.out)
                      have Dt_126a_t_19a := Lib.hid (Go.Proofs.YtpcdaoeijlifmaaDoor.GoN.nest_callrow ot_126a Ot_19a.out)
                      have Dt_126a_t_29a := Lib.hid (Go.Proofs.YtpcdaoeijlifmaaDoor.GoN.nest_callrow ot_126a Ot_29a.out)
                      have Dt_126a_t_49a := Lib.hid (Go.Proofs.YtpcdaoeijlifmaaDoor.GoN.nest_callrow ot_126a Ot_49a.out)
                      have Dt_126a_t_59a := Lib.hid (Go.Proofs.YtpcdaoeijlifmaaDoor.GoN.nest_callrow ot_126a Ot_59a.out)
                      have Dt_126a_t_84a := Lib.hid (Go.Proofs.YtpcdaoeijlifmaaDoor.GoN.nest_callrow ot_126a Ot_84a.out)
                      have Ot_126a := Lib.hid (Go.Proofs.YtpcdaoeijlifmaaDoor.GoN.nest_lower ot_126a HBwr0.out.size)
                      clear ot_126a
                      have HBwt_126 := Lib.hid (Below.step HBwr0.out bt_126)
                      replace Ot_5a := Lib.hid (own_below Ot_5a.out bt_126)
                      replace Ot_19a := Lib.hid (own_below Ot_19a.out bt_126)
                      replace Ot_29a := Lib.hid (own_below Ot_29a.out bt_126)
                      replace Ot_49a := Lib.hid (own_below Ot_49a.out bt_126)
                      replace Ot_59a := Lib.hid (own_below Ot_59a.out bt_126)
                      replace Ot_84a := Lib.hid (own_below Ot_84a.out bt_126)
                      clear bt_126
                      replace H := bind2_hid H
                      obtain ⟨t_133a, t_133b, qt_133, H⟩ := H
                      go_wp2_with fail
                      go_at_call 21
                      refine (Go.Proofs.YtpcdaoeijlifmaaDoor.GsSameGauges.C (t_5a) At_5a ct_5a _   (Lib.hid (own_cells Ot_5a.out)) (Lib.hid (own_max Ot_5a.out)) qt_133).mono ?_
                      rintro e_t_133 wt_133 ⟨At_133a, ct_133a, rfl, ⟨Bt_133a, ot_133a⟩, bt_133⟩
                      have Dt_133a_t_5a := Lib.hid (Go.Proofs.YtpcdaoeijlifmaaDoor.GoN.nest_callrow ot_133a Ot_5a.out)
                      have Dt_133a_t_19a := Lib.hid (Go.Proofs.YtpcdaoeijlifmaaDoor.GoN.nest_callrow ot_133a Ot_19a.out)
                      have Dt_133a_t_29a := Lib.hid (Go.Proofs.YtpcdaoeijlifmaaDoor.GoN.nest_callrow ot_133a Ot_29a.out)
                      have Dt_133a_t_49a := Lib.hid (Go.Proofs.YtpcdaoeijlifmaaDoor.GoN.nest_callrow ot_133a Ot_49a.out)
                      have Dt_133a_t_59a := Lib.hid (Go.Proofs.YtpcdaoeijlifmaaDoor.GoN.nest_callrow ot_133a Ot_59a.out)
                      have Dt_133a_t_84a := Lib.hid (Go.Proofs.YtpcdaoeijlifmaaDoor.GoN.nest_callrow ot_133a Ot_84a.out)
                      have Dt_133a_t_126a := Lib.hid (Go.Proofs.YtpcdaoeijlifmaaDoor.GoN.nest_callnest ot_133a Ot_126a.out)
                      have Ot_133a := Lib.hid (Go.Proofs.YtpcdaoeijlifmaaDoor.GoN.nest_lower ot_133a HBwt_126.out.size)
                      clear ot_133a
                      have HBwt_133 := Lib.hid (Below.step HBwt_126.out bt_133)
                      replace Ot_5a := Lib.hid (own_below Ot_5a.out bt_133)
                      replace Ot_19a := Lib.hid (own_below Ot_19a.out bt_133)
                      replace Ot_29a := Lib.hid (own_below Ot_29a.out bt_133)
                      replace Ot_49a := Lib.hid (own_below Ot_49a.out bt_133)
                      replace Ot_59a := Lib.hid (own_below Ot_59a.out bt_133)
                      replace Ot_84a := Lib.hid (own_below Ot_84a.out bt_133)
                      replace Ot_126a := Lib.hid (Go.Proofs.YtpcdaoeijlifmaaDoor.GoN.nest_below Ot_126a.out bt_133)
                      clear bt_133
                      replace H := let_hid H
                      obtain ⟨t_141, ht_141, H⟩ := H
                      replace H := join_hid H
                      cases t_141 with
                      | false =>
                        replace H := ite_f H
                        replace H := bind_hid H
                        obtain ⟨t_145, qt_145, H⟩ := H
                        go_wp2_with fail
                        go_at_call 22
                        refine (Go.Proofs.YtpcdaoeijlifmaaDoor.GlRTable.C (t_126a) (t_133a) At_126a ct_126a At_133a ct_133a _   (Lib.hid (Go.Proofs.YtpcdaoeijlifmaaDoor.GoN.nest_read Ot_126a.out)) (Lib.hid (Go.Proofs.YtpcdaoeijlifmaaDoor.GoN.nest_max Ot_126a.out)) (Lib.hid (Go.Proofs.YtpcdaoeijlifmaaDoor.GoN.nest_read Ot_133a.out)) (Lib.hid (Go.Proofs.YtpcdaoeijlifmaaDoor.GoN.nest_max Ot_133a.out)) qt_145).mono ?_
                        rintro e_t_145 wt_145 ⟨rfl, bt_145⟩
                        have HBwt_145 := Lib.hid (Below.step HBwt_133.out bt_145)
                        replace Ot_5a := Lib.hid (own_below Ot_5a.out bt_145)
                        replace Ot_19a := Lib.hid (own_below Ot_19a.out bt_145)
                        replace Ot_29a := Lib.hid (own_below Ot_29a.out bt_145)
                        replace Ot_49a := Lib.hid (own_below Ot_49a.out bt_145)
                        replace Ot_59a := Lib.hid (own_below Ot_59a.out bt_145)
                        replace Ot_84a := Lib.hid (own_below Ot_84a.out bt_145)
                        replace Ot_126a := Lib.hid (Go.Proofs.YtpcdaoeijlifmaaDoor.GoN.nest_below Ot_126a.out bt_145)
                        replace Ot_133a := Lib.hid (Go.Proofs.YtpcdaoeijlifmaaDoor.GoN.nest_below Ot_133a.out bt_145)
                        clear bt_145
                        cases t_145 with
                        | false =>
                          replace H := let_hid H
                          obtain ⟨t_146, ht_146, H⟩ := H
                          obtain rfl : t_146 = true := ht_146.symm
                          replace H := app_hid H
                          replace H := ite_t H
                          obtain rfl := ret_hid H
                          go_wp2_with fail
                          go_ret
                          exact ⟨rfl, HBwt_145.out⟩
                        | true =>
                          replace H := let_hid H
                          obtain ⟨t_146, ht_146, H⟩ := H
                          obtain rfl : t_146 = false := ht_146.symm
                          replace H := app_hid H
                          replace H := ite_f H
                          have hb_1 : t_126a.length ≤ 9223372036854775807 := Go.Proofs.YtpcdaoeijlifmaaDoor.GoN.nest_max Ot_126a.out
                          go_wp2_with fail
                          go_loopg [24, 23] (t_126a.length) (fun m_ v24_ v23_ wr => ∃ (k1 : Nat) (sum_23l1 : Int), k1 + m_ = t_126a.length ∧ v24_ = .int .i64 (k1 : Int) ∧ v23_ = .int .i64 sum_23l1 ∧ Hid (cntK (l1 t_126a) m_ k1 (sum_23l1) (e1 code tapes t_5a t_126b) = some r) ∧ Hid (Below w.heap.size w wr) ∧ Hid (wr.ownsRow w.heap.size 43 4 (.slice At_5a t_5a.length ct_5a) t_5a.length (Go.Proofs.YtpcdaoeijlifmaaDoor.PComb.flat t_5a)) ∧ Hid (wr.ownsRow w.heap.size 3 1 (.slice At_19a t_19a.length ct_19a) t_19a.length (Go.Proofs.YtpcdaoeijlifmaaDoor.HelpInt.iv t_19a)) ∧ Hid (wr.ownsRow w.heap.size 3 1 (.slice At_29a t_29a.length ct_29a) t_29a.length (Go.Proofs.YtpcdaoeijlifmaaDoor.HelpInt.iv t_29a)) ∧ Hid (wr.ownsRow w.heap.size 3 1 (.slice At_49a t_49a.length ct_49a) t_49a.length (Go.Proofs.YtpcdaoeijlifmaaDoor.HelpInt.iv t_49a)) ∧ Hid (wr.ownsRow w.heap.size 3 1 (.slice At_59a t_59a.length ct_59a) t_59a.length (Go.Proofs.YtpcdaoeijlifmaaDoor.HelpInt.iv t_59a)) ∧ Hid (wr.ownsRow w.heap.size 3 1 (.slice At_84a t_84a.length ct_84a) t_84a.length (Go.Proofs.YtpcdaoeijlifmaaDoor.HelpInt.iv t_84a)) ∧ Hid (Go.Proofs.YtpcdaoeijlifmaaDoor.GoN.OwnNest wr (w.heap.size) 38 3 1 Go.Proofs.YtpcdaoeijlifmaaDoor.HelpInt.iv At_126a ct_126a t_126a Bt_126a) ∧ Hid (Go.Proofs.YtpcdaoeijlifmaaDoor.GoN.OwnNest wr (w.heap.size) 38 3 1 Go.Proofs.YtpcdaoeijlifmaaDoor.HelpInt.iv At_133a ct_133a t_133a Bt_133a))
                          case atStart => exact ⟨0, _, by omega, rfl, rfl, H, HBwt_145, Ot_5a, Ot_19a, Ot_29a, Ot_49a, Ot_59a, Ot_84a, Ot_126a, Ot_133a⟩
                          case round =>
                            obtain ⟨k1, sum_23l1, hkm1, rfl, rfl, H, HBwr1, Ot_5a, Ot_19a, Ot_29a, Ot_49a, Ot_59a, Ot_84a, Ot_126a, Ot_133a⟩ := hrel
                            rename World => wr1
                            cases gk with
                            | zero =>
                              obtain rfl : k1 = t_126a.length := by omega
                              have hc1 : decide (((t_126a.length : Nat) : Int) < ((t_126a.length : Nat) : Int)) = false := by simp
                              replace H := cnt_zero H
                              unfold e1 at H
                              replace H := let_hid H
                              obtain ⟨_, rfl, H⟩ := H
                              replace H := join_hid H
                              cases t_126b with
                              | false =>
                                obtain rfl : t_133b = false := by revert ht_141; cases t_133b <;> simp
                                replace H := ite_f H
                                replace H := app_hid H
                                replace H := ite_f H
                                replace H := bind_hid H
                                obtain ⟨t_175, qt_175, H⟩ := H
                                go_wp2_with fail
                                go_at_call 23
                                refine (Go.Proofs.YtpcdaoeijlifmaaDoor.GsDrawGaugeText.C tapes (code) A0 c0 _  HE (Lib.hid (Cells.below M0.out HBwr1.out)) N0 V0 qt_175).mono ?_
                                rintro e_t_175 wt_175 ⟨rfl, bt_175⟩
                                have HBwt_175 := Lib.hid (Below.step HBwr1.out bt_175)
                                replace Ot_5a := Lib.hid (own_below Ot_5a.out bt_175)
                                replace Ot_19a := Lib.hid (own_below Ot_19a.out bt_175)
                                replace Ot_29a := Lib.hid (own_below Ot_29a.out bt_175)
                                replace Ot_49a := Lib.hid (own_below Ot_49a.out bt_175)
                                replace Ot_59a := Lib.hid (own_below Ot_59a.out bt_175)
                                replace Ot_84a := Lib.hid (own_below Ot_84a.out bt_175)
                                replace Ot_126a := Lib.hid (Go.Proofs.YtpcdaoeijlifmaaDoor.GoN.nest_below Ot_126a.out bt_175)
                                replace Ot_133a := Lib.hid (Go.Proofs.YtpcdaoeijlifmaaDoor.GoN.nest_below Ot_133a.out bt_175)
                                clear bt_175
                                replace H := bind2_hid H
                                obtain ⟨t_178a, t_178b, qt_178, H⟩ := H
                                go_wp2_with fail
                                go_at_call 24
                                refine (Go.Proofs.YtpcdaoeijlifmaaDoor.GiGaugeText.C (t_175)  _ (tab_below HBwt_175.out HT)   qt_178).mono ?_
                                rintro e_t_178 wt_178 ⟨rfl, bt_178⟩
                                have HBwt_178 := Lib.hid (Below.step HBwt_175.out bt_178)
                                replace Ot_5a := Lib.hid (own_below Ot_5a.out bt_178)
                                replace Ot_19a := Lib.hid (own_below Ot_19a.out bt_178)
                                replace Ot_29a := Lib.hid (own_below Ot_29a.out bt_178)
                                replace Ot_49a := Lib.hid (own_below Ot_49a.out bt_178)
                                replace Ot_59a := Lib.hid (own_below Ot_59a.out bt_178)
                                replace Ot_84a := Lib.hid (own_below Ot_84a.out bt_178)
                                replace Ot_126a := Lib.hid (Go.Proofs.YtpcdaoeijlifmaaDoor.GoN.nest_below Ot_126a.out bt_178)
                                replace Ot_133a := Lib.hid (Go.Proofs.YtpcdaoeijlifmaaDoor.GoN.nest_below Ot_133a.out bt_178)
                                clear bt_178
                                replace H := bind2_hid H
                                obtain ⟨t_185a, t_185b, qt_185, H⟩ := H
                                go_wp2_with fail
                                go_at_call 25
                                refine (Go.Proofs.YtpcdaoeijlifmaaDoor.GsGaugeText.C (t_175)  _    qt_185).mono ?_
                                rintro e_t_185 wt_185 ⟨rfl, bt_185⟩
                                have HBwt_185 := Lib.hid (Below.step HBwt_178.out bt_185)
                                replace Ot_5a := Lib.hid (own_below Ot_5a.out bt_185)
                                replace Ot_19a := Lib.hid (own_below Ot_19a.out bt_185)
                                replace Ot_29a := Lib.hid (own_below Ot_29a.out bt_185)
                                replace Ot_49a := Lib.hid (own_below Ot_49a.out bt_185)
                                replace Ot_59a := Lib.hid (own_below Ot_59a.out bt_185)
                                replace Ot_84a := Lib.hid (own_below Ot_84a.out bt_185)
                                replace Ot_126a := Lib.hid (Go.Proofs.YtpcdaoeijlifmaaDoor.GoN.nest_below Ot_126a.out bt_185)
                                replace Ot_133a := Lib.hid (Go.Proofs.YtpcdaoeijlifmaaDoor.GoN.nest_below Ot_133a.out bt_185)
                                clear bt_185
                                replace H := bind_hid H
                                obtain ⟨t_192, qt_192, H⟩ := H
                                obtain ⟨t_192_id, t_192_wide, t_192_high, t_192_line⟩ := t_192
                                replace H := unComb_hid H
                                go_wp2_with fail
                                go_at_call 26
                                refine (Go.Proofs.YtpcdaoeijlifmaaDoor.GsDrawCombText.C tapes (code) A0 c0 _  HE (Lib.hid (Cells.below M0.out HBwt_185.out)) N0 V0 qt_192).mono ?_
                                rintro e_t_192 wt_192 ⟨rfl, bt_192⟩
                                unfold Go.Proofs.YtpcdaoeijlifmaaDoor.PComb.Comb.val
                                have HBwt_192 := Lib.hid (Below.step HBwt_185.out bt_192)
                                replace Ot_5a := Lib.hid (own_below Ot_5a.out bt_192)
                                replace Ot_19a := Lib.hid (own_below Ot_19a.out bt_192)
                                replace Ot_29a := Lib.hid (own_below Ot_29a.out bt_192)
                                replace Ot_49a := Lib.hid (own_below Ot_49a.out bt_192)
                                replace Ot_59a := Lib.hid (own_below Ot_59a.out bt_192)
                                replace Ot_84a := Lib.hid (own_below Ot_84a.out bt_192)
                                replace Ot_126a := Lib.hid (Go.Proofs.YtpcdaoeijlifmaaDoor.GoN.nest_below Ot_126a.out bt_192)
                                replace Ot_133a := Lib.hid (Go.Proofs.YtpcdaoeijlifmaaDoor.GoN.nest_below Ot_133a.out bt_192)
                                clear bt_192
                                obtain ⟨w_x_193, hw_x_193⟩ : ∃ x, wt_192.alloc (.cells #[.int .i64 t_192_id, .int .i64 t_192_wide, .int .i64 t_192_high, .bool t_192_line] 43) = x := ⟨_, rfl⟩
                                have bw_x_193 : Below wt_192.heap.size wt_192 w_x_193 := by rw [← hw_x_193]; exact (Below.refl _ _).alloc (Nat.le_refl _) _
                                have Dx_193_t_5a := Lib.hid (apart_fresh Ot_5a.out)
                                have Dx_193_t_19a := Lib.hid (apart_fresh Ot_19a.out)
                                have Dx_193_t_29a := Lib.hid (apart_fresh Ot_29a.out)
                                have Dx_193_t_49a := Lib.hid (apart_fresh Ot_49a.out)
                                have Dx_193_t_59a := Lib.hid (apart_fresh Ot_59a.out)
                                have Dx_193_t_84a := Lib.hid (apart_fresh Ot_84a.out)
                                have Dx_193_t_126a := Lib.hid (Go.Proofs.YtpcdaoeijlifmaaDoor.GoN.nest_fresh Ot_126a.out)
                                have Dx_193_t_133a := Lib.hid (Go.Proofs.YtpcdaoeijlifmaaDoor.GoN.nest_fresh Ot_133a.out)
                                have HBw_x_193 := Lib.hid (Below.step HBwt_192.out bw_x_193)
                                replace Ot_5a := Lib.hid (own_below Ot_5a.out bw_x_193)
                                replace Ot_19a := Lib.hid (own_below Ot_19a.out bw_x_193)
                                replace Ot_29a := Lib.hid (own_below Ot_29a.out bw_x_193)
                                replace Ot_49a := Lib.hid (own_below Ot_49a.out bw_x_193)
                                replace Ot_59a := Lib.hid (own_below Ot_59a.out bw_x_193)
                                replace Ot_84a := Lib.hid (own_below Ot_84a.out bw_x_193)
                                replace Ot_126a := Lib.hid (Go.Proofs.YtpcdaoeijlifmaaDoor.GoN.nest_below Ot_126a.out bw_x_193)
                                replace Ot_133a := Lib.hid (Go.Proofs.YtpcdaoeijlifmaaDoor.GoN.nest_below Ot_133a.out bw_x_193)
                                clear bw_x_193
                                have kx_193_0 : w_x_193.cell? ⟨wt_192.heap.size, 0, none⟩ = some (.int .i64 t_192_id) := by rw [← hw_x_193]; exact box_new _ _ _ 0 _ rfl
                                have kx_193_1 : w_x_193.cell? ⟨wt_192.heap.size, 1, none⟩ = some (.int .i64 t_192_wide) := by rw [← hw_x_193]; exact box_new _ _ _ 1 _ rfl
                                have kx_193_2 : w_x_193.cell? ⟨wt_192.heap.size, 2, none⟩ = some (.int .i64 t_192_high) := by rw [← hw_x_193]; exact box_new _ _ _ 2 _ rfl
                                have kx_193_3 : w_x_193.cell? ⟨wt_192.heap.size, 3, none⟩ = some (.bool t_192_line) := by rw [← hw_x_193]; exact box_new _ _ _ 3 _ rfl
                                replace H := bind2_hid H
                                obtain ⟨t_196a, t_196b, qt_196, H⟩ := H
                                go_wp2_with fail
                                go_at_call 27
                                refine (Go.Proofs.YtpcdaoeijlifmaaDoor.GiCombText.C ((Go.Proofs.YtpcdaoeijlifmaaDoor.PComb.Comb.mk t_192_id t_192_wide t_192_high t_192_line))  _ (tab_below HBw_x_193.out HT)   qt_196).mono ?_
                                rintro e_t_196 wt_196 ⟨rfl, bt_196⟩
                                have HBwt_196 := Lib.hid (Below.step HBw_x_193.out bt_196)
                                replace kx_193_0 := cell_below bt_196 kx_193_0
                                replace kx_193_1 := cell_below bt_196 kx_193_1
                                replace kx_193_2 := cell_below bt_196 kx_193_2
                                replace kx_193_3 := cell_below bt_196 kx_193_3
                                replace Ot_5a := Lib.hid (own_below Ot_5a.out bt_196)
                                replace Ot_19a := Lib.hid (own_below Ot_19a.out bt_196)
                                replace Ot_29a := Lib.hid (own_below Ot_29a.out bt_196)
                                replace Ot_49a := Lib.hid (own_below Ot_49a.out bt_196)
                                replace Ot_59a := Lib.hid (own_below Ot_59a.out bt_196)
                                replace Ot_84a := Lib.hid (own_below Ot_84a.out bt_196)
                                replace Ot_126a := Lib.hid (Go.Proofs.YtpcdaoeijlifmaaDoor.GoN.nest_below Ot_126a.out bt_196)
                                replace Ot_133a := Lib.hid (Go.Proofs.YtpcdaoeijlifmaaDoor.GoN.nest_below Ot_133a.out bt_196)
                                clear bt_196
                                replace H := bind2_hid H
                                obtain ⟨t_203a, t_203b, qt_203, H⟩ := H
                                go_wp2_with fail
                                go_at_call 28
                                refine (Go.Proofs.YtpcdaoeijlifmaaDoor.GsCombText.C ((Go.Proofs.YtpcdaoeijlifmaaDoor.PComb.Comb.mk t_192_id t_192_wide t_192_high t_192_line))  _    qt_203).mono ?_
                                rintro e_t_203 wt_203 ⟨rfl, bt_203⟩
                                have HBwt_203 := Lib.hid (Below.step HBwt_196.out bt_203)
                                replace kx_193_0 := cell_below bt_203 kx_193_0
                                replace kx_193_1 := cell_below bt_203 kx_193_1
                                replace kx_193_2 := cell_below bt_203 kx_193_2
                                replace kx_193_3 := cell_below bt_203 kx_193_3
                                replace Ot_5a := Lib.hid (own_below Ot_5a.out bt_203)
                                replace Ot_19a := Lib.hid (own_below Ot_19a.out bt_203)
                                replace Ot_29a := Lib.hid (own_below Ot_29a.out bt_203)
                                replace Ot_49a := Lib.hid (own_below Ot_49a.out bt_203)
                                replace Ot_59a := Lib.hid (own_below Ot_59a.out bt_203)
                                replace Ot_84a := Lib.hid (own_below Ot_84a.out bt_203)
                                replace Ot_126a := Lib.hid (Go.Proofs.YtpcdaoeijlifmaaDoor.GoN.nest_below Ot_126a.out bt_203)
                                replace Ot_133a := Lib.hid (Go.Proofs.YtpcdaoeijlifmaaDoor.GoN.nest_below Ot_133a.out bt_203)
                                clear bt_203
                                replace H := let_hid H
                                obtain ⟨t_211, ht_211, H⟩ := H
                                replace H := join_hid H
                                cases t_211 with
                                | false =>
                                  replace H := ite_f H
                                  replace H := app_hid H
                                  replace H := join_hid H
                                  replace H := ite_f H
                                  replace H := app_hid H
                                  replace H := join_hid H
                                  replace H := ite_f H
                                  replace H := app_hid H
                                  replace H := join_hid H
                                  replace H := ite_f H
                                  replace H := app_hid H
                                  obtain rfl := ret_hid H
                                  go_wp2_with fail
                                  go_ret
                                  exact ⟨rfl, HBwt_203.out⟩
                                | true =>
                                  replace H := ite_t H
                                  replace H := let_hid H
                                  obtain ⟨t_215, ht_215, H⟩ := H
                                  replace H := app_hid H
                                  replace H := join_hid H
                                  cases t_215 with
                                  | false =>
                                    replace H := ite_f H
                                    replace H := app_hid H
                                    replace H := join_hid H
                                    replace H := ite_f H
                                    replace H := app_hid H
                                    replace H := join_hid H
                                    replace H := ite_f H
                                    replace H := app_hid H
                                    obtain rfl := ret_hid H
                                    go_wp2_with fail
                                    go_ret
                                    exact ⟨rfl, HBwt_203.out⟩
                                  | true =>
                                    replace H := ite_t H
                                    replace H := let_hid H
                                    obtain ⟨t_220, ht_220, H⟩ := H
                                    replace H := app_hid H
                                    replace H := join_hid H
                                    cases t_220 with
                                    | false =>
                                      replace H := ite_f H
                                      replace H := app_hid H
                                      replace H := join_hid H
                                      replace H := ite_f H
                                      replace H := app_hid H
                                      obtain rfl := ret_hid H
                                      go_wp2_with fail
                                      go_ret
                                      exact ⟨rfl, HBwt_203.out⟩
                                    | true =>
                                      replace H := ite_t H
                                      replace H := let_hid H
                                      obtain ⟨t_225, ht_225, H⟩ := H
                                      replace H := app_hid H
                                      replace H := join_hid H
                                      cases t_225 with
                                      | false =>
                                        replace H := ite_f H
                                        replace H := app_hid H
                                        obtain rfl := ret_hid H
                                        go_wp2_with fail
                                        go_ret
                                        exact ⟨rfl, HBwt_203.out⟩
                                      | true =>
                                        replace H := ite_t H
                                        replace H := bind_hid H
                                        obtain ⟨t_229, qt_229, H⟩ := H
                                        go_wp2_with fail
                                        go_at_call 29
                                        refine (Go.Proofs.YtpcdaoeijlifmaaDoor.GiAreCombs.C (t_5a) At_5a ct_5a _   (Lib.hid (own_cells Ot_5a.out)) (Lib.hid (own_max Ot_5a.out)) qt_229).mono ?_
                                        rintro e_t_229 wt_229 ⟨rfl, bt_229⟩
                                        have HBwt_229 := Lib.hid (Below.step HBwt_203.out bt_229)
                                        replace kx_193_0 := cell_below bt_229 kx_193_0
                                        replace kx_193_1 := cell_below bt_229 kx_193_1
                                        replace kx_193_2 := cell_below bt_229 kx_193_2
                                        replace kx_193_3 := cell_below bt_229 kx_193_3
                                        replace Ot_5a := Lib.hid (own_below Ot_5a.out bt_229)
                                        replace Ot_19a := Lib.hid (own_below Ot_19a.out bt_229)
                                        replace Ot_29a := Lib.hid (own_below Ot_29a.out bt_229)
                                        replace Ot_49a := Lib.hid (own_below Ot_49a.out bt_229)
                                        replace Ot_59a := Lib.hid (own_below Ot_59a.out bt_229)
                                        replace Ot_84a := Lib.hid (own_below Ot_84a.out bt_229)
                                        replace Ot_126a := Lib.hid (Go.Proofs.YtpcdaoeijlifmaaDoor.GoN.nest_below Ot_126a.out bt_229)
                                        replace Ot_133a := Lib.hid (Go.Proofs.YtpcdaoeijlifmaaDoor.GoN.nest_below Ot_133a.out bt_229)
                                        clear bt_229
                                        replace H := bind_hid H
                                        obtain ⟨t_231, qt_231, H⟩ := H
                                        go_wp2_with fail
                                        go_at_call 30
                                        refine (Go.Proofs.YtpcdaoeijlifmaaDoor.GsAreCombs.C (t_5a) At_5a ct_5a _   (Lib.hid (own_cells Ot_5a.out)) (Lib.hid (own_max Ot_5a.out)) qt_231).mono ?_
                                        rintro e_t_231 wt_231 ⟨rfl, bt_231⟩
                                        have HBwt_231 := Lib.hid (Below.step HBwt_229.out bt_231)
                                        replace kx_193_0 := cell_below bt_231 kx_193_0
                                        replace kx_193_1 := cell_below bt_231 kx_193_1
                                        replace kx_193_2 := cell_below bt_231 kx_193_2
                                        replace kx_193_3 := cell_below bt_231 kx_193_3
                                        replace Ot_5a := Lib.hid (own_below Ot_5a.out bt_231)
                                        replace Ot_19a := Lib.hid (own_below Ot_19a.out bt_231)
                                        replace Ot_29a := Lib.hid (own_below Ot_29a.out bt_231)
                                        replace Ot_49a := Lib.hid (own_below Ot_49a.out bt_231)
                                        replace Ot_59a := Lib.hid (own_below Ot_59a.out bt_231)
                                        replace Ot_84a := Lib.hid (own_below Ot_84a.out bt_231)
                                        replace Ot_126a := Lib.hid (Go.Proofs.YtpcdaoeijlifmaaDoor.GoN.nest_below Ot_126a.out bt_231)
                                        replace Ot_133a := Lib.hid (Go.Proofs.YtpcdaoeijlifmaaDoor.GoN.nest_below Ot_133a.out bt_231)
                                        clear bt_231
                                        replace H := let_hid H
                                        obtain ⟨t_232, ht_232, H⟩ := H
                                        replace H := app_hid H
                                        obtain rfl := ret_hid H
                                        go_wp2_with fail
                                        go_ret
                                        exact ⟨rfl, HBwt_231.out⟩
                              | true =>
                                obtain rfl : t_133b = true := by revert ht_141; cases t_133b <;> simp
                                replace H := ite_t H
                                replace H := let_hid H
                                obtain ⟨t_171, ht_171, H⟩ := H
                                replace H := app_hid H
                                cases t_171 with
                                | false =>
                                  replace H := ite_f H
                                  replace H := bind_hid H
                                  obtain ⟨t_175, qt_175, H⟩ := H
                                  go_wp2_with fail
                                  go_at_call 23
                                  refine (Go.Proofs.YtpcdaoeijlifmaaDoor.GsDrawGaugeText.C tapes (code) A0 c0 _  HE (Lib.hid (Cells.below M0.out HBwr1.out)) N0 V0 qt_175).mono ?_
                                  rintro e_t_175 wt_175 ⟨rfl, bt_175⟩
                                  have HBwt_175 := Lib.hid (Below.step HBwr1.out bt_175)
                                  replace Ot_5a := Lib.hid (own_below Ot_5a.out bt_175)
                                  replace Ot_19a := Lib.hid (own_below Ot_19a.out bt_175)
                                  replace Ot_29a := Lib.hid (own_below Ot_29a.out bt_175)
                                  replace Ot_49a := Lib.hid (own_below Ot_49a.out bt_175)
                                  replace Ot_59a := Lib.hid (own_below Ot_59a.out bt_175)
                                  replace Ot_84a := Lib.hid (own_below Ot_84a.out bt_175)
                                  replace Ot_126a := Lib.hid (Go.Proofs.YtpcdaoeijlifmaaDoor.GoN.nest_below Ot_126a.out bt_175)
                                  replace Ot_133a := Lib.hid (Go.Proofs.YtpcdaoeijlifmaaDoor.GoN.nest_below Ot_133a.out bt_175)
                                  clear bt_175
                                  replace H := bind2_hid H
                                  obtain ⟨t_178a, t_178b, qt_178, H⟩ := H
                                  go_wp2_with fail
                                  go_at_call 24
                                  refine (Go.Proofs.YtpcdaoeijlifmaaDoor.GiGaugeText.C (t_175)  _ (tab_below HBwt_175.out HT)   qt_178).mono ?_
                                  rintro e_t_178 wt_178 ⟨rfl, bt_178⟩
                                  have HBwt_178 := Lib.hid (Below.step HBwt_175.out bt_178)
                                  replace Ot_5a := Lib.hid (own_below Ot_5a.out bt_178)
                                  replace Ot_19a := Lib.hid (own_below Ot_19a.out bt_178)
                                  replace Ot_29a := Lib.hid (own_below Ot_29a.out bt_178)
                                  replace Ot_49a := Lib.hid (own_below Ot_49a.out bt_178)
                                  replace Ot_59a := Lib.hid (own_below Ot_59a.out bt_178)
                                  replace Ot_84a := Lib.hid (own_below Ot_84a.out bt_178)
                                  replace Ot_126a := Lib.hid (Go.Proofs.YtpcdaoeijlifmaaDoor.GoN.nest_below Ot_126a.out bt_178)
                                  replace Ot_133a := Lib.hid (Go.Proofs.YtpcdaoeijlifmaaDoor.GoN.nest_below Ot_133a.out bt_178)
                                  clear bt_178
                                  replace H := bind2_hid H
                                  obtain ⟨t_185a, t_185b, qt_185, H⟩ := H
                                  go_wp2_with fail
                                  go_at_call 25
                                  refine (Go.Proofs.YtpcdaoeijlifmaaDoor.GsGaugeText.C (t_175)  _    qt_185).mono ?_
                                  rintro e_t_185 wt_185 ⟨rfl, bt_185⟩
                                  have HBwt_185 := Lib.hid (Below.step HBwt_178.out bt_185)
                                  replace Ot_5a := Lib.hid (own_below Ot_5a.out bt_185)
                                  replace Ot_19a := Lib.hid (own_below Ot_19a.out bt_185)
                                  replace Ot_29a := Lib.hid (own_below Ot_29a.out bt_185)
                                  replace Ot_49a := Lib.hid (own_below Ot_49a.out bt_185)
                                  replace Ot_59a := Lib.hid (own_below Ot_59a.out bt_185)
                                  replace Ot_84a := Lib.hid (own_below Ot_84a.out bt_185)
                                  replace Ot_126a := Lib.hid (Go.Proofs.YtpcdaoeijlifmaaDoor.GoN.nest_below Ot_126a.out bt_185)
                                  replace Ot_133a := Lib.hid (Go.Proofs.YtpcdaoeijlifmaaDoor.GoN.nest_below Ot_133a.out bt_185)
                                  clear bt_185
                                  replace H := bind_hid H
                                  obtain ⟨t_192, qt_192, H⟩ := H
                                  obtain ⟨t_192_id, t_192_wide, t_192_high, t_192_line⟩ := t_192
                                  replace H := unComb_hid H
                                  go_wp2_with fail
                                  go_at_call 26
                                  refine (Go.Proofs.YtpcdaoeijlifmaaDoor.GsDrawCombText.C tapes (code) A0 c0 _  HE (Lib.hid (Cells.below M0.out HBwt_185.out)) N0 V0 qt_192).mono ?_
                                  rintro e_t_192 wt_192 ⟨rfl, bt_192⟩
                                  unfold Go.Proofs.YtpcdaoeijlifmaaDoor.PComb.Comb.val
                                  have HBwt_192 := Lib.hid (Below.step HBwt_185.out bt_192)
                                  replace Ot_5a := Lib.hid (own_below Ot_5a.out bt_192)
                                  replace Ot_19a := Lib.hid (own_below Ot_19a.out bt_192)
                                  replace Ot_29a := Lib.hid (own_below Ot_29a.out bt_192)
                                  replace Ot_49a := Lib.hid (own_below Ot_49a.out bt_192)
                                  replace Ot_59a := Lib.hid (own_below Ot_59a.out bt_192)
                                  replace Ot_84a := Lib.hid (own_below Ot_84a.out bt_192)
                                  replace Ot_126a := Lib.hid (Go.Proofs.YtpcdaoeijlifmaaDoor.GoN.nest_below Ot_126a.out bt_192)
                                  replace Ot_133a := Lib.hid (Go.Proofs.YtpcdaoeijlifmaaDoor.GoN.nest_below Ot_133a.out bt_192)
                                  clear bt_192
                                  obtain ⟨w_x_193, hw_x_193⟩ : ∃ x, wt_192.alloc (.cells #[.int .i64 t_192_id, .int .i64 t_192_wide, .int .i64 t_192_high, .bool t_192_line] 43) = x := ⟨_, rfl⟩
                                  have bw_x_193 : Below wt_192.heap.size wt_192 w_x_193 := by rw [← hw_x_193]; exact (Below.refl _ _).alloc (Nat.le_refl _) _
                                  have Dx_193_t_5a := Lib.hid (apart_fresh Ot_5a.out)
                                  have Dx_193_t_19a := Lib.hid (apart_fresh Ot_19a.out)
                                  have Dx_193_t_29a := Lib.hid (apart_fresh Ot_29a.out)
                                  have Dx_193_t_49a := Lib.hid (apart_fresh Ot_49a.out)
                                  have Dx_193_t_59a := Lib.hid (apart_fresh Ot_59a.out)
                                  have Dx_193_t_84a := Lib.hid (apart_fresh Ot_84a.out)
                                  have Dx_193_t_126a := Lib.hid (Go.Proofs.YtpcdaoeijlifmaaDoor.GoN.nest_fresh Ot_126a.out)
                                  have Dx_193_t_133a := Lib.hid (Go.Proofs.YtpcdaoeijlifmaaDoor.GoN.nest_fresh Ot_133a.out)
                                  have HBw_x_193 := Lib.hid (Below.step HBwt_192.out bw_x_193)
                                  replace Ot_5a := Lib.hid (own_below Ot_5a.out bw_x_193)
                                  replace Ot_19a := Lib.hid (own_below Ot_19a.out bw_x_193)
                                  replace Ot_29a := Lib.hid (own_below Ot_29a.out bw_x_193)
                                  replace Ot_49a := Lib.hid (own_below Ot_49a.out bw_x_193)
                                  replace Ot_59a := Lib.hid (own_below Ot_59a.out bw_x_193)
                                  replace Ot_84a := Lib.hid (own_below Ot_84a.out bw_x_193)
                                  replace Ot_126a := Lib.hid (Go.Proofs.YtpcdaoeijlifmaaDoor.GoN.nest_below Ot_126a.out bw_x_193)
                                  replace Ot_133a := Lib.hid (Go.Proofs.YtpcdaoeijlifmaaDoor.GoN.nest_below Ot_133a.out bw_x_193)
                                  clear bw_x_193
                                  have kx_193_0 : w_x_193.cell? ⟨wt_192.heap.size, 0, none⟩ = some (.int .i64 t_192_id) := by rw [← hw_x_193]; exact box_new _ _ _ 0 _ rfl
                                  have kx_193_1 : w_x_193.cell? ⟨wt_192.heap.size, 1, none⟩ = some (.int .i64 t_192_wide) := by rw [← hw_x_193]; exact box_new _ _ _ 1 _ rfl
                                  have kx_193_2 : w_x_193.cell? ⟨wt_192.heap.size, 2, none⟩ = some (.int .i64 t_192_high) := by rw [← hw_x_193]; exact box_new _ _ _ 2 _ rfl
                                  have kx_193_3 : w_x_193.cell? ⟨wt_192.heap.size, 3, none⟩ = some (.bool t_192_line) := by rw [← hw_x_193]; exact box_new _ _ _ 3 _ rfl
                                  replace H := bind2_hid H
                                  obtain ⟨t_196a, t_196b, qt_196, H⟩ := H
                                  go_wp2_with fail
                                  go_at_call 27
                                  refine (Go.Proofs.YtpcdaoeijlifmaaDoor.GiCombText.C ((Go.Proofs.YtpcdaoeijlifmaaDoor.PComb.Comb.mk t_192_id t_192_wide t_192_high t_192_line))  _ (tab_below HBw_x_193.out HT)   qt_196).mono ?_
                                  rintro e_t_196 wt_196 ⟨rfl, bt_196⟩
                                  have HBwt_196 := Lib.hid (Below.step HBw_x_193.out bt_196)
                                  replace kx_193_0 := cell_below bt_196 kx_193_0
                                  replace kx_193_1 := cell_below bt_196 kx_193_1
                                  replace kx_193_2 := cell_below bt_196 kx_193_2
                                  replace kx_193_3 := cell_below bt_196 kx_193_3
                                  replace Ot_5a := Lib.hid (own_below Ot_5a.out bt_196)
                                  replace Ot_19a := Lib.hid (own_below Ot_19a.out bt_196)
                                  replace Ot_29a := Lib.hid (own_below Ot_29a.out bt_196)
                                  replace Ot_49a := Lib.hid (own_below Ot_49a.out bt_196)
                                  replace Ot_59a := Lib.hid (own_below Ot_59a.out bt_196)
                                  replace Ot_84a := Lib.hid (own_below Ot_84a.out bt_196)
                                  replace Ot_126a := Lib.hid (Go.Proofs.YtpcdaoeijlifmaaDoor.GoN.nest_below Ot_126a.out bt_196)
                                  replace Ot_133a := Lib.hid (Go.Proofs.YtpcdaoeijlifmaaDoor.GoN.nest_below Ot_133a.out bt_196)
                                  clear bt_196
                                  replace H := bind2_hid H
                                  obtain ⟨t_203a, t_203b, qt_203, H⟩ := H
                                  go_wp2_with fail
                                  go_at_call 28
                                  refine (Go.Proofs.YtpcdaoeijlifmaaDoor.GsCombText.C ((Go.Proofs.YtpcdaoeijlifmaaDoor.PComb.Comb.mk t_192_id t_192_wide t_192_high t_192_line))  _    qt_203).mono ?_
                                  rintro e_t_203 wt_203 ⟨rfl, bt_203⟩
                                  have HBwt_203 := Lib.hid (Below.step HBwt_196.out bt_203)
                                  replace kx_193_0 := cell_below bt_203 kx_193_0
                                  replace kx_193_1 := cell_below bt_203 kx_193_1
                                  replace kx_193_2 := cell_below bt_203 kx_193_2
                                  replace kx_193_3 := cell_below bt_203 kx_193_3
                                  replace Ot_5a := Lib.hid (own_below Ot_5a.out bt_203)
                                  replace Ot_19a := Lib.hid (own_below Ot_19a.out bt_203)
                                  replace Ot_29a := Lib.hid (own_below Ot_29a.out bt_203)
                                  replace Ot_49a := Lib.hid (own_below Ot_49a.out bt_203)
                                  replace Ot_59a := Lib.hid (own_below Ot_59a.out bt_203)
                                  replace Ot_84a := Lib.hid (own_below Ot_84a.out bt_203)
                                  replace Ot_126a := Lib.hid (Go.Proofs.YtpcdaoeijlifmaaDoor.GoN.nest_below Ot_126a.out bt_203)
                                  replace Ot_133a := Lib.hid (Go.Proofs.YtpcdaoeijlifmaaDoor.GoN.nest_below Ot_133a.out bt_203)
                                  clear bt_203
                                  replace H := let_hid H
                                  obtain ⟨t_211, ht_211, H⟩ := H
                                  replace H := join_hid H
                                  cases t_211 with
                                  | false =>
                                    replace H := ite_f H
                                    replace H := app_hid H
                                    replace H := join_hid H
                                    replace H := ite_f H
                                    replace H := app_hid H
                                    replace H := join_hid H
                                    replace H := ite_f H
                                    replace H := app_hid H
                                    replace H := join_hid H
                                    replace H := ite_f H
                                    replace H := app_hid H
                                    obtain rfl := ret_hid H
                                    go_wp2_with fail
                                    go_ret
                                    exact ⟨rfl, HBwt_203.out⟩
                                  | true =>
                                    replace H := ite_t H
                                    replace H := let_hid H
                                    obtain ⟨t_215, ht_215, H⟩ := H
                                    replace H := app_hid H
                                    replace H := join_hid H
                                    cases t_215 with
                                    | false =>
                                      replace H := ite_f H
                                      replace H := app_hid H
                                      replace H := join_hid H
                                      replace H := ite_f H
                                      replace H := app_hid H
                                      replace H := join_hid H
                                      replace H := ite_f H
                                      replace H := app_hid H
                                      obtain rfl := ret_hid H
                                      go_wp2_with fail
                                      go_ret
                                      exact ⟨rfl, HBwt_203.out⟩
                                    | true =>
                                      replace H := ite_t H
                                      replace H := let_hid H
                                      obtain ⟨t_220, ht_220, H⟩ := H
                                      replace H := app_hid H
                                      replace H := join_hid H
                                      cases t_220 with
                                      | false =>
                                        replace H := ite_f H
                                        replace H := app_hid H
                                        replace H := join_hid H
                                        replace H := ite_f H
                                        replace H := app_hid H
                                        obtain rfl := ret_hid H
                                        go_wp2_with fail
                                        go_ret
                                        exact ⟨rfl, HBwt_203.out⟩
                                      | true =>
                                        replace H := ite_t H
                                        replace H := let_hid H
                                        obtain ⟨t_225, ht_225, H⟩ := H
                                        replace H := app_hid H
                                        replace H := join_hid H
                                        cases t_225 with
                                        | false =>
                                          replace H := ite_f H
                                          replace H := app_hid H
                                          obtain rfl := ret_hid H
                                          go_wp2_with fail
                                          go_ret
                                          exact ⟨rfl, HBwt_203.out⟩
                                        | true =>
                                          replace H := ite_t H
                                          replace H := bind_hid H
                                          obtain ⟨t_229, qt_229, H⟩ := H
                                          go_wp2_with fail
                                          go_at_call 29
                                          refine (Go.Proofs.YtpcdaoeijlifmaaDoor.GiAreCombs.C (t_5a) At_5a ct_5a _   (Lib.hid (own_cells Ot_5a.out)) (Lib.hid (own_max Ot_5a.out)) qt_229).mono ?_
                                          rintro e_t_229 wt_229 ⟨rfl, bt_229⟩
                                          have HBwt_229 := Lib.hid (Below.step HBwt_203.out bt_229)
                                          replace kx_193_0 := cell_below bt_229 kx_193_0
                                          replace kx_193_1 := cell_below bt_229 kx_193_1
                                          replace kx_193_2 := cell_below bt_229 kx_193_2
                                          replace kx_193_3 := cell_below bt_229 kx_193_3
                                          replace Ot_5a := Lib.hid (own_below Ot_5a.out bt_229)
                                          replace Ot_19a := Lib.hid (own_below Ot_19a.out bt_229)
                                          replace Ot_29a := Lib.hid (own_below Ot_29a.out bt_229)
                                          replace Ot_49a := Lib.hid (own_below Ot_49a.out bt_229)
                                          replace Ot_59a := Lib.hid (own_below Ot_59a.out bt_229)
                                          replace Ot_84a := Lib.hid (own_below Ot_84a.out bt_229)
                                          replace Ot_126a := Lib.hid (Go.Proofs.YtpcdaoeijlifmaaDoor.GoN.nest_below Ot_126a.out bt_229)
                                          replace Ot_133a := Lib.hid (Go.Proofs.YtpcdaoeijlifmaaDoor.GoN.nest_below Ot_133a.out bt_229)
                                          clear bt_229
                                          replace H := bind_hid H
                                          obtain ⟨t_231, qt_231, H⟩ := H
                                          go_wp2_with fail
                                          go_at_call 30
                                          refine (Go.Proofs.YtpcdaoeijlifmaaDoor.GsAreCombs.C (t_5a) At_5a ct_5a _   (Lib.hid (own_cells Ot_5a.out)) (Lib.hid (own_max Ot_5a.out)) qt_231).mono ?_
                                          rintro e_t_231 wt_231 ⟨rfl, bt_231⟩
                                          have HBwt_231 := Lib.hid (Below.step HBwt_229.out bt_231)
                                          replace kx_193_0 := cell_below bt_231 kx_193_0
                                          replace kx_193_1 := cell_below bt_231 kx_193_1
                                          replace kx_193_2 := cell_below bt_231 kx_193_2
                                          replace kx_193_3 := cell_below bt_231 kx_193_3
                                          replace Ot_5a := Lib.hid (own_below Ot_5a.out bt_231)
                                          replace Ot_19a := Lib.hid (own_below Ot_19a.out bt_231)
                                          replace Ot_29a := Lib.hid (own_below Ot_29a.out bt_231)
                                          replace Ot_49a := Lib.hid (own_below Ot_49a.out bt_231)
                                          replace Ot_59a := Lib.hid (own_below Ot_59a.out bt_231)
                                          replace Ot_84a := Lib.hid (own_below Ot_84a.out bt_231)
                                          replace Ot_126a := Lib.hid (Go.Proofs.YtpcdaoeijlifmaaDoor.GoN.nest_below Ot_126a.out bt_231)
                                          replace Ot_133a := Lib.hid (Go.Proofs.YtpcdaoeijlifmaaDoor.GoN.nest_below Ot_133a.out bt_231)
                                          clear bt_231
                                          replace H := let_hid H
                                          obtain ⟨t_232, ht_232, H⟩ := H
                                          replace H := app_hid H
                                          obtain rfl := ret_hid H
                                          go_wp2_with fail
                                          go_ret
                                          exact ⟨rfl, HBwt_231.out⟩
                                | true =>
                                  replace H := ite_t H
                                  obtain rfl := ret_hid H
                                  go_wp2_with fail
                                  go_ret
                                  exact ⟨rfl, HBwr1.out⟩
                            | succ m1 =>
                              have hlt1 : k1 < t_126a.length := by omega
                              have hc1 : decide ((k1 : Int) < ((t_126a.length : Nat) : Int)) = true := by simp; omega
                              replace H := cnt_succ H
                              unfold l1 at H
                              replace H := let_hid H
                              obtain ⟨_, rfl, H⟩ := H
                              replace H := idx_hid H
                              obtain ⟨nt_158, yt_158, et_158, lt_158, gt_158, H⟩ := H
                              obtain rfl : k1 = nt_158 := by omega
                              clear et_158
                              obtain ⟨gt_158_, zt_158, Art_158, crt_158, eAt_158, zzt_158, hct_158, hot_158, hmt_158, hat_158⟩ := Go.Proofs.YtpcdaoeijlifmaaDoor.GoN.nest_own Ot_126a.out (k := k1) lt_158
                              obtain rfl := Option.some.inj (gt_158.out.symm.trans zzt_158)
                              clear zzt_158
                              subst eAt_158
                              have Ort_158 := Lib.hid hot_158
                              have mrt_158 := Lib.hid hmt_158
                              clear hot_158 hmt_158 hat_158
                              have b0t_158 : (0 : Int) ≤ (k1 : Int) := by omega
                              have b1t_158 : (k1 : Int) < ((t_126a.length : Nat) : Int) := by omega
                              have b2t_158 : ((k1 : Int)).toNat = k1 := by omega
                              replace H := let_hid H
                              obtain ⟨t_161, ht_161, H⟩ := H
                              replace H := app_hid H
                              go_wp2_with fail
                              go_roundg m1
                              case measure => omega
                              case rel => exact ⟨k1 + 1, _, by omega, by go_num, rfl, H, HBwr1, Ot_5a, Ot_19a, Ot_29a, Ot_49a, Ot_59a, Ot_84a, Ot_126a, Ot_133a⟩
                      | true =>
                        replace H := ite_t H
                        replace H := app_hid H
                        replace H := ite_t H
                        obtain rfl := ret_hid H
                        go_wp2_with fail
                        go_ret
                        exact ⟨rfl, HBwt_133.out⟩
                    | true =>
                      replace H := ite_t H
                      replace H := app_hid H
                      cases t_19b with
                      | false =>
                        obtain rfl : t_29b = false := by revert ht_37; cases t_29b <;> simp
                        obtain rfl : t_49b = false := by revert ht_71; cases t_49b <;> simp
                        obtain rfl : t_59b = false := by revert ht_67; cases t_59b <;> simp
                        obtain rfl : t_84b = false := by revert ht_92; cases t_84b <;> simp
                        replace H := ite_f H
                        replace H := app_hid H
                        unfold e0 at H
                        replace H := let_hid H
                        obtain ⟨_, rfl, H⟩ := H
                        replace H := bind2_hid H
                        obtain ⟨t_126a, t_126b, qt_126, H⟩ := H
                        go_wp2_with fail
                        go_at_call 20
                        refine (Go.Proofs.YtpcdaoeijlifmaaDoor.GiSameGauges.C (t_5a) At_5a ct_5a _   (Lib.hid (own_cells Ot_5a.out)) (Lib.hid (own_max Ot_5a.out)) (Lib.hid (own_room Ot_5a.out)) qt_126).mono ?_
                        rintro e_t_126 wt_126 ⟨At_126a, ct_126a, rfl, ⟨Bt_126a, ot_126a⟩, bt_126⟩
                        have Dt_126a_t_5a := Lib.hid (Go.Proofs.YtpcdaoeijlifmaaDoor.GoN.nest_callrow ot_126a Ot_5a.out)
                        have Dt_126a_t_19a := Lib.hid (Go.Proofs.YtpcdaoeijlifmaaDoor.GoN.nest_callrow ot_126a Ot_19a.out)
                        have Dt_126a_t_29a := Lib.hid (Go.Proofs.YtpcdaoeijlifmaaDoor.GoN.nest_callrow ot_126a Ot_29a.out)
                        have Dt_126a_t_49a := Lib.hid (Go.Proofs.YtpcdaoeijlifmaaDoor.GoN.nest_callrow ot_126a Ot_49a.out)
                        have Dt_126a_t_59a := Lib.hid (Go.Proofs.YtpcdaoeijlifmaaDoor.GoN.nest_callrow ot_126a Ot_59a.out)
                        have Dt_126a_t_84a := Lib.hid (Go.Proofs.YtpcdaoeijlifmaaDoor.GoN.nest_callrow ot_126a Ot_84a.out)
                        have Ot_126a := Lib.hid (Go.Proofs.YtpcdaoeijlifmaaDoor.GoN.nest_lower ot_126a HBwr0.out.size)
                        clear ot_126a
                        have HBwt_126 := Lib.hid (Below.step HBwr0.out bt_126)
                        replace Ot_5a := Lib.hid (own_below Ot_5a.out bt_126)
                        replace Ot_19a := Lib.hid (own_below Ot_19a.out bt_126)
                        replace Ot_29a := Lib.hid (own_below Ot_29a.out bt_126)
                        replace Ot_49a := Lib.hid (own_below Ot_49a.out bt_126)
                        replace Ot_59a := Lib.hid (own_below Ot_59a.out bt_126)
                        replace Ot_84a := Lib.hid (own_below Ot_84a.out bt_126)
                        clear bt_126
                        replace H := bind2_hid H
                        obtain ⟨t_133a, t_133b, qt_133, H⟩ := H
                        go_wp2_with fail
                        go_at_call 21
                        refine (Go.Proofs.YtpcdaoeijlifmaaDoor.GsSameGauges.C (t_5a) At_5a ct_5a _   (Lib.hid (own_cells Ot_5a.out)) (Lib.hid (own_max Ot_5a.out)) qt_133).mono ?_
                        rintro e_t_133 wt_133 ⟨At_133a, ct_133a, rfl, ⟨Bt_133a, ot_133a⟩, bt_133⟩
                        have Dt_133a_t_5a := Lib.hid (Go.Proofs.YtpcdaoeijlifmaaDoor.GoN.nest_callrow ot_133a Ot_5a.out)
                        have Dt_133a_t_19a := Lib.hid (Go.Proofs.YtpcdaoeijlifmaaDoor.GoN.nest_callrow ot_133a Ot_19a.out)
                        have Dt_133a_t_29a := Lib.hid (Go.Proofs.YtpcdaoeijlifmaaDoor.GoN.nest_callrow ot_133a Ot_29a.out)
                        have Dt_133a_t_49a := Lib.hid (Go.Proofs.YtpcdaoeijlifmaaDoor.GoN.nest_callrow ot_133a Ot_49a.out)
                        have Dt_133a_t_59a := Lib.hid (Go.Proofs.YtpcdaoeijlifmaaDoor.GoN.nest_callrow ot_133a Ot_59a.out)
                        have Dt_133a_t_84a := Lib.hid (Go.Proofs.YtpcdaoeijlifmaaDoor.GoN.nest_callrow ot_133a Ot_84a.out)
                        have Dt_133a_t_126a := Lib.hid (Go.Proofs.YtpcdaoeijlifmaaDoor.GoN.nest_callnest ot_133a Ot_126a.out)
                        have Ot_133a := Lib.hid (Go.Proofs.YtpcdaoeijlifmaaDoor.GoN.nest_lower ot_133a HBwt_126.out.size)
                        clear ot_133a
                        have HBwt_133 := Lib.hid (Below.step HBwt_126.out bt_133)
                        replace Ot_5a := Lib.hid (own_below Ot_5a.out bt_133)
                        replace Ot_19a := Lib.hid (own_below Ot_19a.out bt_133)
                        replace Ot_29a := Lib.hid (own_below Ot_29a.out bt_133)
                        replace Ot_49a := Lib.hid (own_below Ot_49a.out bt_133)
                        replace Ot_59a := Lib.hid (own_below Ot_59a.out bt_133)
                        replace Ot_84a := Lib.hid (own_below Ot_84a.out bt_133)
                        replace Ot_126a := Lib.hid (Go.Proofs.YtpcdaoeijlifmaaDoor.GoN.nest_below Ot_126a.out bt_133)
                        clear bt_133
                        replace H := let_hid H
                        obtain ⟨t_141, ht_141, H⟩ := H
                        replace H := join_hid H
                        cases t_141 with
                        | false =>
                          replace H := ite_f H
                          replace H := bind_hid H
                          obtain ⟨t_145, qt_145, H⟩ := H
                          go_wp2_with fail
                          go_at_call 22
                          refine (Go.Proofs.YtpcdaoeijlifmaaDoor.GlRTable.C (t_126a) (t_133a) At_126a ct_126a At_133a ct_133a _   (Lib.hid (Go.Proofs.YtpcdaoeijlifmaaDoor.GoN.nest_read Ot_126a.out)) (Lib.hid (Go.Proofs.YtpcdaoeijlifmaaDoor.GoN.nest_max Ot_126a.out)) (Lib.hid (Go.Proofs.YtpcdaoeijlifmaaDoor.GoN.nest_read Ot_133a.out)) (Lib.hid (Go.Proofs.YtpcdaoeijlifmaaDoor.GoN.nest_max Ot_133a.out)) qt_145).mono ?_
                          rintro e_t_145 wt_145 ⟨rfl, bt_145⟩
                          have HBwt_145 := Lib.hid (Below.step HBwt_133.out bt_145)
                          replace Ot_5a := Lib.hid (own_below Ot_5a.out bt_145)
                          replace Ot_19a := Lib.hid (own_below Ot_19a.out bt_145)
                          replace Ot_29a := Lib.hid (own_below Ot_29a.out bt_145)
                          replace Ot_49a := Lib.hid (own_below Ot_49a.out bt_145)
                          replace Ot_59a := Lib.hid (own_below Ot_59a.out bt_145)
                          replace Ot_84a := Lib.hid (own_below Ot_84a.out bt_145)
                          replace Ot_126a := Lib.hid (Go.Proofs.YtpcdaoeijlifmaaDoor.GoN.nest_below Ot_126a.out bt_145)
                          replace Ot_133a := Lib.hid (Go.Proofs.YtpcdaoeijlifmaaDoor.GoN.nest_below Ot_133a.out bt_145)
                          clear bt_145
                          cases t_145 with
                          | false =>
                            replace H := let_hid H
                            obtain ⟨t_146, ht_146, H⟩ := H
                            obtain rfl : t_146 = true := ht_146.symm
                            replace H := app_hid H
                            replace H := ite_t H
                            obtain rfl := ret_hid H
                            go_wp2_with fail
                            go_ret
                            exact ⟨rfl, HBwt_145.out⟩
                          | true =>
                            replace H := let_hid H
                            obtain ⟨t_146, ht_146, H⟩ := H
                            obtain rfl : t_146 = false := ht_146.symm
                            replace H := app_hid H
                            replace H := ite_f H
                            have hb_1 : t_126a.length ≤ 9223372036854775807 := Go.Proofs.YtpcdaoeijlifmaaDoor.GoN.nest_max Ot_126a.out
                            go_wp2_with fail
                            go_loopg [24, 23] (t_126a.length) (fun m_ v24_ v23_ wr => ∃ (k1 : Nat) (sum_23l1 : Int), k1 + m_ = t_126a.length ∧ v24_ = .int .i64 (k1 : Int) ∧ v23_ = .int .i64 sum_23l1 ∧ Hid (cntK (l1 t_126a) m_ k1 (sum_23l1) (e1 code tapes t_5a t_126b) = some r) ∧ Hid (Below w.heap.size w wr) ∧ Hid (wr.ownsRow w.heap.size 43 4 (.slice At_5a t_5a.length ct_5a) t_5a.length (Go.Proofs.YtpcdaoeijlifmaaDoor.PComb.flat t_5a)) ∧ Hid (wr.ownsRow w.heap.size 3 1 (.slice At_19a t_19a.length ct_19a) t_19a.length (Go.Proofs.YtpcdaoeijlifmaaDoor.HelpInt.iv t_19a)) ∧ Hid (wr.ownsRow w.heap.size 3 1 (.slice At_29a t_29a.length ct_29a) t_29a.length (Go.Proofs.YtpcdaoeijlifmaaDoor.HelpInt.iv t_29a)) ∧ Hid (wr.ownsRow w.heap.size 3 1 (.slice At_49a t_49a.length ct_49a) t_49a.length (Go.Proofs.YtpcdaoeijlifmaaDoor.HelpInt.iv t_49a)) ∧ Hid (wr.ownsRow w.heap.size 3 1 (.slice At_59a t_59a.length ct_59a) t_59a.length (Go.Proofs.YtpcdaoeijlifmaaDoor.HelpInt.iv t_59a)) ∧ Hid (wr.ownsRow w.heap.size 3 1 (.slice At_84a t_84a.length ct_84a) t_84a.length (Go.Proofs.YtpcdaoeijlifmaaDoor.HelpInt.iv t_84a)) ∧ Hid (Go.Proofs.YtpcdaoeijlifmaaDoor.GoN.OwnNest wr (w.heap.size) 38 3 1 Go.Proofs.YtpcdaoeijlifmaaDoor.HelpInt.iv At_126a ct_126a t_126a Bt_126a) ∧ Hid (Go.Proofs.YtpcdaoeijlifmaaDoor.GoN.OwnNest wr (w.heap.size) 38 3 1 Go.Proofs.YtpcdaoeijlifmaaDoor.HelpInt.iv At_133a ct_133a t_133a Bt_133a))
                            case atStart => exact ⟨0, _, by omega, rfl, rfl, H, HBwt_145, Ot_5a, Ot_19a, Ot_29a, Ot_49a, Ot_59a, Ot_84a, Ot_126a, Ot_133a⟩
                            case round =>
                              obtain ⟨k1, sum_23l1, hkm1, rfl, rfl, H, HBwr1, Ot_5a, Ot_19a, Ot_29a, Ot_49a, Ot_59a, Ot_84a, Ot_126a, Ot_133a⟩ := hrel
                              rename World => wr1
                              cases gk with
                              | zero =>
                                obtain rfl : k1 = t_126a.length := by omega
                                have hc1 : decide (((t_126a.length : Nat) : Int) < ((t_126a.length : Nat) : Int)) = false := by simp
                                replace H := cnt_zero H
                                unfold e1 at H
                                replace H := let_hid H
                                obtain ⟨_, rfl, H⟩ := H
                                replace H := join_hid H
                                cases t_126b with
                                | false =>
                                  obtain rfl : t_133b = false := by revert ht_141; cases t_133b <;> simp
                                  replace H := ite_f H
                                  replace H := app_hid H
                                  replace H := ite_f H
                                  replace H := bind_hid H
                                  obtain ⟨t_175, qt_175, H⟩ := H
                                  go_wp2_with fail
                                  go_at_call 23
                                  refine (Go.Proofs.YtpcdaoeijlifmaaDoor.GsDrawGaugeText.C tapes (code) A0 c0 _  HE (Lib.hid (Cells.below M0.out HBwr1.out)) N0 V0 qt_175).mono ?_
                                  rintro e_t_175 wt_175 ⟨rfl, bt_175⟩
                                  have HBwt_175 := Lib.hid (Below.step HBwr1.out bt_175)
                                  replace Ot_5a := Lib.hid (own_below Ot_5a.out bt_175)
                                  replace Ot_19a := Lib.hid (own_below Ot_19a.out bt_175)
                                  replace Ot_29a := Lib.hid (own_below Ot_29a.out bt_175)
                                  replace Ot_49a := Lib.hid (own_below Ot_49a.out bt_175)
                                  replace Ot_59a := Lib.hid (own_below Ot_59a.out bt_175)
                                  replace Ot_84a := Lib.hid (own_below Ot_84a.out bt_175)
                                  replace Ot_126a := Lib.hid (Go.Proofs.YtpcdaoeijlifmaaDoor.GoN.nest_below Ot_126a.out bt_175)
                                  replace Ot_133a := Lib.hid (Go.Proofs.YtpcdaoeijlifmaaDoor.GoN.nest_below Ot_133a.out bt_175)
                                  clear bt_175
                                  replace H := bind2_hid H
                                  obtain ⟨t_178a, t_178b, qt_178, H⟩ := H
                                  go_wp2_with fail
                                  go_at_call 24
                                  refine (Go.Proofs.YtpcdaoeijlifmaaDoor.GiGaugeText.C (t_175)  _ (tab_below HBwt_175.out HT)   qt_178).mono ?_
                                  rintro e_t_178 wt_178 ⟨rfl, bt_178⟩
                                  have HBwt_178 := Lib.hid (Below.step HBwt_175.out bt_178)
                                  replace Ot_5a := Lib.hid (own_below Ot_5a.out bt_178)
                                  replace Ot_19a := Lib.hid (own_below Ot_19a.out bt_178)
                                  replace Ot_29a := Lib.hid (own_below Ot_29a.out bt_178)
                                  replace Ot_49a := Lib.hid (own_below Ot_49a.out bt_178)
                                  replace Ot_59a := Lib.hid (own_below Ot_59a.out bt_178)
                                  replace Ot_84a := Lib.hid (own_below Ot_84a.out bt_178)
                                  replace Ot_126a := Lib.hid (Go.Proofs.YtpcdaoeijlifmaaDoor.GoN.nest_below Ot_126a.out bt_178)
                                  replace Ot_133a := Lib.hid (Go.Proofs.YtpcdaoeijlifmaaDoor.GoN.nest_below Ot_133a.out bt_178)
                                  clear bt_178
                                  replace H := bind2_hid H
                                  obtain ⟨t_185a, t_185b, qt_185, H⟩ := H
                                  go_wp2_with fail
                                  go_at_call 25
                                  refine (Go.Proofs.YtpcdaoeijlifmaaDoor.GsGaugeText.C (t_175)  _    qt_185).mono ?_
                                  rintro e_t_185 wt_185 ⟨rfl, bt_185⟩
                                  have HBwt_185 := Lib.hid (Below.step HBwt_178.out bt_185)
                                  replace Ot_5a := Lib.hid (own_below Ot_5a.out bt_185)
                                  replace Ot_19a := Lib.hid (own_below Ot_19a.out bt_185)
                                  replace Ot_29a := Lib.hid (own_below Ot_29a.out bt_185)
                                  replace Ot_49a := Lib.hid (own_below Ot_49a.out bt_185)
                                  replace Ot_59a := Lib.hid (own_below Ot_59a.out bt_185)
                                  replace Ot_84a := Lib.hid (own_below Ot_84a.out bt_185)
                                  replace Ot_126a := Lib.hid (Go.Proofs.YtpcdaoeijlifmaaDoor.GoN.nest_below Ot_126a.out bt_185)
                                  replace Ot_133a := Lib.hid (Go.Proofs.YtpcdaoeijlifmaaDoor.GoN.nest_below Ot_133a.out bt_185)
                                  clear bt_185
                                  replace H := bind_hid H
                                  obtain ⟨t_192, qt_192, H⟩ := H
                                  obtain ⟨t_192_id, t_192_wide, t_192_high, t_192_line⟩ := t_192
                                  replace H := unComb_hid H
                                  go_wp2_with fail
                                  go_at_call 26
                                  refine (Go.Proofs.YtpcdaoeijlifmaaDoor.GsDrawCombText.C tapes (code) A0 c0 _  HE (Lib.hid (Cells.below M0.out HBwt_185.out)) N0 V0 qt_192).mono ?_
                                  rintro e_t_192 wt_192 ⟨rfl, bt_192⟩
                                  unfold Go.Proofs.YtpcdaoeijlifmaaDoor.PComb.Comb.val
                                  have HBwt_192 := Lib.hid (Below.step HBwt_185.out bt_192)
                                  replace Ot_5a := Lib.hid (own_below Ot_5a.out bt_192)
                                  replace Ot_19a := Lib.hid (own_below Ot_19a.out bt_192)
                                  replace Ot_29a := Lib.hid (own_below Ot_29a.out bt_192)
                                  replace Ot_49a := Lib.hid (own_below Ot_49a.out bt_192)
                                  replace Ot_59a := Lib.hid (own_below Ot_59a.out bt_192)
                                  replace Ot_84a := Lib.hid (own_below Ot_84a.out bt_192)
                                  replace Ot_126a := Lib.hid (Go.Proofs.YtpcdaoeijlifmaaDoor.GoN.nest_below Ot_126a.out bt_192)
                                  replace Ot_133a := Lib.hid (Go.Proofs.YtpcdaoeijlifmaaDoor.GoN.nest_below Ot_133a.out bt_192)
                                  clear bt_192
                                  obtain ⟨w_x_193, hw_x_193⟩ : ∃ x, wt_192.alloc (.cells #[.int .i64 t_192_id, .int .i64 t_192_wide, .int .i64 t_192_high, .bool t_192_line] 43) = x := ⟨_, rfl⟩
                                  have bw_x_193 : Below wt_192.heap.size wt_192 w_x_193 := by rw [← hw_x_193]; exact (Below.refl _ _).alloc (Nat.le_refl _) _
                                  have Dx_193_t_5a := Lib.hid (apart_fresh Ot_5a.out)
                                  have Dx_193_t_19a := Lib.hid (apart_fresh Ot_19a.out)
                                  have Dx_193_t_29a := Lib.hid (apart_fresh Ot_29a.out)
                                  have Dx_193_t_49a := Lib.hid (apart_fresh Ot_49a.out)
                                  have Dx_193_t_59a := Lib.hid (apart_fresh Ot_59a.out)
                                  have Dx_193_t_84a := Lib.hid (apart_fresh Ot_84a.out)
                                  have Dx_193_t_126a := Lib.hid (Go.Proofs.YtpcdaoeijlifmaaDoor.GoN.nest_fresh Ot_126a.out)
                                  have Dx_193_t_133a := Lib.hid (Go.Proofs.YtpcdaoeijlifmaaDoor.GoN.nest_fresh Ot_133a.out)
                                  have HBw_x_193 := Lib.hid (Below.step HBwt_192.out bw_x_193)
                                  replace Ot_5a := Lib.hid (own_below Ot_5a.out bw_x_193)
                                  replace Ot_19a := Lib.hid (own_below Ot_19a.out bw_x_193)
                                  replace Ot_29a := Lib.hid (own_below Ot_29a.out bw_x_193)
                                  replace Ot_49a := Lib.hid (own_below Ot_49a.out bw_x_193)
                                  replace Ot_59a := Lib.hid (own_below Ot_59a.out bw_x_193)
                                  replace Ot_84a := Lib.hid (own_below Ot_84a.out bw_x_193)
                                  replace Ot_126a := Lib.hid (Go.Proofs.YtpcdaoeijlifmaaDoor.GoN.nest_below Ot_126a.out bw_x_193)
                                  replace Ot_133a := Lib.hid (Go.Proofs.YtpcdaoeijlifmaaDoor.GoN.nest_below Ot_133a.out bw_x_193)
                                  clear bw_x_193
                                  have kx_193_0 : w_x_193.cell? ⟨wt_192.heap.size, 0, none⟩ = some (.int .i64 t_192_id) := by rw [← hw_x_193]; exact box_new _ _ _ 0 _ rfl
                                  have kx_193_1 : w_x_193.cell? ⟨wt_192.heap.size, 1, none⟩ = some (.int .i64 t_192_wide) := by rw [← hw_x_193]; exact box_new _ _ _ 1 _ rfl
                                  have kx_193_2 : w_x_193.cell? ⟨wt_192.heap.size, 2, none⟩ = some (.int .i64 t_192_high) := by rw [← hw_x_193]; exact box_new _ _ _ 2 _ rfl
                                  have kx_193_3 : w_x_193.cell? ⟨wt_192.heap.size, 3, none⟩ = some (.bool t_192_line) := by rw [← hw_x_193]; exact box_new _ _ _ 3 _ rfl
                                  replace H := bind2_hid H
                                  obtain ⟨t_196a, t_196b, qt_196, H⟩ := H
                                  go_wp2_with fail
                                  go_at_call 27
                                  refine (Go.Proofs.YtpcdaoeijlifmaaDoor.GiCombText.C ((Go.Proofs.YtpcdaoeijlifmaaDoor.PComb.Comb.mk t_192_id t_192_wide t_192_high t_192_line))  _ (tab_below HBw_x_193.out HT)   qt_196).mono ?_
                                  rintro e_t_196 wt_196 ⟨rfl, bt_196⟩
                                  have HBwt_196 := Lib.hid (Below.step HBw_x_193.out bt_196)
                                  replace kx_193_0 := cell_below bt_196 kx_193_0
                                  replace kx_193_1 := cell_below bt_196 kx_193_1
                                  replace kx_193_2 := cell_below bt_196 kx_193_2
                                  replace kx_193_3 := cell_below bt_196 kx_193_3
                                  replace Ot_5a := Lib.hid (own_below Ot_5a.out bt_196)
                                  replace Ot_19a := Lib.hid (own_below Ot_19a.out bt_196)
                                  replace Ot_29a := Lib.hid (own_below Ot_29a.out bt_196)
                                  replace Ot_49a := Lib.hid (own_below Ot_49a.out bt_196)
                                  replace Ot_59a := Lib.hid (own_below Ot_59a.out bt_196)
                                  replace Ot_84a := Lib.hid (own_below Ot_84a.out bt_196)
                                  replace Ot_126a := Lib.hid (Go.Proofs.YtpcdaoeijlifmaaDoor.GoN.nest_below Ot_126a.out bt_196)
                                  replace Ot_133a := Lib.hid (Go.Proofs.YtpcdaoeijlifmaaDoor.GoN.nest_below Ot_133a.out bt_196)
                                  clear bt_196
                                  replace H := bind2_hid H
                                  obtain ⟨t_203a, t_203b, qt_203, H⟩ := H
                                  go_wp2_with fail
                                  go_at_call 28
                                  refine (Go.Proofs.YtpcdaoeijlifmaaDoor.GsCombText.C ((Go.Proofs.YtpcdaoeijlifmaaDoor.PComb.Comb.mk t_192_id t_192_wide t_192_high t_192_line))  _    qt_203).mono ?_
                                  rintro e_t_203 wt_203 ⟨rfl, bt_203⟩
                                  have HBwt_203 := Lib.hid (Below.step HBwt_196.out bt_203)
                                  replace kx_193_0 := cell_below bt_203 kx_193_0
                                  replace kx_193_1 := cell_below bt_203 kx_193_1
                                  replace kx_193_2 := cell_below bt_203 kx_193_2
                                  replace kx_193_3 := cell_below bt_203 kx_193_3
                                  replace Ot_5a := Lib.hid (own_below Ot_5a.out bt_203)
                                  replace Ot_19a := Lib.hid (own_below Ot_19a.out bt_203)
                                  replace Ot_29a := Lib.hid (own_below Ot_29a.out bt_203)
                                  replace Ot_49a := Lib.hid (own_below Ot_49a.out bt_203)
                                  replace Ot_59a := Lib.hid (own_below Ot_59a.out bt_203)
                                  replace Ot_84a := Lib.hid (own_below Ot_84a.out bt_203)
                                  replace Ot_126a := Lib.hid (Go.Proofs.YtpcdaoeijlifmaaDoor.GoN.nest_below Ot_126a.out bt_203)
                                  replace Ot_133a := Lib.hid (Go.Proofs.YtpcdaoeijlifmaaDoor.GoN.nest_below Ot_133a.out bt_203)
                                  clear bt_203
                                  replace H := let_hid H
                                  obtain ⟨t_211, ht_211, H⟩ := H
                                  replace H := join_hid H
                                  cases t_211 with
                                  | false =>
                                    replace H := ite_f H
                                    replace H := app_hid H
                                    replace H := join_hid H
                                    replace H := ite_f H
                                    replace H := app_hid H
                                    replace H := join_hid H
                                    replace H := ite_f H
                                    replace H := app_hid H
                                    replace H := join_hid H
                                    replace H := ite_f H
                                    replace H := app_hid H
                                    obtain rfl := ret_hid H
                                    go_wp2_with fail
                                    go_ret
                                    exact ⟨rfl, HBwt_203.out⟩
                                  | true =>
                                    replace H := ite_t H
                                    replace H := let_hid H
                                    obtain ⟨t_215, ht_215, H⟩ := H
                                    replace H := app_hid H
                                    replace H := join_hid H
                                    cases t_215 with
                                    | false =>
                                      replace H := ite_f H
                                      replace H := app_hid H
                                      replace H := join_hid H
                                      replace H := ite_f H
                                      replace H := app_hid H
                                      replace H := join_hid H
                                      replace H := ite_f H
                                      replace H := app_hid H
                                      obtain rfl := ret_hid H
                                      go_wp2_with fail
                                      go_ret
                                      exact ⟨rfl, HBwt_203.out⟩
                                    | true =>
                                      replace H := ite_t H
                                      replace H := let_hid H
                                      obtain ⟨t_220, ht_220, H⟩ := H
                                      replace H := app_hid H
                                      replace H := join_hid H
                                      cases t_220 with
                                      | false =>
                                        replace H := ite_f H
                                        replace H := app_hid H
                                        replace H := join_hid H
                                        replace H := ite_f H
                                        replace H := app_hid H
                                        obtain rfl := ret_hid H
                                        go_wp2_with fail
                                        go_ret
                                        exact ⟨rfl, HBwt_203.out⟩
                                      | true =>
                                        replace H := ite_t H
                                        replace H := let_hid H
                                        obtain ⟨t_225, ht_225, H⟩ := H
                                        replace H := app_hid H
                                        replace H := join_hid H
                                        cases t_225 with
                                        | false =>
                                          replace H := ite_f H
                                          replace H := app_hid H
                                          obtain rfl := ret_hid H
                                          go_wp2_with fail
                                          go_ret
                                          exact ⟨rfl, HBwt_203.out⟩
                                        | true =>
                                          replace H := ite_t H
                                          replace H := bind_hid H
                                          obtain ⟨t_229, qt_229, H⟩ := H
                                          go_wp2_with fail
                                          go_at_call 29
                                          refine (Go.Proofs.YtpcdaoeijlifmaaDoor.GiAreCombs.C (t_5a) At_5a ct_5a _   (Lib.hid (own_cells Ot_5a.out)) (Lib.hid (own_max Ot_5a.out)) qt_229).mono ?_
                                          rintro e_t_229 wt_229 ⟨rfl, bt_229⟩
                                          have HBwt_229 := Lib.hid (Below.step HBwt_203.out bt_229)
                                          replace kx_193_0 := cell_below bt_229 kx_193_0
                                          replace kx_193_1 := cell_below bt_229 kx_193_1
                                          replace kx_193_2 := cell_below bt_229 kx_193_2
                                          replace kx_193_3 := cell_below bt_229 kx_193_3
                                          replace Ot_5a := Lib.hid (own_below Ot_5a.out bt_229)
                                          replace Ot_19a := Lib.hid (own_below Ot_19a.out bt_229)
                                          replace Ot_29a := Lib.hid (own_below Ot_29a.out bt_229)
                                          replace Ot_49a := Lib.hid (own_below Ot_49a.out bt_229)
                                          replace Ot_59a := Lib.hid (own_below Ot_59a.out bt_229)
                                          replace Ot_84a := Lib.hid (own_below Ot_84a.out bt_229)
                                          replace Ot_126a := Lib.hid (Go.Proofs.YtpcdaoeijlifmaaDoor.GoN.nest_below Ot_126a.out bt_229)
                                          replace Ot_133a := Lib.hid (Go.Proofs.YtpcdaoeijlifmaaDoor.GoN.nest_below Ot_133a.out bt_229)
                                          clear bt_229
                                          replace H := bind_hid H
                                          obtain ⟨t_231, qt_231, H⟩ := H
                                          go_wp2_with fail
                                          go_at_call 30
                                          refine (Go.Proofs.YtpcdaoeijlifmaaDoor.GsAreCombs.C (t_5a) At_5a ct_5a _   (Lib.hid (own_cells Ot_5a.out)) (Lib.hid (own_max Ot_5a.out)) qt_231).mono ?_
                                          rintro e_t_231 wt_231 ⟨rfl, bt_231⟩
                                          have HBwt_231 := Lib.hid (Below.step HBwt_229.out bt_231)
                                          replace kx_193_0 := cell_below bt_231 kx_193_0
                                          replace kx_193_1 := cell_below bt_231 kx_193_1
                                          replace kx_193_2 := cell_below bt_231 kx_193_2
                                          replace kx_193_3 := cell_below bt_231 kx_193_3
                                          replace Ot_5a := Lib.hid (own_below Ot_5a.out bt_231)
                                          replace Ot_19a := Lib.hid (own_below Ot_19a.out bt_231)
                                          replace Ot_29a := Lib.hid (own_below Ot_29a.out bt_231)
                                          replace Ot_49a := Lib.hid (own_below Ot_49a.out bt_231)
                                          replace Ot_59a := Lib.hid (own_below Ot_59a.out bt_231)
                                          replace Ot_84a := Lib.hid (own_below Ot_84a.out bt_231)
                                          replace Ot_126a := Lib.hid (Go.Proofs.YtpcdaoeijlifmaaDoor.GoN.nest_below Ot_126a.out bt_231)
                                          replace Ot_133a := Lib.hid (Go.Proofs.YtpcdaoeijlifmaaDoor.GoN.nest_below Ot_133a.out bt_231)
                                          clear bt_231
                                          replace H := let_hid H
                                          obtain ⟨t_232, ht_232, H⟩ := H
                                          replace H := app_hid H
                                          obtain rfl := ret_hid H
                                          go_wp2_with fail
                                          go_ret
                                          exact ⟨rfl, HBwt_231.out⟩
                                | true =>
                                  obtain rfl : t_133b = true := by revert ht_141; cases t_133b <;> simp
                                  replace H := ite_t H
                                  replace H := let_hid H
                                  obtain ⟨t_171, ht_171, H⟩ := H
                                  replace H := app_hid H
                                  cases t_171 with
                                  | false =>
                                    replace H := ite_f H
                                    replace H := bind_hid H
                                    obtain ⟨t_175, qt_175, H⟩ := H
                                    go_wp2_with fail
                                    go_at_call 23
                                    refine (Go.Proofs.YtpcdaoeijlifmaaDoor.GsDrawGaugeText.C tapes (code) A0 c0 _  HE (Lib.hid (Cells.below M0.out HBwr1.out)) N0 V0 qt_175).mono ?_
                                    rintro e_t_175 wt_175 ⟨rfl, bt_175⟩
                                    have HBwt_175 := Lib.hid (Below.step HBwr1.out bt_175)
                                    replace Ot_5a := Lib.hid (own_below Ot_5a.out bt_175)
                                    replace Ot_19a := Lib.hid (own_below Ot_19a.out bt_175)
                                    replace Ot_29a := Lib.hid (own_below Ot_29a.out bt_175)
                                    replace Ot_49a := Lib.hid (own_below Ot_49a.out bt_175)
                                    replace Ot_59a := Lib.hid (own_below Ot_59a.out bt_175)
                                    replace Ot_84a := Lib.hid (own_below Ot_84a.out bt_175)
                                    replace Ot_126a := Lib.hid (Go.Proofs.YtpcdaoeijlifmaaDoor.GoN.nest_below Ot_126a.out bt_175)
                                    replace Ot_133a := Lib.hid (Go.Proofs.YtpcdaoeijlifmaaDoor.GoN.nest_below Ot_133a.out bt_175)
                                    clear bt_175
                                    replace H := bind2_hid H
                                    obtain ⟨t_178a, t_178b, qt_178, H⟩ := H
                                    go_wp2_with fail
                                    go_at_call 24
                                    refine (Go.Proofs.YtpcdaoeijlifmaaDoor.GiGaugeText.C (t_175)  _ (tab_below HBwt_175.out HT)   qt_178).mono ?_
                                    rintro e_t_178 wt_178 ⟨rfl, bt_178⟩
                                    have HBwt_178 := Lib.hid (Below.step HBwt_175.out bt_178)
                                    replace Ot_5a := Lib.hid (own_below Ot_5a.out bt_178)
                                    replace Ot_19a := Lib.hid (own_below Ot_19a.out bt_178)
                                    replace Ot_29a := Lib.hid (own_below Ot_29a.out bt_178)
                                    replace Ot_49a := Lib.hid (own_below Ot_49a.out bt_178)
                                    replace Ot_59a := Lib.hid (own_below Ot_59a.out bt_178)
                                    replace Ot_84a := Lib.hid (own_below Ot_84a.out bt_178)
                                    replace Ot_126a := Lib.hid (Go.Proofs.YtpcdaoeijlifmaaDoor.GoN.nest_below Ot_126a.out bt_178)
                                    replace Ot_133a := Lib.hid (Go.Proofs.YtpcdaoeijlifmaaDoor.GoN.nest_below Ot_133a.out bt_178)
                                    clear bt_178
                                    replace H := bind2_hid H
                                    obtain ⟨t_185a, t_185b, qt_185, H⟩ := H
                                    go_wp2_with fail
                                    go_at_call 25
                                    refine (Go.Proofs.YtpcdaoeijlifmaaDoor.GsGaugeText.C (t_175)  _    qt_185).mono ?_
                                    rintro e_t_185 wt_185 ⟨rfl, bt_185⟩
                                    have HBwt_185 := Lib.hid (Below.step HBwt_178.out bt_185)
                                    replace Ot_5a := Lib.hid (own_below Ot_5a.out bt_185)
                                    replace Ot_19a := Lib.hid (own_below Ot_19a.out bt_185)
                                    replace Ot_29a := Lib.hid (own_below Ot_29a.out bt_185)
                                    replace Ot_49a := Lib.hid (own_below Ot_49a.out bt_185)
                                    replace Ot_59a := Lib.hid (own_below Ot_59a.out bt_185)
                                    replace Ot_84a := Lib.hid (own_below Ot_84a.out bt_185)
                                    replace Ot_126a := Lib.hid (Go.Proofs.YtpcdaoeijlifmaaDoor.GoN.nest_below Ot_126a.out bt_185)
                                    replace Ot_133a := Lib.hid (Go.Proofs.YtpcdaoeijlifmaaDoor.GoN.nest_below Ot_133a.out bt_185)
                                    clear bt_185
                                    replace H := bind_hid H
                                    obtain ⟨t_192, qt_192, H⟩ := H
                                    obtain ⟨t_192_id, t_192_wide, t_192_high, t_192_line⟩ := t_192
                                    replace H := unComb_hid H
                                    go_wp2_with fail
                                    go_at_call 26
                                    refine (Go.Proofs.YtpcdaoeijlifmaaDoor.GsDrawCombText.C tapes (code) A0 c0 _  HE (Lib.hid (Cells.below M0.out HBwt_185.out)) N0 V0 qt_192).mono ?_
                                    rintro e_t_192 wt_192 ⟨rfl, bt_192⟩
                                    unfold Go.Proofs.YtpcdaoeijlifmaaDoor.PComb.Comb.val
                                    have HBwt_192 := Lib.hid (Below.step HBwt_185.out bt_192)
                                    replace Ot_5a := Lib.hid (own_below Ot_5a.out bt_192)
                                    replace Ot_19a := Lib.hid (own_below Ot_19a.out bt_192)
                                    replace Ot_29a := Lib.hid (own_below Ot_29a.out bt_192)
                                    replace Ot_49a := Lib.hid (own_below Ot_49a.out bt_192)
                                    replace Ot_59a := Lib.hid (own_below Ot_59a.out bt_192)
                                    replace Ot_84a := Lib.hid (own_below Ot_84a.out bt_192)
                                    replace Ot_126a := Lib.hid (Go.Proofs.YtpcdaoeijlifmaaDoor.GoN.nest_below Ot_126a.out bt_192)
                                    replace Ot_133a := Lib.hid (Go.Proofs.YtpcdaoeijlifmaaDoor.GoN.nest_below Ot_133a.out bt_192)
                                    clear bt_192
                                    obtain ⟨w_x_193, hw_x_193⟩ : ∃ x, wt_192.alloc (.cells #[.int .i64 t_192_id, .int .i64 t_192_wide, .int .i64 t_192_high, .bool t_192_line] 43) = x := ⟨_, rfl⟩
                                    have bw_x_193 : Below wt_192.heap.size wt_192 w_x_193 := by rw [← hw_x_193]; exact (Below.refl _ _).alloc (Nat.le_refl _) _
                                    have Dx_193_t_5a := Lib.hid (apart_fresh Ot_5a.out)
                                    have Dx_193_t_19a := Lib.hid (apart_fresh Ot_19a.out)
                                    have Dx_193_t_29a := Lib.hid (apart_fresh Ot_29a.out)
                                    have Dx_193_t_49a := Lib.hid (apart_fresh Ot_49a.out)
                                    have Dx_193_t_59a := Lib.hid (apart_fresh Ot_59a.out)
                                    have Dx_193_t_84a := Lib.hid (apart_fresh Ot_84a.out)
                                    have Dx_193_t_126a := Lib.hid (Go.Proofs.YtpcdaoeijlifmaaDoor.GoN.nest_fresh Ot_126a.out)
                                    have Dx_193_t_133a := Lib.hid (Go.Proofs.YtpcdaoeijlifmaaDoor.GoN.nest_fresh Ot_133a.out)
                                    have HBw_x_193 := Lib.hid (Below.step HBwt_192.out bw_x_193)
                                    replace Ot_5a := Lib.hid (own_below Ot_5a.out bw_x_193)
                                    replace Ot_19a := Lib.hid (own_below Ot_19a.out bw_x_193)
                                    replace Ot_29a := Lib.hid (own_below Ot_29a.out bw_x_193)
                                    replace Ot_49a := Lib.hid (own_below Ot_49a.out bw_x_193)
                                    replace Ot_59a := Lib.hid (own_below Ot_59a.out bw_x_193)
                                    replace Ot_84a := Lib.hid (own_below Ot_84a.out bw_x_193)
                                    replace Ot_126a := Lib.hid (Go.Proofs.YtpcdaoeijlifmaaDoor.GoN.nest_below Ot_126a.out bw_x_193)
                                    replace Ot_133a := Lib.hid (Go.Proofs.YtpcdaoeijlifmaaDoor.GoN.nest_below Ot_133a.out bw_x_193)
                                    clear bw_x_193
                                    have kx_193_0 : w_x_193.cell? ⟨wt_192.heap.size, 0, none⟩ = some (.int .i64 t_192_id) := by rw [← hw_x_193]; exact box_new _ _ _ 0 _ rfl
                                    have kx_193_1 : w_x_193.cell? ⟨wt_192.heap.size, 1, none⟩ = some (.int .i64 t_192_wide) := by rw [← hw_x_193]; exact box_new _ _ _ 1 _ rfl
                                    have kx_193_2 : w_x_193.cell? ⟨wt_192.heap.size, 2, none⟩ = some (.int .i64 t_192_high) := by rw [← hw_x_193]; exact box_new _ _ _ 2 _ rfl
                                    have kx_193_3 : w_x_193.cell? ⟨wt_192.heap.size, 3, none⟩ = some (.bool t_192_line) := by rw [← hw_x_193]; exact box_new _ _ _ 3 _ rfl
                                    replace H := bind2_hid H
                                    obtain ⟨t_196a, t_196b, qt_196, H⟩ := H
                                    go_wp2_with fail
                                    go_at_call 27
                                    refine (Go.Proofs.YtpcdaoeijlifmaaDoor.GiCombText.C ((Go.Proofs.YtpcdaoeijlifmaaDoor.PComb.Comb.mk t_192_id t_192_wide t_192_high t_192_line))  _ (tab_below HBw_x_193.out HT)   qt_196).mono ?_
                                    rintro e_t_196 wt_196 ⟨rfl, bt_196⟩
                                    have HBwt_196 := Lib.hid (Below.step HBw_x_193.out bt_196)
                                    replace kx_193_0 := cell_below bt_196 kx_193_0
                                    replace kx_193_1 := cell_below bt_196 kx_193_1
                                    replace kx_193_2 := cell_below bt_196 kx_193_2
                                    replace kx_193_3 := cell_below bt_196 kx_193_3
                                    replace Ot_5a := Lib.hid (own_below Ot_5a.out bt_196)
                                    replace Ot_19a := Lib.hid (own_below Ot_19a.out bt_196)
                                    replace Ot_29a := Lib.hid (own_below Ot_29a.out bt_196)
                                    replace Ot_49a := Lib.hid (own_below Ot_49a.out bt_196)
                                    replace Ot_59a := Lib.hid (own_below Ot_59a.out bt_196)
                                    replace Ot_84a := Lib.hid (own_below Ot_84a.out bt_196)
                                    replace Ot_126a := Lib.hid (Go.Proofs.YtpcdaoeijlifmaaDoor.GoN.nest_below Ot_126a.out bt_196)
                                    replace Ot_133a := Lib.hid (Go.Proofs.YtpcdaoeijlifmaaDoor.GoN.nest_below Ot_133a.out bt_196)
                                    clear bt_196
                                    replace H := bind2_hid H
                                    obtain ⟨t_203a, t_203b, qt_203, H⟩ := H
                                    go_wp2_with fail
                                    go_at_call 28
                                    refine (Go.Proofs.YtpcdaoeijlifmaaDoor.GsCombText.C ((Go.Proofs.YtpcdaoeijlifmaaDoor.PComb.Comb.mk t_192_id t_192_wide t_192_high t_192_line))  _    qt_203).mono ?_
                                    rintro e_t_203 wt_203 ⟨rfl, bt_203⟩
                                    have HBwt_203 := Lib.hid (Below.step HBwt_196.out bt_203)
                                    replace kx_193_0 := cell_below bt_203 kx_193_0
                                    replace kx_193_1 := cell_below bt_203 kx_193_1
                                    replace kx_193_2 := cell_below bt_203 kx_193_2
                                    replace kx_193_3 := cell_below bt_203 kx_193_3
                                    replace Ot_5a := Lib.hid (own_below Ot_5a.out bt_203)
                                    replace Ot_19a := Lib.hid (own_below Ot_19a.out bt_203)
                                    replace Ot_29a := Lib.hid (own_below Ot_29a.out bt_203)
                                    replace Ot_49a := Lib.hid (own_below Ot_49a.out bt_203)
                                    replace Ot_59a := Lib.hid (own_below Ot_59a.out bt_203)
                                    replace Ot_84a := Lib.hid (own_below Ot_84a.out bt_203)
                                    replace Ot_126a := Lib.hid (Go.Proofs.YtpcdaoeijlifmaaDoor.GoN.nest_below Ot_126a.out bt_203)
                                    replace Ot_133a := Lib.hid (Go.Proofs.YtpcdaoeijlifmaaDoor.GoN.nest_below Ot_133a.out bt_203)
                                    clear bt_203
                                    replace H := let_hid H
                                    obtain ⟨t_211, ht_211, H⟩ := H
                                    replace H := join_hid H
                                    cases t_211 with
                                    | false =>
                                      replace H := ite_f H
                                      replace H := app_hid H
                                      replace H := join_hid H
                                      replace H := ite_f H
                                      replace H := app_hid H
                                      replace H := join_hid H
                                      replace H := ite_f H
                                      replace H := app_hid H
                                      replace H := join_hid H
                                      replace H := ite_f H
                                      replace H := app_hid H
                                      obtain rfl := ret_hid H
                                      go_wp2_with fail
                                      go_ret
                                      exact ⟨rfl, HBwt_203.out⟩
                                    | true =>
                                      replace H := ite_t H
                                      replace H := let_hid H
                                      obtain ⟨t_215, ht_215, H⟩ := H
                                      replace H := app_hid H
                                      replace H := join_hid H
                                      cases t_215 with
                                      | false =>
                                        replace H := ite_f H
                                        replace H := app_hid H
                                        replace H := join_hid H
                                        replace H := ite_f H
                                        replace H := app_hid H
                                        replace H := join_hid H
                                        replace H := ite_f H
                                        replace H := app_hid H
                                        obtain rfl := ret_hid H
                                        go_wp2_with fail
                                        go_ret
                                        exact ⟨rfl, HBwt_203.out⟩
                                      | true =>
                                        replace H := ite_t H
                                        replace H := let_hid H
                                        obtain ⟨t_220, ht_220, H⟩ := H
                                        replace H := app_hid H
                                        replace H := join_hid H
                                        cases t_220 with
                                        | false =>
                                          replace H := ite_f H
                                          replace H := app_hid H
                                          replace H := join_hid H
                                          replace H := ite_f H
                                          replace H := app_hid H
                                          obtain rfl := ret_hid H
                                          go_wp2_with fail
                                          go_ret
                                          exact ⟨rfl, HBwt_203.out⟩
                                        | true =>
                                          replace H := ite_t H
                                          replace H := let_hid H
                                          obtain ⟨t_225, ht_225, H⟩ := H
                                          replace H := app_hid H
                                          replace H := join_hid H
                                          cases t_225 with
                                          | false =>
                                            replace H := ite_f H
                                            replace H := app_hid H
                                            obtain rfl := ret_hid H
                                            go_wp2_with fail
                                            go_ret
                                            exact ⟨rfl, HBwt_203.out⟩
                                          | true =>
                                            replace H := ite_t H
                                            replace H := bind_hid H
                                            obtain ⟨t_229, qt_229, H⟩ := H
                                            go_wp2_with fail
                                            go_at_call 29
                                            refine (Go.Proofs.YtpcdaoeijlifmaaDoor.GiAreCombs.C (t_5a) At_5a ct_5a _   (Lib.hid (own_cells Ot_5a.out)) (Lib.hid (own_max Ot_5a.out)) qt_229).mono ?_
                                            rintro e_t_229 wt_229 ⟨rfl, bt_229⟩
                                            have HBwt_229 := Lib.hid (Below.step HBwt_203.out bt_229)
                                            replace kx_193_0 := cell_below bt_229 kx_193_0
                                            replace kx_193_1 := cell_below bt_229 kx_193_1
                                            replace kx_193_2 := cell_below bt_229 kx_193_2
                                            replace kx_193_3 := cell_below bt_229 kx_193_3
                                            replace Ot_5a := Lib.hid (own_below Ot_5a.out bt_229)
                                            replace Ot_19a := Lib.hid (own_below Ot_19a.out bt_229)
                                            replace Ot_29a := Lib.hid (own_below Ot_29a.out bt_229)
                                            replace Ot_49a := Lib.hid (own_below Ot_49a.out bt_229)
                                            replace Ot_59a := Lib.hid (own_below Ot_59a.out bt_229)
                                            replace Ot_84a := Lib.hid (own_below Ot_84a.out bt_229)
                                            replace Ot_126a := Lib.hid (Go.Proofs.YtpcdaoeijlifmaaDoor.GoN.nest_below Ot_126a.out bt_229)
                                            replace Ot_133a := Lib.hid (Go.Proofs.YtpcdaoeijlifmaaDoor.GoN.nest_below Ot_133a.out bt_229)
                                            clear bt_229
                                            replace H := bind_hid H
                                            obtain ⟨t_231, qt_231, H⟩ := H
                                            go_wp2_with fail
                                            go_at_call 30
                                            refine (Go.Proofs.YtpcdaoeijlifmaaDoor.GsAreCombs.C (t_5a) At_5a ct_5a _   (Lib.hid (own_cells Ot_5a.out)) (Lib.hid (own_max Ot_5a.out)) qt_231).mono ?_
                                            rintro e_t_231 wt_231 ⟨rfl, bt_231⟩
                                            have HBwt_231 := Lib.hid (Below.step HBwt_229.out bt_231)
                                            replace kx_193_0 := cell_below bt_231 kx_193_0
                                            replace kx_193_1 := cell_below bt_231 kx_193_1
                                            replace kx_193_2 := cell_below bt_231 kx_193_2
                                            replace kx_193_3 := cell_below bt_231 kx_193_3
                                            replace Ot_5a := Lib.hid (own_below Ot_5a.out bt_231)
                                            replace Ot_19a := Lib.hid (own_below Ot_19a.out bt_231)
                                            replace Ot_29a := Lib.hid (own_below Ot_29a.out bt_231)
                                            replace Ot_49a := Lib.hid (own_below Ot_49a.out bt_231)
                                            replace Ot_59a := Lib.hid (own_below Ot_59a.out bt_231)
                                            replace Ot_84a := Lib.hid (own_below Ot_84a.out bt_231)
                                            replace Ot_126a := Lib.hid (Go.Proofs.YtpcdaoeijlifmaaDoor.GoN.nest_below Ot_126a.out bt_231)
                                            replace Ot_133a := Lib.hid (Go.Proofs.YtpcdaoeijlifmaaDoor.GoN.nest_below Ot_133a.out bt_231)
                                            clear bt_231
                                            replace H := let_hid H
                                            obtain ⟨t_232, ht_232, H⟩ := H
                                            replace H := app_hid H
                                            obtain rfl := ret_hid H
                                            go_wp2_with fail
                                            go_ret
                                            exact ⟨rfl, HBwt_231.out⟩
                                  | true =>
                                    replace H := ite_t H
                                    obtain rfl := ret_hid H
                                    go_wp2_with fail
                                    go_ret
                                    exact ⟨rfl, HBwr1.out⟩
                              | succ m1 =>
                                have hlt1 : k1 < t_126a.length := by omega
                                have hc1 : decide ((k1 : Int) < ((t_126a.length : Nat) : Int)) = true := by simp; omega
                                replace H := cnt_succ H
                                unfold l1 at H
                                replace H := let_hid H
                                obtain ⟨_, rfl, H⟩ := H
                                replace H := idx_hid H
                                obtain ⟨nt_158, yt_158, et_158, lt_158, gt_158, H⟩ := H
                                obtain rfl : k1 = nt_158 := by omega
                                clear et_158
                                obtain ⟨gt_158_, zt_158, Art_158, crt_158, eAt_158, zzt_158, hct_158, hot_158, hmt_158, hat_158⟩ := Go.Proofs.YtpcdaoeijlifmaaDoor.GoN.nest_own Ot_126a.out (k := k1) lt_158
                                obtain rfl := Option.some.inj (gt_158.out.symm.trans zzt_158)
                                clear zzt_158
                                subst eAt_158
                                have Ort_158 := Lib.hid hot_158
                                have mrt_158 := Lib.hid hmt_158
                                clear hot_158 hmt_158 hat_158
                                have b0t_158 : (0 : Int) ≤ (k1 : Int) := by omega
                                have b1t_158 : (k1 : Int) < ((t_126a.length : Nat) : Int) := by omega
                                have b2t_158 : ((k1 : Int)).toNat = k1 := by omega
                                replace H := let_hid H
                                obtain ⟨t_161, ht_161, H⟩ := H
                                replace H := app_hid H
                                go_wp2_with fail
                                go_roundg m1
                                case measure => omega
                                case rel => exact ⟨k1 + 1, _, by omega, by go_num, rfl, H, HBwr1, Ot_5a, Ot_19a, Ot_29a, Ot_49a, Ot_59a, Ot_84a, Ot_126a, Ot_133a⟩
                        | true =>
                          replace H := ite_t H
                          replace H := app_hid H
                          replace H := ite_t H
                          obtain rfl := ret_hid H
                          go_wp2_with fail
                          go_ret
                          exact ⟨rfl, HBwt_133.out⟩
                      | true =>
                        obtain rfl : t_29b = true := by revert ht_37; cases t_29b <;> simp
                        obtain rfl : t_49b = true := by revert ht_71; cases t_49b <;> simp
                        obtain rfl : t_59b = true := by revert ht_67; cases t_59b <;> simp
                        obtain rfl : t_84b = true := by revert ht_92; cases t_84b <;> simp
                        replace H := ite_t H
                        replace H := idx_hid H
                        obtain ⟨nt_104, yt_104, et_104, lt_104, gt_104, H⟩ := H
                        subst et_104
                        have nc_309 : nt_104 < t_5a.length := by have := of_decide_eq_true ht_98; omega
                        obtain ⟨t_104_id, t_104_wide, t_104_high, t_104_line⟩ := yt_104
                        replace H := unComb_hid H
                        obtain ⟨qt_104, Qt_104⟩ := own_some Ot_5a.out (by omega)
                        subst Qt_104
                        obtain ⟨ab_t_104, ao_t_104, zt_104, At_104, z_t_104, ct_104_0, ct_104_1, ct_104_2, ct_104_3⟩ := Go.Proofs.YtpcdaoeijlifmaaDoor.OComb.at_ (own_cells Ot_5a.out) (k := nt_104) (by omega)
                        obtain rfl := Option.some.inj (gt_104.out.symm.trans z_t_104)
                        simp only [Option.some.injEq, Addr.mk.injEq] at At_104
                        obtain ⟨rfl, rfl, _⟩ := At_104
                        clear z_t_104
                        simp only [Nat.zero_add] at ct_104_0 ct_104_1 ct_104_2 ct_104_3
                        have b0t_104 : (0 : Int) ≤ (nt_104 : Int) := by omega
                        have b1t_104 : (nt_104 : Int) < ((t_5a.length : Nat) : Int) := by omega
                        have b2t_104 : ((nt_104 : Int)).toNat = nt_104 := by omega
                        replace H := bind_hid H
                        obtain ⟨t_110, qt_110, H⟩ := H
                        go_wp2_with fail
                        go_at_call 19
                        refine (Go.Proofs.YtpcdaoeijlifmaaDoor.GlRHas.C (t_49a) (t_104_id) At_49a ct_49a _   (Lib.hid (own_cells Ot_49a.out)) (Lib.hid (own_max Ot_49a.out)) qt_110).mono ?_
                        rintro e_t_110 wt_110 ⟨rfl, bt_110⟩
                        have HBwt_110 := Lib.hid (Below.step HBwr0.out bt_110)
                        replace ct_104_0 := cell_below bt_110 ct_104_0
                        replace ct_104_1 := cell_below bt_110 ct_104_1
                        replace ct_104_2 := cell_below bt_110 ct_104_2
                        replace ct_104_3 := cell_below bt_110 ct_104_3
                        replace Ot_5a := Lib.hid (own_below Ot_5a.out bt_110)
                        replace Ot_19a := Lib.hid (own_below Ot_19a.out bt_110)
                        replace Ot_29a := Lib.hid (own_below Ot_29a.out bt_110)
                        replace Ot_49a := Lib.hid (own_below Ot_49a.out bt_110)
                        replace Ot_59a := Lib.hid (own_below Ot_59a.out bt_110)
                        replace Ot_84a := Lib.hid (own_below Ot_84a.out bt_110)
                        clear bt_110
                        replace H := bind_hid H
                        obtain ⟨t_113, qt_113, H⟩ := H
                        go_wp2_with fail
                        go_at_call 19
                        refine (Go.Proofs.YtpcdaoeijlifmaaDoor.GlRHas.C (t_84a) (t_104_id) At_84a ct_84a _   (Lib.hid (own_cells Ot_84a.out)) (Lib.hid (own_max Ot_84a.out)) qt_113).mono ?_
                        rintro e_t_113 wt_113 ⟨rfl, bt_113⟩
                        have HBwt_113 := Lib.hid (Below.step HBwt_110.out bt_113)
                        replace ct_104_0 := cell_below bt_113 ct_104_0
                        replace ct_104_1 := cell_below bt_113 ct_104_1
                        replace ct_104_2 := cell_below bt_113 ct_104_2
                        replace ct_104_3 := cell_below bt_113 ct_104_3
                        replace Ot_5a := Lib.hid (own_below Ot_5a.out bt_113)
                        replace Ot_19a := Lib.hid (own_below Ot_19a.out bt_113)
                        replace Ot_29a := Lib.hid (own_below Ot_29a.out bt_113)
                        replace Ot_49a := Lib.hid (own_below Ot_49a.out bt_113)
                        replace Ot_59a := Lib.hid (own_below Ot_59a.out bt_113)
                        replace Ot_84a := Lib.hid (own_below Ot_84a.out bt_113)
                        clear bt_113
                        replace H := join_hid H
                        cases t_113 with
                        | false =>
                          replace H := ite_f H
                          replace H := app_hid H
                          cases t_110 with
                          | false =>
                            replace H := let_hid H
                            obtain ⟨t_120, ht_120, H⟩ := H
                            obtain rfl : t_120 = false := ht_120.symm
                            replace H := ite_f H
                            replace H := let_hid H
                            obtain ⟨t_123, ht_123, H⟩ := H
                            replace H := app_hid H
                            go_wp2_with fail
                            go_roundg m0
                            case measure => omega
                            case rel => exact ⟨_, rfl, H, HBwt_113, Ot_5a, Ot_19a, Ot_29a, Ot_49a, Ot_59a, Ot_84a⟩
                          | true =>
                            replace H := let_hid H
                            obtain ⟨t_120, ht_120, H⟩ := H
                            obtain rfl : t_120 = true := ht_120.symm
                            replace H := ite_t H
                            obtain rfl := ret_hid H
                            go_wp2_with fail
                            go_ret
                            exact ⟨rfl, HBwt_113.out⟩
                        | true =>
                          replace H := ite_t H
                          replace H := bind_hid H
                          obtain ⟨t_117, qt_117, H⟩ := H
                          go_wp2_with fail
                          go_at_call 19
                          refine (Go.Proofs.YtpcdaoeijlifmaaDoor.GlRHas.C (t_19a) (t_104_id) At_19a ct_19a _   (Lib.hid (own_cells Ot_19a.out)) (Lib.hid (own_max Ot_19a.out)) qt_117).mono ?_
                          rintro e_t_117 wt_117 ⟨rfl, bt_117⟩
                          have HBwt_117 := Lib.hid (Below.step HBwt_113.out bt_117)
                          replace ct_104_0 := cell_below bt_117 ct_104_0
                          replace ct_104_1 := cell_below bt_117 ct_104_1
                          replace ct_104_2 := cell_below bt_117 ct_104_2
                          replace ct_104_3 := cell_below bt_117 ct_104_3
                          replace Ot_5a := Lib.hid (own_below Ot_5a.out bt_117)
                          replace Ot_19a := Lib.hid (own_below Ot_19a.out bt_117)
                          replace Ot_29a := Lib.hid (own_below Ot_29a.out bt_117)
                          replace Ot_49a := Lib.hid (own_below Ot_49a.out bt_117)
                          replace Ot_59a := Lib.hid (own_below Ot_59a.out bt_117)
                          replace Ot_84a := Lib.hid (own_below Ot_84a.out bt_117)
                          clear bt_117
                          cases t_117 with
                          | false =>
                            replace H := let_hid H
                            obtain ⟨t_118, ht_118, H⟩ := H
                            obtain rfl : t_118 = true := ht_118.symm
                            replace H := app_hid H
                            cases t_110 with
                            | false =>
                              replace H := let_hid H
                              obtain ⟨t_120, ht_120, H⟩ := H
                              obtain rfl : t_120 = true := ht_120.symm
                              replace H := ite_t H
                              obtain rfl := ret_hid H
                              go_wp2_with fail
                              go_ret
                              exact ⟨rfl, HBwt_117.out⟩
                            | true =>
                              replace H := let_hid H
                              obtain ⟨t_120, ht_120, H⟩ := H
                              obtain rfl : t_120 = false := ht_120.symm
                              replace H := ite_f H
                              replace H := let_hid H
                              obtain ⟨t_123, ht_123, H⟩ := H
                              replace H := app_hid H
                              go_wp2_with fail
                              go_roundg m0
                              case measure => omega
                              case rel => exact ⟨_, rfl, H, HBwt_117, Ot_5a, Ot_19a, Ot_29a, Ot_49a, Ot_59a, Ot_84a⟩
                          | true =>
                            replace H := let_hid H
                            obtain ⟨t_118, ht_118, H⟩ := H
                            obtain rfl : t_118 = false := ht_118.symm
                            replace H := app_hid H
                            cases t_110 with
                            | false =>
                              replace H := let_hid H
                              obtain ⟨t_120, ht_120, H⟩ := H
                              obtain rfl : t_120 = false := ht_120.symm
                              replace H := ite_f H
                              replace H := let_hid H
                              obtain ⟨t_123, ht_123, H⟩ := H
                              replace H := app_hid H
                              go_wp2_with fail
                              go_roundg m0
                              case measure => omega
                              case rel => exact ⟨_, rfl, H, HBwt_117, Ot_5a, Ot_19a, Ot_29a, Ot_49a, Ot_59a, Ot_84a⟩
                            | true =>
                              replace H := let_hid H
                              obtain ⟨t_120, ht_120, H⟩ := H
                              obtain rfl : t_120 = true := ht_120.symm
                              replace H := ite_t H
                              obtain rfl := ret_hid H
                              go_wp2_with fail
                              go_ret
                              exact ⟨rfl, HBwt_117.out⟩
              | true =>
                replace H := ite_t H
                obtain rfl := ret_hid H
                go_wp2_with fail
                go_ret
                exact ⟨rfl, HBwt_84.out⟩
          | true =>
            replace H := ite_t H
            replace H := app_hid H
            replace H := ite_t H
            obtain rfl := ret_hid H
            go_wp2_with fail
            go_ret
            exact ⟨rfl, HBwt_59.out⟩
        | true =>
          replace H := ite_t H
          replace H := app_hid H
          replace H := join_hid H
          replace H := ite_t H
          replace H := app_hid H
          replace H := ite_t H
          obtain rfl := ret_hid H
          go_wp2_with fail
          go_ret
          exact ⟨rfl, HBwt_59.out⟩
    | true =>
      replace H := ite_t H
      replace H := app_hid H
      replace H := ite_t H
      obtain rfl := ret_hid H
      go_wp2_with fail
      go_ret
      exact ⟨rfl, HBwt_29.out⟩
  | true =>
    replace H := ite_t H
    obtain rfl := ret_hid H
    go_wp2_with fail
    go_ret
    exact ⟨rfl, HBwt_2.out⟩
end Go.Proofs.YtpcdaoeijlifmaaDoor.GlFnCombs

/- What the rows' lists of the library's tables give: the table of powers of ten holds what Itoa reads. Condition: the row's list is met. -/
namespace Go.Proofs.YtpcdaoeijlifmaaDoor.DoorLaid

theorem gPow : Tryd.prog.globalNamed "internal/strconv.uint64pow10" = some 5 := by kernel_rfl
def keepPow (x : String × DataW Unit) : Bool := x.1 == "internal/strconv.uint64pow10"
theorem gPowType : (Tryd.prog.globals[5]?).map (·.type) = some 152 := by kernel_rfl
theorem cellsPow : Tryd.prog.cellsOf 152 = 20 := by kernel_rfl
theorem cellsU64 : Tryd.prog.cellsOf 76 = 1 := by kernel_rfl

/-- Of whatever list holds the table at its own datum: the table is there. -/
theorem pow10 {l : List (String × DataW Unit)} {W : World} (h : laidMetH Tryd.prog l W) (hl : l.filter keepPow = [("internal/strconv.uint64pow10", Lib.tabData .u64 Lib.pow10Tab)]) :
    Lib.TabIs Tryd.prog W "internal/strconv.uint64pow10" .u64 Lib.pow10Tab := by
  have h1 := laidMetH.filter keepPow h
  rw [hl] at h1
  exact Lib.tabIs_of_head (rest := []) gPow gPowType Tryd.underlying152 Tryd.underlying76 cellsU64 cellsPow h1
end Go.Proofs.YtpcdaoeijlifmaaDoor.DoorLaid

/- Plain words on stamps: what a stamp is, when one is valid, when a list of them is; the cells of a list of records. No condition. -/
namespace Go.Proofs.YtpcdaoeijlifmaaDoor.PlainStamp
set_option linter.unusedVariables false

/-- a number lies in a..b -/
def inB (x a b : Int) : Bool := decide (a ≤ x ∧ x ≤ b)
theorem inB_yes {x a b : Int} (h1 : a ≤ x) (h2 : x ≤ b) : inB x a b = true := by unfold inB; exact decide_eq_true ⟨h1, h2⟩
theorem inB_of {x a b : Int} (h : inB x a b = true) : a ≤ x ∧ x ≤ b := by unfold inB at h; exact of_decide_eq_true h
theorem inB_no {x a b : Int} (h : x < a ∨ b < x) : inB x a b = false := by unfold inB; exact decide_eq_false (by omega)

structure St where
  id : Int
  face : Int
  color : Int
  year : Int
deriving DecidableEq

def St.cells (s : St) : List Value := [.int .i64 s.id, .int .i64 s.face, .int .i64 s.color, .int .i64 s.year]
def St.val (s : St) : Value := .agg #[.int .i64 s.id, .int .i64 s.face, .int .i64 s.color, .int .i64 s.year]
/-- each field fits an int -/
def St.fits (s : St) : Prop := (Lit.int .i64 s.id).wf = true ∧ (Lit.int .i64 s.face).wf = true ∧ (Lit.int .i64 s.color).wf = true ∧ (Lit.int .i64 s.year).wf = true

def okSt (s : St) : Bool := inB s.id 1 999 && inB s.face 0 9999 && inB s.color 0 99 && inB s.year 1840 2100
theorem okSt_yes {s : St} (h : okSt s = true) : (1 ≤ s.id ∧ s.id ≤ 999) ∧ (0 ≤ s.face ∧ s.face ≤ 9999) ∧ (0 ≤ s.color ∧ s.color ≤ 99) ∧ (1840 ≤ s.year ∧ s.year ≤ 2100) := by
  unfold okSt at h
  simp only [Bool.and_eq_true] at h
  exact ⟨inB_of h.1.1.1, inB_of h.1.1.2, inB_of h.1.2, inB_of h.2⟩

/-- the stamp at k is valid, and its id is above the one ahead of it -/
def okAt (l : List St) (k : Nat) : Bool :=
  match l[k]? with
  | none => true
  | some s => okSt s && (decide (k = 0) || (match l[k-1]? with | none => true | some r => decide (r.id < s.id)))
def okUp (l : List St) (k : Nat) : Bool := (List.range k).all (okAt l)
theorem okUp_zero (l : List St) : okUp l 0 = true := by simp [okUp]
theorem okUp_succ (l : List St) (k : Nat) : okUp l (k + 1) = (okUp l k && okAt l k) := by simp [okUp, List.range_succ, List.all_append]
theorem okUp_not {l : List St} {k n : Nat} (h : okAt l k = false) (hk : k < n) : okUp l n = false := by
  unfold okUp
  rw [Bool.eq_false_iff]
  intro hall
  have := List.all_eq_true.1 hall k (List.mem_range.2 hk)
  rw [h] at this; exact absurd this (by simp)
/-- a list of at most twelve valid stamps with rising ids -/
def okSts (l : List St) : Bool := decide (l.length ≤ 12) && okUp l l.length
theorem okAt_of {l : List St} {k : Nat} {s : St} (hs : l[k]? = some s) (h : okAt l k = true) : okSt s = true ∧ ∀ r, 0 < k → l[k-1]? = some r → r.id < s.id := by
  unfold okAt at h
  rw [hs] at h
  simp only [Bool.and_eq_true, Bool.or_eq_true, decide_eq_true_eq] at h
  refine ⟨h.1, fun r hk hr => ?_⟩
  rcases h.2 with h0 | h0
  · omega
  · rw [hr] at h0; simpa using h0
theorem okSts_len {l : List St} (h : okSts l = true) : l.length ≤ 12 := by unfold okSts at h; simp only [Bool.and_eq_true, decide_eq_true_eq] at h; exact h.1
theorem okSts_at {l : List St} (h : okSts l = true) {k : Nat} {s : St} (hs : l[k]? = some s) : okSt s = true ∧ ∀ r, 0 < k → l[k-1]? = some r → r.id < s.id := by
  unfold okSts at h
  simp only [Bool.and_eq_true, decide_eq_true_eq] at h
  exact okAt_of hs (List.all_eq_true.1 h.2 k (List.mem_range.2 (List.getElem?_eq_some_iff.1 hs).1))
theorem okSts_mem {l : List St} (h : okSts l = true) {s : St} (hs : s ∈ l) : okSt s = true := by
  obtain ⟨k, hk⟩ := List.getElem?_of_mem hs
  exact (okSts_at h hk).1

/-- the cells of a list of stamps, one after the other -/
def flat (l : List St) : List Value := l.flatMap St.cells
theorem flat_nil : flat [] = [] := rfl
theorem flat_cons (s : St) (l : List St) : flat (s :: l) = s.cells ++ flat l := by simp [flat]
theorem flat_len (l : List St) : (flat l).length = l.length * 4 := by
  induction l with
  | nil => rfl
  | cons s l ih => rw [flat_cons, List.length_append, ih]; simp [St.cells]; omega
theorem flat_at : ∀ (l : List St) (k : Nat) (s : St), l[k]? = some s → ∀ j, j < 4 → (flat l)[k * 4 + j]? = s.cells[j]?
  | [], k, s, h, _, _ => by simp at h
  | r :: l, 0, s, h, j, hj => by
    obtain rfl : r = s := by simpa using h
    rw [flat_cons, List.getElem?_append_left (by simp [St.cells]; omega)]; simp
  | r :: l, k + 1, s, h, j, hj => by
    rw [flat_cons, List.getElem?_append_right (by simp [St.cells]; omega), show (k + 1) * 4 + j - r.cells.length = k * 4 + j by simp [St.cells]; omega]
    exact flat_at l k s (by simpa using h) j hj
end Go.Proofs.YtpcdaoeijlifmaaDoor.PlainStamp

/- Words for reckoning with plain functions; within and l1In. No condition. -/
namespace Go.Proofs.YtpcdaoeijlifmaaDoor.QBase
set_option linter.unusedVariables false
set_option linter.unusedSimpArgs false
open Go.RowKit
open Go.Proofs.YtpcdaoeijlifmaaDoor.GoP Go.Proofs.YtpcdaoeijlifmaaDoor.PlainStamp

theorem iteK_if {ρ : Type} (c : Bool) (a b : Option ρ) : iteK c a b = if c = true then a else b := by cases c <;> rfl
theorem bind2_some {α β ρ : Type} (a : α) (b : β) (f : α → β → Option ρ) : bind2 (some (a, b)) f = f a b := rfl
theorem bind3_some {α β γ ρ : Type} (a : α) (b : β) (c : γ) (f : α → β → γ → Option ρ) : bind3 (some (a, b, c)) f = f a b c := rfl
theorem unp2_mk {α β ρ : Type} (a : α) (b : β) (f : α → β → Option ρ) : unp2 (a, b) f = f a b := rfl
theorem unp3_mk {α β γ ρ : Type} (a : α) (b : β) (c : γ) (f : α → β → γ → Option ρ) : unp3 (a, b, c) f = f a b c := rfl
theorem guardK_pos {ρ : Type} {p : Prop} [Decidable p] {a : Option ρ} (h : p) : guardK p a = a := if_pos h
theorem cut2 {α β : Type} {x : Option (α × β)} {p : α × β} (h : x = some p) : x = some (p.1, p.2) := h
theorem cut3 {α β γ : Type} {x : Option (α × β × γ)} {p : α × β × γ} (h : x = some p) : x = some (p.1, p.2.1, p.2.2) := h
theorem within_eq (n a b : Int) : GiWithin.P n a b = some (inB n a b) := by
  simp only [GiWithin.P, letK, joinK, appK, iteK_if, inB]
  by_cases h1 : a ≤ n <;> by_cases h2 : n ≤ b <;> simp [h1, h2]
theorem l1In_eq (n a b : Int) : GsL1In.P n a b = some (inB n a b) := by
  simp only [GsL1In.P, letK, joinK, appK, iteK_if, inB]
  by_cases h1 : a ≤ n <;> by_cases h2 : n ≤ b <;> simp [h1, h2]
end Go.Proofs.YtpcdaoeijlifmaaDoor.QBase

/- Plain facts on decimal numerals: what a row of digits is worth, and that a numeral read back is its number. No condition. -/
namespace Go.Proofs.YtpcdaoeijlifmaaDoor.PlainNum

def step (a : Nat) (c : UInt8) : Nat := 10 * a + (c.toNat - 48)
def dv (l : List UInt8) : Nat := l.foldl step 0
def Digs (l : List UInt8) : Prop := ∀ c ∈ l, 48 ≤ c.toNat ∧ c.toNat ≤ 57

theorem dv_snoc (l : List UInt8) (c : UInt8) : dv (l ++ [c]) = 10 * dv l + (c.toNat - 48) := by
  unfold dv; rw [List.foldl_append]; rfl

theorem fold_lt (l : List UInt8) : ∀ a, Digs l → l.foldl step a < (a + 1) * 10 ^ l.length := by
  induction l with
  | nil => intro a _; simp
  | cons c r ih =>
    intro a h
    have hc := h c (by simp)
    have h1 := ih (step a c) (fun x hx => h x (by simp [hx]))
    have h2 : (step a c + 1) * 10 ^ r.length ≤ (10 * (a + 1)) * 10 ^ r.length := Nat.mul_le_mul_right _ (by unfold step; omega)
    have h3 : (10 * (a + 1)) * 10 ^ r.length = (a + 1) * 10 ^ (r.length + 1) := by rw [Nat.pow_succ, Nat.mul_comm 10 (a + 1), Nat.mul_assoc, Nat.mul_comm 10]
    rw [List.foldl_cons, List.length_cons]
    omega

theorem dv_lt (l : List UInt8) (h : Digs l) : dv l < 10 ^ l.length := by
  have := fold_lt l 0 h
  unfold dv; omega

theorem dv_lt6 (l : List UInt8) (h : Digs l) (hl : l.length ≤ 6) : dv l < 1000000 := by
  have h1 := dv_lt l h
  have h2 : 10 ^ l.length ≤ 10 ^ 6 := Nat.pow_le_pow_right (by omega) hl
  omega

theorem digit_toNat (i : Nat) (h : i < 10) : (UInt8.ofNat (48 + i)).toNat = 48 + i := by
  rw [UInt8.toNat_ofNat']; omega

theorem digs_dec (u : Nat) : Digs (Lib.decDigits u) := by
  induction u using Nat.strongRecOn with
  | _ u ih =>
    rw [Lib.decDigits]
    by_cases h : u < 10
    · rw [dif_pos h]
      intro c hc
      obtain rfl : c = UInt8.ofNat (48 + u) := by simpa using hc
      rw [digit_toNat u h]; omega
    · rw [dif_neg h]
      intro c hc
      rcases List.mem_append.1 hc with h1 | h1
      · exact ih (u / 10) (by omega) c h1
      · obtain rfl : c = UInt8.ofNat (48 + u % 10) := by simpa using h1
        rw [digit_toNat _ (by omega)]; omega

theorem dv_dec (u : Nat) : dv (Lib.decDigits u) = u := by
  induction u using Nat.strongRecOn with
  | _ u ih =>
    rw [Lib.decDigits]
    by_cases h : u < 10
    · rw [dif_pos h]
      show step 0 (UInt8.ofNat (48 + u)) = u
      unfold step; rw [digit_toNat u h]; omega
    · rw [dif_neg h, dv_snoc, ih (u / 10) (by omega), digit_toNat _ (by omega)]; omega

theorem nd_le (k : Nat) : ∀ u, u < 10 ^ (k + 1) → Lib.nDigits u ≤ k + 1 := by
  induction k with
  | zero => intro u h; rw [Lib.nDigits_small (by omega)]; omega
  | succ k ih =>
    intro u h
    by_cases h10 : u < 10
    · rw [Lib.nDigits_small h10]; omega
    · rw [Lib.nDigits_big h10]
      have := ih (u / 10) (by rw [Nat.pow_succ] at h; omega)
      omega

theorem len_dec (u : Nat) (h : u ≤ 999999) : 1 ≤ (Lib.decDigits u).length ∧ (Lib.decDigits u).length ≤ 6 := by
  rw [Lib.decDigits_length]
  exact ⟨Lib.nDigits_pos u, nd_le 5 u (by omega)⟩

theorem decFrom_dv (l : List UInt8) : ∀ a, Digs l → Lib.decFrom a l = some (l.foldl step a) := by
  induction l with
  | nil => intro a _; rfl
  | cons c r ih =>
    intro a h
    have hc := h c (by simp)
    have e : Lib.digitVal c = some (c.toNat - 48) := by unfold Lib.digitVal; rw [if_pos hc]
    rw [Lib.decFrom, e]
    show Lib.decFrom (a * 10 + (c.toNat - 48)) r = _
    rw [ih _ (fun x hx => h x (by simp [hx])), Nat.mul_comm a 10]
    rfl

theorem decNat_dec (u : Nat) (h : u ≤ 999999) : Lib.decNat (Lib.decDigits u) = some u := by
  have hl := (len_dec u h).1
  unfold Lib.decNat
  rw [if_neg (by intro e; rw [List.isEmpty_iff] at e; rw [e] at hl; simp at hl), decFrom_dv _ 0 (digs_dec u)]
  exact congrArg some (dv_dec u)

/-- l is the numeral of n -/
def Inv (l : List UInt8) (n : Int) : Prop := -999999 ≤ n ∧ n ≤ 999999 ∧ Lib.itoa n = l

theorem itoa_cases (n : Int) : (n < 0 ∧ Lib.itoa n = 45 :: Lib.decDigits n.natAbs) ∨ (0 ≤ n ∧ Lib.itoa n = Lib.decDigits n.natAbs) := by
  by_cases h : n < 0
  · left; refine ⟨h, ?_⟩; unfold Lib.itoa; rw [if_pos h]
  · right; refine ⟨by omega, ?_⟩; unfold Lib.itoa; rw [if_neg h]; congr 1; omega

theorem itoa_len (n : Int) (h1 : -999999 ≤ n) (h2 : n ≤ 999999) : 1 ≤ (Lib.itoa n).length ∧ (Lib.itoa n).length ≤ 7 := by
  have := len_dec n.natAbs (by omega)
  rcases itoa_cases n with ⟨_, e⟩ | ⟨_, e⟩
  · rw [e, List.length_cons]; omega
  · rw [e]; omega

theorem atoi_itoa (n : Int) (h1 : -999999 ≤ n) (h2 : n ≤ 999999) : Lib.atoiAll (Lib.itoa n) = .ok n := by
  rw [Lib.atoiAll_short _ (by have := itoa_len n h1 h2; omega)]
  have hd := decNat_dec n.natAbs (by omega)
  rcases itoa_cases n with ⟨hn, e⟩ | ⟨hn, e⟩
  · rw [e]
    show Lib.NumEnd.ofOption ((Lib.decNat (Lib.decDigits n.natAbs)).map fun (m : Nat) => -(m : Int)) = _
    rw [hd]
    show Lib.NumEnd.ok (-((n.natAbs : Nat) : Int)) = _
    congr 1; omega
  · rw [e]
    have hl := len_dec n.natAbs (by omega)
    have hg := digs_dec n.natAbs
    cases hx : Lib.decDigits n.natAbs with
    | nil => rw [hx] at hl; simp at hl
    | cons b r =>
      rw [hx] at hg hd
      have hb := hg b (by simp)
      have e1 : (b == 45) = false := by
        rw [beq_eq_false_iff_ne]; rintro rfl; have : (45 : UInt8).toNat = 45 := rfl; omega
      have e2 : (b == 43) = false := by
        rw [beq_eq_false_iff_ne]; rintro rfl; have : (43 : UInt8).toNat = 43 := rfl; omega
      unfold Lib.atoi
      simp only [e1, e2, Bool.false_eq_true, if_false, hd]
      show Lib.NumEnd.ok ((n.natAbs : Nat) : Int) = _
      congr 1; omega

theorem Inv.uniq {l : List UInt8} {n m : Int} (h : Inv l n) (k : Inv l m) : n = m := by
  have e1 := atoi_itoa n h.1 h.2.1
  have e2 := atoi_itoa m k.1 k.2.1
  rw [h.2.2] at e1
  rw [k.2.2] at e2
  rw [e1] at e2
  injection e2

/-- how a numeral's reading ends: the number and true; else 0 and false -/
def Rd (l : List UInt8) (v : Int) (b : Bool) : Prop := (b = true ∧ Inv l v) ∨ (b = false ∧ v = 0 ∧ ∀ n, ¬ Inv l n)

theorem Rd.uniq {l : List UInt8} {v v' : Int} {b b' : Bool} (h : Rd l v b) (k : Rd l v' b') : v = v' ∧ b = b' := by
  rcases h with ⟨rfl, h⟩ | ⟨rfl, rfl, h⟩ <;> rcases k with ⟨rfl, k⟩ | ⟨rfl, rfl, k⟩
  · exact ⟨h.uniq k, rfl⟩
  · exact absurd h (k _)
  · exact absurd k (h _)
  · exact ⟨rfl, rfl⟩

theorem Rd.no {l : List UInt8} (h : ∀ n, ¬ Inv l n) : Rd l 0 false := .inr ⟨rfl, rfl, h⟩
theorem Rd.yes {l : List UInt8} {n : Int} (h : Inv l n) : Rd l n true := .inl ⟨rfl, h⟩

theorem neg_head {r : List UInt8} {n : Int} (h : Inv (45 :: r) n) : n < 0 ∧ r = Lib.decDigits n.natAbs := by
  obtain ⟨h1, h2, h3⟩ := h
  rcases itoa_cases n with ⟨hn, e⟩ | ⟨hn, e⟩
  · rw [e] at h3; injection h3 with _ h3; exact ⟨hn, h3.symm⟩
  · rw [e] at h3
    have := digs_dec n.natAbs 45 (by rw [h3]; simp)
    have e45 : (45 : UInt8).toNat = 45 := rfl
    omega

theorem pos_head {l : List UInt8} {n : Int} (h : Inv l n) (h45 : l.head? ≠ some 45) : 0 ≤ n ∧ l = Lib.decDigits n.natAbs := by
  obtain ⟨h1, h2, h3⟩ := h
  rcases itoa_cases n with ⟨hn, e⟩ | ⟨hn, e⟩
  · rw [e] at h3; subst h3; simp at h45
  · exact ⟨hn, by rw [← h3, e]⟩

/-- the numeral behind the sign -/
theorem no_minus {r : List UInt8} (h : r.length = 0 ∨ 6 < r.length ∨ ¬ Digs r) (n : Int) : ¬ Inv (45 :: r) n := by
  intro k
  obtain ⟨hn, rfl⟩ := neg_head k
  have hl := len_dec n.natAbs (by have := k.1; omega)
  have hd := digs_dec n.natAbs
  rcases h with h | h | h
  · omega
  · omega
  · exact h hd

theorem no_plain {l : List UInt8} (h45 : l.head? ≠ some 45) (h : l.length = 0 ∨ 6 < l.length ∨ ¬ Digs l) (n : Int) : ¬ Inv l n := by
  intro k
  obtain ⟨hn, rfl⟩ := pos_head k h45
  have hl := len_dec n.natAbs (by have := k.2.1; omega)
  have hd := digs_dec n.natAbs
  rcases h with h | h | h
  · omega
  · omega
  · exact h hd

theorem val_minus {r : List UInt8} {n : Int} (k : Inv (45 :: r) n) : n = -(dv r : Int) := by
  obtain ⟨hn, rfl⟩ := neg_head k
  rw [dv_dec]; omega
theorem val_plain {l : List UInt8} {n : Int} (h45 : l.head? ≠ some 45) (k : Inv l n) : n = (dv l : Int) := by
  obtain ⟨hn, rfl⟩ := pos_head k h45
  rw [dv_dec]; omega

/-- the end: the numeral of what was read is the text, or the text is no numeral -/
theorem end_minus {r : List UInt8} (hg : Digs r) (hl : r.length ≤ 6) : (Lib.itoa (-(dv r : Int)) = 45 :: r → Rd (45 :: r) (-(dv r : Int)) true) ∧ (Lib.itoa (-(dv r : Int)) ≠ 45 :: r → Rd (45 :: r) 0 false) := by
  have hb := dv_lt6 r hg hl
  exact ⟨fun e => .yes ⟨by omega, by omega, e⟩, fun e => .no fun n k => e (by rw [← val_minus k]; exact k.2.2)⟩
theorem end_plain {l : List UInt8} (h45 : l.head? ≠ some 45) (hg : Digs l) (hl : l.length ≤ 6) : (Lib.itoa (dv l : Int) = l → Rd l (dv l : Int) true) ∧ (Lib.itoa (dv l : Int) ≠ l → Rd l 0 false) := by
  have hb := dv_lt6 l hg hl
  exact ⟨fun e => .yes ⟨by omega, by omega, e⟩, fun e => .no fun n k => e (by rw [← val_plain h45 k]; exact k.2.2)⟩

theorem one_minus {l : List UInt8} (hp : ¬ (1 < l.length ∧ l.head? = some 45)) (h : l.head? = some 45) : l = [45] := by
  match l, hp, h with
  | [c], _, h => simpa using h
  | c :: d :: r, hp, h => exact absurd ⟨by simp, h⟩ hp

theorem no_plain' {l : List UInt8} (hp : ¬ (1 < l.length ∧ l.head? = some 45)) (h : l.length = 0 ∨ 6 < l.length ∨ ¬ Digs l) (n : Int) : ¬ Inv l n := by
  by_cases h45 : l.head? = some 45
  · rw [one_minus hp h45]; exact no_minus (.inl rfl) n
  · exact no_plain h45 h n

theorem end_plain' {l : List UInt8} (hg : Digs l) (hl : l.length ≤ 6) : (Lib.itoa (dv l : Int) = l → Rd l (dv l : Int) true) ∧ (Lib.itoa (dv l : Int) ≠ l → Rd l 0 false) := by
  refine end_plain (fun h => ?_) hg hl
  cases l with
  | nil => simp at h
  | cons c r =>
    obtain rfl : c = 45 := by simpa using h
    have := hg 45 (by simp)
    have e45 : (45 : UInt8).toNat = 45 := rfl
    omega

end Go.Proofs.YtpcdaoeijlifmaaDoor.PlainNum

/- Plain words on the text of a face, and on short decimal texts. No condition. -/
namespace Go.Proofs.YtpcdaoeijlifmaaDoor.PlainFace
set_option linter.unusedVariables false
open Go.Proofs.YtpcdaoeijlifmaaDoor.PlainNum

def dig (d : Int) : UInt8 := UInt8.ofNat (48 + d.toNat)
theorem itoa_nn {n : Int} (h : 0 ≤ n) : Lib.itoa n = Lib.decDigits n.toNat := by
  rcases itoa_cases n with ⟨h1, _⟩ | ⟨_, e⟩
  · omega
  · rw [e]; congr 1; omega
theorem itoa_dig {d : Int} (h0 : 0 ≤ d) (h : d < 10) : Lib.itoa d = [dig d] := by
  rw [itoa_nn h0, Lib.decDigits_one (by omega)]
  rfl
theorem dec_step (n : Nat) (h : 10 ≤ n) : Lib.decDigits n = Lib.decDigits (n / 10) ++ [UInt8.ofNat (48 + n % 10)] := by
  rw [Lib.decDigits, dif_neg (by omega)]
theorem itoa_hund {r : Int} (h0 : 0 ≤ r) (h : r < 100) : Lib.itoa (100 + r) = [49, dig (r / 10), dig (r % 10)] := by
  rw [itoa_nn (by omega), dec_step _ (by omega), dec_step _ (by omega), Lib.decDigits_one (by omega)]
  unfold dig
  rw [show (100 + r).toNat / 10 / 10 = 1 by omega, show (100 + r).toNat / 10 % 10 = (r / 10).toNat by omega, show (100 + r).toNat % 10 = (r % 10).toNat by omega]
  rfl
theorem itoa_hund' {n : Int} (h0 : 0 ≤ n) : Lib.itoa (100 + n % 100) = [49, dig (n % 100 / 10), dig (n % 10)] := by
  rw [itoa_hund (by omega) (by omega), show n % 100 % 10 = n % 10 by omega]
theorem itoa_short {n : Int} (h1 : -999999 ≤ n) (h2 : n ≤ 999999) : (Lib.itoa n).length ≤ 7 := (itoa_len n h1 h2).2
/-- the text of a face -/
def faceL (n : Int) : List UInt8 := Lib.itoa (n / 100) ++ [46] ++ Lib.itoa (n / 10 % 10) ++ Lib.itoa (n % 10)
theorem faceL_len {n : Int} (h0 : 0 ≤ n) (h : n ≤ 9999) : (faceL n).length ≤ 30 := by
  unfold faceL
  have a := itoa_short (n := n / 100) (by omega) (by omega)
  have b := itoa_short (n := n / 10 % 10) (by omega) (by omega)
  have c := itoa_short (n := n % 10) (by omega) (by omega)
  simp only [List.length_append, List.length_cons, List.length_nil]
  omega
theorem faceL_hund {n : Int} (h0 : 0 ≤ n) (h : n ≤ 9999) : faceL n = Lib.itoa (n / 100) ++ [46] ++ [dig (n % 100 / 10), dig (n % 10)] := by
  unfold faceL
  rw [itoa_dig (d := n / 10 % 10) (by omega) (by omega), itoa_dig (d := n % 10) (by omega) (by omega), show n % 100 / 10 = n / 10 % 10 by omega, List.append_assoc]
  rfl
def str (l : List UInt8) : ByteArray := ⟨l.toArray⟩
def faceRes (n : Int) : ByteArray × Bool := if 0 ≤ n ∧ n ≤ 9999 then (str (faceL n), true) else (⟨#[]⟩, false)
theorem faceRes_yes {n : Int} (h0 : 0 ≤ n) (h : n ≤ 9999) : faceRes n = (str (faceL n), true) := by unfold faceRes; rw [if_pos ⟨h0, h⟩]
theorem faceRes_no {n : Int} (h : n < 0 ∨ 9999 < n) : faceRes n = (⟨#[]⟩, false) := by unfold faceRes; rw [if_neg (by omega)]
end Go.Proofs.YtpcdaoeijlifmaaDoor.PlainFace

/- Decimal texts as plain functions: Itoa and l1Num, for short numbers. No condition. -/
namespace Go.Proofs.YtpcdaoeijlifmaaDoor.QNum
set_option linter.unusedVariables false
set_option linter.unusedSimpArgs false
open Go.RowKit
open Go.Proofs.YtpcdaoeijlifmaaDoor.GoP Go.Proofs.YtpcdaoeijlifmaaDoor.QBase

def itoaB (n : Int) : ByteArray := ⟨(Lib.itoa n).toArray⟩
theorem itoa_eq {n : Int} (h1 : -999999 ≤ n) (h2 : n ≤ 999999) : GxStrconvItoa.P n = some (itoaB n) := by unfold GxStrconvItoa.P; rw [if_pos (by omega)]; rfl
theorem num_eq {n : Int} (h1 : -999999 ≤ n) (h2 : n ≤ 999999) : GsL1Num.P n = some (itoaB n) := by unfold GsL1Num.P; rw [if_pos (by omega)]; rfl
theorem itoaB_size {n : Int} (h1 : -999999 ≤ n) (h2 : n ≤ 999999) : (itoaB n).size ≤ 7 := by
  show (Lib.itoa n).toArray.size ≤ 7
  rw [List.size_toArray]; exact (PlainNum.itoa_len n h1 h2).2
theorem wrap_short {x : Int} (h1 : -9223372036854775808 ≤ x) (h2 : x ≤ 9223372036854775807) : IntKind.i64.wrap x = x := IntWalk.i64_in _ (by omega)
theorem fits_cat {a b : ByteArray} (h : a.size + b.size ≤ 9223372036854775807) {ρ : Type} {x : Option ρ} : guardK (a.size + b.size ≤ maxLen) x = x := guardK_pos (by unfold maxLen; exact h)
end Go.Proofs.YtpcdaoeijlifmaaDoor.QNum

/- Reckoning with the loops of plain functions; lists of valid records with rising ids. No condition. -/
namespace Go.Proofs.YtpcdaoeijlifmaaDoor.QLoop
set_option linter.unusedVariables false
open Go.RowKit
open Go.Proofs.YtpcdaoeijlifmaaDoor.GoP Go.Proofs.YtpcdaoeijlifmaaDoor.QBase

theorem cnt_ex {σ ρ : Type} {f : Nat → σ → (σ → Option ρ) → (σ → Option ρ) → Option ρ} {fin : σ → Option ρ} {Q : ρ → Prop} {n : Nat} (I : Nat → σ → Prop)
    (step : ∀ k s nx, k < n → I k s → (∀ s', I (k + 1) s' → ∃ r, nx s' = some r ∧ Q r) → ∃ r, f k s nx fin = some r ∧ Q r) (done : ∀ s, I n s → ∃ r, fin s = some r ∧ Q r) :
    ∀ m k s, k + m = n → I k s → ∃ r, cntK f m k s fin = some r ∧ Q r := by
  intro m
  induction m with
  | zero => intro k s hk hI; obtain rfl : k = n := by omega
            exact done s hI
  | succ m ih => intro k s hk hI; exact step k s _ (by omega) hI (fun s' h' => ih (k + 1) s' (by omega) h')
theorem cnt_is {σ ρ : Type} {f : Nat → σ → (σ → Option ρ) → (σ → Option ρ) → Option ρ} {fin : σ → Option ρ} {n : Nat} (r : ρ) (I : Nat → σ → Prop)
    (step : ∀ k s nx, k < n → I k s → (∀ s', I (k + 1) s' → nx s' = some r) → f k s nx fin = some r) (done : ∀ s, I n s → fin s = some r) (s : σ) (h0 : I 0 s) : cntK f n 0 s fin = some r := by
  obtain ⟨r', h, rfl⟩ := cnt_ex (Q := fun x => x = r) I (fun k s nx hk hI hn => ⟨r, step k s nx hk hI (fun s' h' => by obtain ⟨_, h, rfl⟩ := hn s' h'; exact h), rfl⟩) (fun s h => ⟨r, done s h, rfl⟩) n 0 s (by omega) h0
  exact h
theorem at_lt {α : Type} {l : List α} {k : Nat} (h : k < l.length) : ∃ x, l[k]? = some x ∧ idx l (k : Int) = some x := ⟨l[k], List.getElem?_eq_getElem h, by rw [idx_nat, List.getElem?_eq_getElem h]⟩
theorem idx_pred {α : Type} {l : List α} {k : Nat} {x : α} (hk : 0 < k) (hb : k ≤ 9223372036854775807) (h : l[k - 1]? = some x) : idx l (IntKind.i64.wrap ((k : Int) - 1)) = some x := by
  rw [IntWalk.i64_in _ (by omega), show ((k : Int) - 1) = ((k - 1 : Nat) : Int) by omega, idx_nat, h]
theorem take_next {α : Type} {l : List α} {k : Nat} {x : α} (h : l[k]? = some x) : l.take (k + 1) = l.take k ++ [x] := by
  obtain ⟨hk, e⟩ := List.getElem?_eq_some_iff.1 h
  rw [List.take_succ_eq_append_getElem hk, e]
theorem all_next {α : Type} {p : α → Bool} {l : List α} {k : Nat} {x : α} (h : l[k]? = some x) : (l.take (k + 1)).all p = ((l.take k).all p && p x) := by
  rw [take_next h]; simp
theorem not_all {α : Type} {p : α → Bool} {l : List α} {k : Nat} {x : α} (h : l[k]? = some x) (hp : p x = false) : l.all p = false := by
  rw [Bool.eq_false_iff]
  intro ha
  have := List.all_eq_true.1 ha x (List.mem_of_getElem? h)
  rw [hp] at this; exact absurd this (by simp)
theorem wrap_in {x : Int} (h1 : -9223372036854775808 ≤ x) (h2 : x ≤ 9223372036854775807) : IntKind.i64.wrap x = x := IntWalk.i64_in _ (by omega)

/-- valid, and above the one ahead of it -/
def upAt {α : Type} (ok : α → Bool) (id : α → Int) (l : List α) (k : Nat) : Bool :=
  match l[k]? with
  | none => true
  | some s => ok s && (decide (k = 0) || (match l[k-1]? with | none => true | some r => decide (id r < id s)))
def upTo {α : Type} (ok : α → Bool) (id : α → Int) (l : List α) (k : Nat) : Bool := (List.range k).all (upAt ok id l)
theorem upTo_zero {α : Type} (ok : α → Bool) (id : α → Int) (l : List α) : upTo ok id l 0 = true := rfl
theorem upTo_succ {α : Type} (ok : α → Bool) (id : α → Int) (l : List α) (k : Nat) : upTo ok id l (k + 1) = (upTo ok id l k && upAt ok id l k) := by simp [upTo, List.range_succ, List.all_append]
theorem upTo_not {α : Type} {ok : α → Bool} {id : α → Int} {l : List α} {k n : Nat} (h : upAt ok id l k = false) (hk : k < n) : upTo ok id l n = false := by
  unfold upTo
  rw [Bool.eq_false_iff]
  intro ha
  have := List.all_eq_true.1 ha k (List.mem_range.2 hk)
  rw [h] at this; exact absurd this (by simp)
/-- a list of at most m valid records with rising ids -/
def upL {α : Type} (m : Nat) (ok : α → Bool) (id : α → Int) (l : List α) : Bool := decide (l.length ≤ m) && upTo ok id l l.length
theorem upAt_bad {α : Type} {ok : α → Bool} {id : α → Int} {l : List α} {k : Nat} {s : α} (hs : l[k]? = some s) (h : ok s = false) : upAt ok id l k = false := by unfold upAt; rw [hs]; simp [h]
theorem upAt_first {α : Type} {ok : α → Bool} {id : α → Int} {l : List α} {s : α} (hs : l[0]? = some s) (h : ok s = true) : upAt ok id l 0 = true := by unfold upAt; rw [hs]; simp [h]
theorem upAt_next {α : Type} {ok : α → Bool} {id : α → Int} {l : List α} {k : Nat} {s r : α} (hs : l[k]? = some s) (hr : l[k-1]? = some r) (hk : 0 < k) (h : ok s = true) : upAt ok id l k = decide (id r < id s) := by
  unfold upAt; rw [hs]; simp only [hr, h, Bool.true_and, decide_eq_false (show ¬ k = 0 by omega), Bool.false_or]
theorem upL_len {α : Type} {m : Nat} {ok : α → Bool} {id : α → Int} {l : List α} (h : upL m ok id l = true) : l.length ≤ m := by unfold upL at h; simp only [Bool.and_eq_true, decide_eq_true_eq] at h; exact h.1
theorem upL_ok {α : Type} {m : Nat} {ok : α → Bool} {id : α → Int} {l : List α} (h : upL m ok id l = true) {k : Nat} {s : α} (hs : l[k]? = some s) : ok s = true := by
  unfold upL at h
  simp only [Bool.and_eq_true, decide_eq_true_eq] at h
  have := List.all_eq_true.1 h.2 k (List.mem_range.2 (List.getElem?_eq_some_iff.1 hs).1)
  unfold upAt at this
  rw [hs] at this
  simp only [Bool.and_eq_true] at this
  exact this.1
theorem upL_mem {α : Type} {m : Nat} {ok : α → Bool} {id : α → Int} {l : List α} (h : upL m ok id l = true) {s : α} (hs : s ∈ l) : ok s = true := by
  obtain ⟨k, hk⟩ := List.getElem?_of_mem hs
  exact upL_ok h hk
/-- a loop that goes through a list of records and stops with 'false' at the first that is bad -/
theorem up_loop {α : Type} {ok : α → Bool} {id : α → Int} {l : List α} {R : Type} {no : R} {f : Nat → Unit → (Unit → Option R) → (Unit → Option R) → Option R} {fin : Unit → Option R}
    (step : ∀ k nx s, l[k]? = some s → (ok s = false → f k () nx fin = some no) ∧ (ok s = true → (k = 0 → f k () nx fin = nx ()) ∧ (0 < k → ∀ r, l[k-1]? = some r → (id r < id s → f k () nx fin = nx ()) ∧ (id s ≤ id r → f k () nx fin = some no)))) :
    cntK f l.length 0 () fin = if upTo ok id l l.length then fin () else some no := by
  have key : ∀ m k, k + m = l.length → upTo ok id l k = true → cntK f m k () fin = if upTo ok id l l.length then fin () else some no := by
    intro m
    induction m with
    | zero => intro k hk hu; obtain rfl : k = l.length := by omega
              rw [hu]; rfl
    | succ m ih =>
      intro k hk hu
      have hlt : k < l.length := by omega
      obtain ⟨s, hs, _⟩ := at_lt hlt
      obtain ⟨h1, h2⟩ := step k (fun s' => cntK f m (k + 1) s' fin) s hs
      show f k () _ fin = _
      cases hok : ok s with
      | false => rw [h1 hok, upTo_not (upAt_bad hs hok) hlt]; rfl
      | true =>
        obtain ⟨h3, h4⟩ := h2 hok
        by_cases hk0 : k = 0
        · rw [h3 hk0]
          subst hk0
          exact ih 1 (by omega) (by rw [upTo_succ, hu, upAt_first hs hok]; rfl)
        · obtain ⟨r, hr, _⟩ := at_lt (l := l) (k := k - 1) (by omega)
          obtain ⟨h5, h6⟩ := h4 (by omega) r hr
          by_cases hlt2 : id r < id s
          · rw [h5 hlt2]
            exact ih (k + 1) (by omega) (by rw [upTo_succ, hu, upAt_next hs hr (by omega) hok]; simpa using hlt2)
          · rw [h6 (by omega), upTo_not (by rw [upAt_next hs hr (by omega) hok]; simpa using hlt2) hlt]; rfl
  exact key l.length 0 (by omega) (upTo_zero ok id l)
end Go.Proofs.YtpcdaoeijlifmaaDoor.QLoop

/- Loops that test each place, and loops without a count. No condition. -/
namespace Go.Proofs.YtpcdaoeijlifmaaDoor.QAll
set_option linter.unusedVariables false
set_option linter.unusedSimpArgs false
open Go.RowKit
open Go.Proofs.YtpcdaoeijlifmaaDoor.GoP Go.Proofs.YtpcdaoeijlifmaaDoor.QBase Go.Proofs.YtpcdaoeijlifmaaDoor.QLoop

/-- each number below n is good -/
def allN (n : Nat) (p : Nat → Bool) : Bool := (List.range n).all p
theorem allN_iff {n : Nat} {p : Nat → Bool} : allN n p = true ↔ ∀ i, i < n → p i = true := by unfold allN; simp
theorem allN_no {n k : Nat} {p : Nat → Bool} (hk : k < n) (h : p k = false) : allN n p = false := by
  rw [Bool.eq_false_iff]; intro ha; rw [allN_iff.1 ha k hk] at h; exact absurd h (by simp)
theorem allN_eq {n m : Nat} {p q : Nat → Bool} (h : (∀ i, i < n → p i = true) ↔ (∀ i, i < m → q i = true)) : allN n p = allN m q := by
  rw [Bool.eq_iff_iff, allN_iff, allN_iff]; exact h
theorem all_cnt {ρ : Type} {n : Nat} {p : Nat → Bool} {no : ρ} {f : Nat → Unit → (Unit → Option ρ) → (Unit → Option ρ) → Option ρ} {fin : Unit → Option ρ}
    (step : ∀ k nx, k < n → (p k = false → f k () nx fin = some no) ∧ (p k = true → f k () nx fin = nx ())) : cntK f n 0 () fin = if allN n p = true then fin () else some no := by
  have key : ∀ m k, k + m = n → (∀ i, i < k → p i = true) → cntK f m k () fin = if allN n p = true then fin () else some no := by
    intro m
    induction m with
    | zero => intro k hk hu; obtain rfl : k = n := by omega
              rw [allN_iff.2 hu]; rfl
    | succ m ih =>
      intro k hk hu
      obtain ⟨h1, h2⟩ := step k (fun s' => cntK f m (k + 1) s' fin) (by omega)
      show f k () _ fin = _
      cases hp : p k with
      | false => rw [h1 hp, allN_no (by omega) hp]; rfl
      | true =>
        rw [h2 hp]
        refine ih (k + 1) (by omega) (fun i hi => ?_)
        by_cases he : i = k
        · rw [he]; exact hp
        · exact hu i (by omega)
  exact key n 0 (by omega) (fun i hi => by omega)
theorem lp_ex {σ ρ : Type} {f : σ → (σ → Option ρ) → (σ → Option ρ) → Option ρ} {fin : σ → Option ρ} {Q : ρ → Prop} {n : Nat} (I : Nat → σ → Prop)
    (step : ∀ k s nx, k < n → I k s → (∀ s', I (k + 1) s' → ∃ r, nx s' = some r ∧ Q r) → ∃ r, f s nx fin = some r ∧ Q r) (done : ∀ s nx, I n s → ∃ r, f s nx fin = some r ∧ Q r) :
    ∀ fuel k s, k ≤ n → n - k < fuel → I k s → ∃ r, loopK f fuel s fin = some r ∧ Q r := by
  intro fuel
  induction fuel with
  | zero => intro k s hk hf; omega
  | succ m ih =>
    intro k s hk hf hI
    show ∃ r, f s _ fin = some r ∧ Q r
    by_cases he : k = n
    · subst he; exact done s _ hI
    · exact step k s _ (by omega) hI (fun s' h' => ih (k + 1) s' (by omega) (by omega) h')
theorem all_lp {ρ : Type} {n : Nat} {p : Nat → Bool} {no : ρ} {f : Int → (Int → Option ρ) → (Int → Option ρ) → Option ρ} {fin : Int → Option ρ}
    (step : ∀ (k : Nat) nx, k < n → (p k = false → f (k : Int) nx fin = some no) ∧ (p k = true → f (k : Int) nx fin = nx ((k + 1 : Nat) : Int))) (stop : ∀ nx, f (n : Int) nx fin = fin (n : Int))
    (fuel : Nat) (hf : n < fuel) : loopK f fuel 0 fin = if allN n p = true then fin (n : Int) else some no := by
  have key : ∀ fuel k, k ≤ n → n - k < fuel → (∀ i, i < k → p i = true) → loopK f fuel (k : Int) fin = if allN n p = true then fin (n : Int) else some no := by
    intro fuel
    induction fuel with
    | zero => intro k hk hf; omega
    | succ m ih =>
      intro k hk hf hu
      show f (k : Int) _ fin = _
      by_cases he : k = n
      · subst he; rw [stop, allN_iff.2 hu]; rfl
      · obtain ⟨h1, h2⟩ := step k (fun s' => loopK f m s' fin) (by omega)
        cases hp : p k with
        | false => rw [h1 hp, allN_no (by omega) hp]; rfl
        | true =>
          rw [h2 hp]
          refine ih (k + 1) (by omega) (by omega) (fun i hi => ?_)
          by_cases he : i = k
          · rw [he]; exact hp
          · exact hu i (by omega)
  exact key fuel 0 (by omega) (by omega) (fun i hi => by omega)
theorem next_i {k : Nat} (h : k ≤ 9223372036854775806) : IntKind.i64.wrap ((k : Int) + 1) = ((k + 1 : Nat) : Int) := by rw [wrap_in (by omega) (by omega)]; omega
end Go.Proofs.YtpcdaoeijlifmaaDoor.QAll

/- Draws on tapes: each gives something within its bounds. (QDraw) No condition but those of each theorem. -/
namespace Go.Proofs.YtpcdaoeijlifmaaDoor.QDraw
set_option linter.unusedVariables false
set_option linter.unusedSimpArgs false
open Go.RowKit
open Go.Proofs.YtpcdaoeijlifmaaDoor.GoP Go.Proofs.YtpcdaoeijlifmaaDoor.PlainStamp Go.Proofs.YtpcdaoeijlifmaaDoor.QBase Go.Proofs.YtpcdaoeijlifmaaDoor.QLoop

/-- a tape that may be asked m times more -/
def good (t : GoC.Tape) (m : Nat) : Prop := m ≤ t.left ∧ ∀ i, 0 ≤ t.vals i ∧ t.vals i ≤ 255
theorem good_less {t : GoC.Tape} {m n : Nat} (h : good t m) (hn : n ≤ m) : good t n := ⟨Nat.le_trans hn h.1, h.2⟩
theorem good_of {tapes : List Int → GoC.Tape} (h : GoC.Tells tapes) (code : List Int) {m : Nat} (hm : m ≤ 4611686018427387904) : good (tapes code) m := ⟨by rw [h.1]; exact hm, h.2.1 code⟩
theorem next_ok {t : GoC.Tape} {m : Nat} (h : good t (m + 1)) : ∃ b t', GsL1CurNext.P t = some (b, t') ∧ (0 ≤ b ∧ b ≤ 255) ∧ good t' m := by
  unfold GsL1CurNext.P
  rw [if_pos (by have := h.1; omega)]
  exact ⟨_, _, rfl, h.2 0, by have := h.1; show m ≤ t.left - 1; omega, fun i => h.2 (i + 1)⟩
theorem pick_ok {t : GoC.Tape} {m : Nat} {n : Int} (h : good t (m + 2)) : ∃ x t', GsL1CurPick.P t n = some (x, t') ∧ 0 ≤ x ∧ (x < n ∨ n ≤ 1 ∧ x = 0) ∧ x ≤ 65535 ∧ good t' m := by
  simp only [GsL1CurPick.P, letK, iteK_if]
  by_cases hn : n ≤ 1
  · rw [if_pos (by simpa using hn)]
    exact ⟨0, t, rfl, by omega, by omega, by omega, good_less h (by omega)⟩
  · rw [if_neg (by simpa using hn)]
    obtain ⟨b, t1, e1, hb, h1⟩ := next_ok (m := m + 1) h
    rw [e1]
    simp only [bind2_some]
    by_cases h2 : 200 < n
    · rw [if_pos (by simpa using h2)]
      obtain ⟨b2, t2, e2, hb2, h3⟩ := next_ok (m := m) h1
      rw [e2]
      simp only [bind2_some, GsL1CurPick.j0, unp2, letK]
      rw [guardK_pos (by omega), wrap_in (x := b * 256) (by omega) (by omega), wrap_in (by omega) (by omega), Int.tmod_eq_emod_of_nonneg (by omega)]
      have k1 := Int.emod_nonneg (b * 256 + b2) (show n ≠ 0 by omega)
      have k2 := Int.emod_lt_of_pos (b * 256 + b2) (show 0 < n by omega)
      have k3 : (b * 256 + b2) % n ≤ 65535 := by
        by_cases hq : n ≤ 65536
        · omega
        · rw [Int.emod_eq_of_lt (by omega) (by omega)]; omega
      exact ⟨_, _, rfl, k1, .inl k2, by omega, h3⟩
    · rw [if_neg (by simpa using h2)]
      simp only [GsL1CurPick.j0, unp2, letK]
      rw [guardK_pos (by omega), Int.tmod_eq_emod_of_nonneg (by omega)]
      have k1 := Int.emod_nonneg b (show n ≠ 0 by omega)
      have k2 := Int.emod_lt_of_pos b (show 0 < n by omega)
      exact ⟨_, _, rfl, k1, .inl k2, by omega, good_less h1 (by omega)⟩
theorem among_ok {t : GoC.Tape} {m : Nat} {l : List Int} (h : good t (m + 2)) (h0 : 0 < l.length) : ∃ x t', GsL1CurAmong.P t l = some (x, t') ∧ x ∈ l ∧ good t' m := by
  obtain ⟨x, t', e, hx0, hx, _, hg⟩ := pick_ok (n := (l.length : Int)) h
  simp only [GsL1CurAmong.P, e, bind2_some]
  obtain ⟨y, hy, hyi⟩ := at_lt (l := l) (k := x.toNat) (by omega)
  rw [show ((x.toNat : Nat) : Int) = x by omega] at hyi
  exact ⟨y, t', by rw [hyi]; rfl, List.mem_of_getElem? hy, hg⟩
theorem one_ok {t : GoC.Tape} {m : Nat} {n : Int} (h : good t (m + 2)) : ∃ b t', GsL1CurOne.P t n = some (b, t') ∧ good t' m := by
  obtain ⟨x, t', e, _, _, _, hg⟩ := pick_ok (n := n) h
  exact ⟨x == 0, t', by simp only [GsL1CurOne.P, e, bind2_some, letK], hg⟩
end Go.Proofs.YtpcdaoeijlifmaaDoor.QDraw

/- What the law FnCombs tells of combs: each comb is in one group of the same gauges. (Q5CDraws) No condition but those of each theorem. -/
namespace Go.Proofs.YtpcdaoeijlifmaaDoor.Q5CDraws
set_option linter.unusedVariables false
set_option linter.unusedSimpArgs false
open Go.RowKit
open Go.Proofs.YtpcdaoeijlifmaaDoor.GoP Go.Proofs.YtpcdaoeijlifmaaDoor.PlainStamp Go.Proofs.YtpcdaoeijlifmaaDoor.QBase Go.Proofs.YtpcdaoeijlifmaaDoor.QLoop Go.Proofs.YtpcdaoeijlifmaaDoor.QAll Go.Proofs.YtpcdaoeijlifmaaDoor.QDraw Go.Proofs.YtpcdaoeijlifmaaDoor.PComb

theorem gauge5_ok {t : GoC.Tape} {m : Nat} (h : good t (m + 2)) : ∃ x t', GsL1CurGauge5.P t = some (x, t') ∧ good t' m := by
  obtain ⟨x, t', e, _, hg⟩ := among_ok (l := [500, 1100, 1150, 1175, 1200, 1400, 2000]) h (by simp)
  exact ⟨x, t', by simp only [GsL1CurGauge5.P, letK, e, bind2_some], hg⟩
theorem ask5_ok {t : GoC.Tape} {m : Nat} (h : good t (m + 6)) : ∃ x t', GsL1CurAsk5.P t = some (x, t') ∧ good t' m := by
  obtain ⟨b, t1, e1, h1⟩ := one_ok (n := 8) (m := m + 4) h
  simp only [GsL1CurAsk5.P, e1, bind2_some, letK, iteK_if]
  cases b with
  | true =>
    obtain ⟨x, t2, e2, _, h2⟩ := among_ok (l := [0, 0, 499, 2001]) (m := m + 2) h1 (by simp)
    exact ⟨x, t2, by simp [e2, bind2], good_less h2 (by omega)⟩
  | false =>
    obtain ⟨x, t2, e2, h2⟩ := gauge5_ok (m := m + 2) h1
    obtain ⟨y, t3, e3, _, h3⟩ := among_ok (l := [0, 0, 10, 25, (-25)]) (m := m) h2 (by simp)
    exact ⟨IntKind.i64.wrap (x + y), t3, by simp only [Bool.false_eq_true, if_false, e2, e3, bind2_some], h3⟩
theorem comb5_ok {t : GoC.Tape} {m : Nat} (id : Int) (h : good t (m + 12)) : ∃ x t', GsL1CurComb5.P t id = some (x, t') ∧ good t' m := by
  obtain ⟨a, t1, e1, h1⟩ := gauge5_ok (m := m + 10) h
  obtain ⟨b, t2, e2, h2⟩ := gauge5_ok (m := m + 8) h1
  obtain ⟨l, t3, e3, h3⟩ := one_ok (n := 3) (m := m + 6) h2
  obtain ⟨q, t4, e4, h4⟩ := one_ok (n := 3) (m := m + 4) h3
  have hj : ∀ s : Int × Int × Int × Bool, ∃ x t', GsL1CurComb5.j0 t4 s = some (x, t') ∧ good t' m := by
    rintro ⟨x0, x1, x2, x3⟩
    obtain ⟨p, t5, e5, _, _, _, h5⟩ := pick_ok (n := 80) (m := m + 2) h4
    obtain ⟨y, t6, e6, _, h6⟩ := among_ok (l := [0, 99, 100]) (m := m) h5 (by simp)
    obtain ⟨z, t7, e7, _, h7⟩ := among_ok (l := [499, 2001]) (m := m) h5 (by simp)
    simp only [GsL1CurComb5.j0, unp4, e5, e6, e7, bind2_some, letK, iteK_if]
    by_cases p0 : p = 0
    · exact ⟨⟨y, x1, x2, x3⟩, t6, by simp [p0], h6⟩
    · by_cases p1 : p = 1
      · exact ⟨⟨x0, z, x2, x3⟩, t7, by simp [p1], h7⟩
      · by_cases p2 : p = 2
        · exact ⟨⟨x0, x1, z, x3⟩, t7, by simp [p2], h7⟩
        · exact ⟨⟨x0, x1, x2, x3⟩, t5, by simp [p0, p1, p2], good_less h5 (by omega)⟩
  simp only [GsL1CurComb5.P, e1, e2, e3, e4, bind2_some, iteK_if]
  cases q with
  | true => exact hj _
  | false => exact hj _
theorem more_ok {t : GoC.Tape} {m : Nat} (fuel : Nat) (hf : 1048577 ≤ fuel) (c : GoC.Tape) (a : Int) (b : GoC.Tape) (o : List Comb) (i n : Int) (d : GoC.Tape) (q : Bool) (e : GoC.Tape) (h : good t (m + 30)) : ∃ r, loopK (GsL1CurCombs5.l1) fuel (([] : List Comb), 0, t) (GsL1CurCombs5.e1 c a b o i n d q e) = some r ∧ (r.1.length ≤ 20 ∧ good r.2 m) := by
  refine lp_ex (n := 11) (fun k s => s.1.length = k ∧ s.2.1 = (k : Int) ∧ good s.2.2 (m + 30 - 2 * k)) ?_ ?_ fuel 0 _ (by omega) (by omega) ⟨rfl, rfl, h⟩
  · rintro k ⟨o, n, c⟩ nx hk ⟨h1, h2, h3⟩ hn
    dsimp only at h1 h2 h3
    obtain ⟨x, c1, e, hx0, hx, _, hg⟩ := pick_ok (n := 2) (m := m + 28 - 2 * k) (good_less h3 (by omega))
    simp only [GsL1CurCombs5.l1, unp3, e, bind2_some, letK, iteK_if]
    rw [wrap_in (x := 10 + x) (by omega) (by omega)]
    by_cases hc : n < 10 + x
    · rw [if_pos (by simpa using hc), guardK_pos (by omega), wrap_in (x := n + 1) (by omega) (by omega)]
      exact hn _ ⟨by simp [h1], by dsimp only; omega, good_less hg (by omega)⟩
    · rw [if_neg (by simpa using hc)]
      exact ⟨_, rfl, by dsimp only; omega, good_less hg (by omega)⟩
  · rintro ⟨o, n, c⟩ nx ⟨h1, h2, h3⟩
    dsimp only at h1 h2 h3
    obtain ⟨x, c1, e, hx0, hx, _, hg⟩ := pick_ok (n := 2) (m := m) (good_less h3 (by omega))
    simp only [GsL1CurCombs5.l1, unp3, e, bind2_some, letK, iteK_if]
    rw [wrap_in (x := 10 + x) (by omega) (by omega), if_neg (by simp; omega)]
    exact ⟨_, rfl, by dsimp only; omega, hg⟩
theorem combs5_ok {t : GoC.Tape} {m : Nat} (fuel : Nat) (hf : 1048577 ≤ fuel) (h : good t (m + 200)) : ∃ l t', GsL1CurCombs5.P fuel t = some (l, t') ∧ l.length ≤ 20 ∧ good t' m := by
  obtain ⟨⟨l, t'⟩, e, h1, h2⟩ : ∃ r, GsL1CurCombs5.P fuel t = some r ∧ (r.1.length ≤ 20 ∧ good r.2 m) := by
    obtain ⟨z, c1, e1, hz0, hz, _, h1⟩ := pick_ok (n := 7) (m := m + 198) h
    simp only [GsL1CurCombs5.P, e1, bind2_some]
    obtain ⟨N, hN⟩ : ∃ N : Nat, z = (N : Int) := ⟨z.toNat, by omega⟩
    subst hN
    refine lp_ex (n := N) (fun k s => s.1.length = k ∧ s.2.2.1 = (N : Int) - (k : Int) ∧ good s.2.2.2 (m + 198 - 16 * k)) ?_ ?_ fuel 0 _ (by omega) (by omega) ⟨rfl, by dsimp only; omega, h1⟩
    · rintro k ⟨o, i, n, c⟩ nx hk ⟨g1, g2, g3⟩ hn
      dsimp only at g1 g2 g3
      obtain ⟨u, d1, f1, _, _, _, k1⟩ := pick_ok (n := 3) (m := m + 196 - 16 * k) (good_less g3 (by omega))
      obtain ⟨v, d2, f2, _, _, _, k2⟩ := pick_ok (n := 150) (m := m + 194 - 16 * k) (good_less k1 (by omega))
      have ht : decide ((0 : Int) < n) = true := by simp; omega
      simp only [GsL1CurCombs5.l0, unp4, letK, ht, iteK_if, if_true, f1, f2, bind2_some]
      generalize IntKind.i64.wrap (IntKind.i64.wrap (IntKind.i64.wrap (i + 1) + u) - IntKind.i64.wrap (Int.tdiv v 149)) = w
      obtain ⟨y, d3, f3, k3⟩ := comb5_ok (m := m + 182 - 16 * k) w (good_less k2 (by omega))
      obtain ⟨a, b, c', d⟩ := y
      rw [f3]
      simp only [bind2_some, unComb]
      rw [guardK_pos (by omega)]
      have e1 : IntKind.i64.wrap (n - 1) = n - 1 := wrap_in (by omega) (by omega)
      rw [e1]
      exact hn _ ⟨by simp [g1], by dsimp only; omega, good_less k3 (by omega)⟩
    · rintro ⟨o, i, n, c⟩ nx ⟨g1, g2, g3⟩
      dsimp only at g1 g2 g3
      have ht : decide ((0 : Int) < n) = false := by simp; omega
      obtain ⟨q, d, f, k1⟩ := one_ok (n := 24) (m := m + 30) (good_less g3 (by omega))
      simp only [GsL1CurCombs5.l0, unp4, letK, ht, iteK_if, Bool.false_eq_true, if_false, appK, GsL1CurCombs5.e0, f, bind2_some]
      cases q with
      | true => exact more_ok fuel hf _ _ _ _ _ _ _ _ _ k1
      | false => exact ⟨_, rfl, by dsimp only; omega, good_less k1 (by omega)⟩
  exact ⟨l, t', e, h1, h2⟩
theorem drawMatch_ok {tapes : List Int → GoC.Tape} (ht : GoC.Tells tapes) (code : List Int) (fuel : Nat) (hf : 1048577 ≤ fuel) : ∃ l w h o, GsDrawMatchCombs.P fuel tapes code = some (l, w, h, o) ∧ l.length ≤ 20 := by
  obtain ⟨l, c0, e0, hl, h0⟩ := combs5_ok fuel hf (m := 40) (good_of ht code (by omega))
  obtain ⟨x, c1, e1, hx0, hx, _, h1⟩ := pick_ok (n := 24) (m := 38) h0
  have hd : 0 ≤ x / 11 ∧ x / 11 ≤ 2 := by omega
  simp only [GsDrawMatchCombs.P, letK, e0, e1, bind2_some]
  rw [Int.tdiv_eq_ediv_of_nonneg hx0, wrap_in (x := x / 11) (by omega) (by omega), wrap_in (x := 4 + x / 11) (by omega) (by omega), guardK_pos (by simp; omega)]
  obtain ⟨o, c2, e2, _, h2⟩ := among_ok (l := List.take (Int.toNat (4 + x / 11)) [0, 10, 25, 100, (-1), 101]) (m := 36) h1 (by rw [List.length_take]; simp; omega)
  simp only [e2, bind2_some, joinK, appK, unp2, iteK_if]
  by_cases hn : (0 : Int) < (l.length : Int)
  · obtain ⟨q, c3, e3, h3⟩ := one_ok (n := 2) (m := 34) h2
    rw [if_pos (by simpa using hn), e3]
    simp only [bind2_some]
    cases q with
    | true =>
      obtain ⟨k, c4, e4, hk0, hk, _, h4⟩ := pick_ok (n := (l.length : Int)) (m := 32) h3
      obtain ⟨K, hK⟩ : ∃ K : Nat, k = (K : Int) := ⟨k.toNat, by omega⟩
      subst hK
      obtain ⟨y, hy, hyi⟩ := at_lt (l := l) (k := K) (by omega)
      obtain ⟨s, c5, e5, _⟩ := one_ok (n := 2) (m := 30) h4
      obtain ⟨a, b, c, d⟩ := y
      simp only [if_true, e4, bind2_some, hyi, Option.bind_some, unComb, e5]
      cases s with
      | true => exact ⟨l, c, b, o, by simp, hl⟩
      | false => exact ⟨l, b, c, o, by simp, hl⟩
    | false =>
      obtain ⟨a, c4, e4, h4⟩ := ask5_ok (m := 28) h3
      obtain ⟨b, c5, e5, h5⟩ := ask5_ok (m := 22) h4
      exact ⟨l, a, b, o, by simp [e4, e5, bind2], hl⟩
  · obtain ⟨a, c4, e4, h4⟩ := ask5_ok (m := 30) h2
    obtain ⟨b, c5, e5, h5⟩ := ask5_ok (m := 24) h4
    rw [if_neg (by simpa using hn)]
    exact ⟨l, a, b, o, by simp [e4, e5, bind2], hl⟩
theorem drawGT_ok {tapes : List Int → GoC.Tape} (ht : GoC.Tells tapes) (code : List Int) : ∃ g, GsDrawGaugeText.P tapes code = some g := by
  obtain ⟨x, c1, e1, hx0, hx, _, h1⟩ := pick_ok (n := 24) (m := 8) (good_of ht code (by omega))
  have hd : 0 ≤ x / 11 ∧ x / 11 ≤ 2 := by omega
  simp only [GsDrawGaugeText.P, letK, e1, bind2_some]
  rw [Int.tdiv_eq_ediv_of_nonneg hx0, wrap_in (x := x / 11) (by omega) (by omega), wrap_in (x := 6 + x / 11) (by omega) (by omega), guardK_pos (by simp; omega)]
  obtain ⟨y, c2, e2, _, h2⟩ := among_ok (l := List.take (Int.toNat (6 + x / 11)) [500, 1100, 1105, 1150, 1175, 2000, 499, 2001]) (m := 6) h1 (by rw [List.length_take]; simp; omega)
  exact ⟨y, by rw [e2]; rfl⟩
theorem drawCT_ok {tapes : List Int → GoC.Tape} (ht : GoC.Tells tapes) (code : List Int) : ∃ x, GsDrawCombText.P tapes code = some x := by
  obtain ⟨i, c1, e1, _, h1⟩ := among_ok (l := [1, 42, 99]) (m := 12) (good_of ht code (by omega)) (by simp)
  obtain ⟨x, c2, e2, _⟩ := comb5_ok (m := 0) i h1
  obtain ⟨a, b, c, d⟩ := x
  exact ⟨⟨a, b, c, d⟩, by simp only [GsDrawCombText.P, letK, e1, e2, bind2_some, unComb]⟩
end Go.Proofs.YtpcdaoeijlifmaaDoor.Q5CDraws

/- Texts of gauges and combs: the plain functions of the program and of the reference agree, and the laws answer true. (QText) No condition but those of each theorem. -/
namespace Go.Proofs.YtpcdaoeijlifmaaDoor.QText
set_option linter.unusedVariables false
set_option linter.unusedSimpArgs false
open Go.RowKit
open Go.Proofs.YtpcdaoeijlifmaaDoor.GoP Go.Proofs.YtpcdaoeijlifmaaDoor.PlainStamp Go.Proofs.YtpcdaoeijlifmaaDoor.QBase Go.Proofs.YtpcdaoeijlifmaaDoor.QNum Go.Proofs.YtpcdaoeijlifmaaDoor.PlainFace

theorem sz_mk (a : Array UInt8) : (⟨a⟩ : ByteArray).size = a.size := rfl
theorem str_size (l : List UInt8) : (str l).size = l.length := by unfold str; rw [sz_mk, List.size_toArray]
theorem str_list (l : List UInt8) : (str l).toList = l := by rw [Lib.toList_data]; simp [str]
theorem str_app (a b : List UInt8) : str a ++ str b = str (a ++ b) := by
  apply ByteArray.ext; simp [str]
theorem str_cut (l : List UInt8) (i j : Nat) : (str l).extract i j = str ((l.take j).drop i) := by
  apply ByteArray.ext
  simp [str, List.drop_take]
theorem itoaB_str (n : Int) : itoaB n = str (Lib.itoa n) := rfl
theorem mk_str (l : List UInt8) : (⟨l.toArray⟩ : ByteArray) = str l := rfl
theorem dig_cases {d : Int} (h0 : 0 ≤ d) (h : d < 10) : d = 0 ∨ d = 1 ∨ d = 2 ∨ d = 3 ∨ d = 4 ∨ d = 5 ∨ d = 6 ∨ d = 7 ∨ d = 8 ∨ d = 9 := by omega
theorem dig_zero : dig 0 = 48 := rfl
theorem dig_not {d : Int} (h0 : 0 < d) (h : d < 10) : (dig d == 48) = false := by
  rcases dig_cases (d := d) (by omega) h with rfl | rfl | rfl | rfl | rfl | rfl | rfl | rfl | rfl | rfl <;> first | omega | decide
theorem dig_dot {d : Int} (h0 : 0 ≤ d) (h : d < 10) : dig d ≠ 46 := by
  rcases dig_cases h0 h with rfl | rfl | rfl | rfl | rfl | rfl | rfl | rfl | rfl | rfl <;> decide
end Go.Proofs.YtpcdaoeijlifmaaDoor.QText

/- Texts of gauges and combs: the plain functions of the program and of the reference agree, and the laws answer true. (Q2Hund) No condition but those of each theorem. -/
namespace Go.Proofs.YtpcdaoeijlifmaaDoor.Q2Hund
set_option linter.unusedVariables false
set_option linter.unusedSimpArgs false
open Go.RowKit
open Go.Proofs.YtpcdaoeijlifmaaDoor.GoP Go.Proofs.YtpcdaoeijlifmaaDoor.PlainStamp Go.Proofs.YtpcdaoeijlifmaaDoor.QBase Go.Proofs.YtpcdaoeijlifmaaDoor.QText Go.Proofs.YtpcdaoeijlifmaaDoor.QNum Go.Proofs.YtpcdaoeijlifmaaDoor.PlainFace

theorem hund_eq {g : Int} (h0 : 0 ≤ g) (h : g ≤ 9999) : GiHundredths.P g = some (str (Lib.itoa (g / 100) ++ [46, dig (g / 10 % 10), dig (g % 10)])) := by
  have a := itoa_short (n := g / 100) (by omega) (by omega)
  have d1 : Int.tdiv g 100 = g / 100 := Int.tdiv_eq_ediv_of_nonneg (by omega)
  have d2 : Int.tmod g 100 = g % 100 := Int.tmod_eq_emod_of_nonneg (by omega)
  have e := itoa_hund (r := g % 100) (by omega) (by omega)
  rw [show g % 100 / 10 = g / 10 % 10 by omega, show g % 100 % 10 = g % 10 by omega] at e
  simp only [GiHundredths.P, letK, d1, d2]
  rw [wrap_short (by omega) (by omega), wrap_short (by omega) (by omega), itoa_eq (by omega) (by omega), itoa_eq (by omega) (by omega)]
  simp only [Option.bind_some, itoaB_str, e, mk_str]
  rw [guardK_pos (by rw [str_size]; simp), str_cut, str_size]
  simp only [mk_str, str_app, str_size]
  rw [guardK_pos (by simp only [List.length_cons, List.length_nil, maxLen]; omega), guardK_pos (by simp only [List.length_append, List.length_cons, List.length_nil, maxLen]; simp; omega)]
  simp
end Go.Proofs.YtpcdaoeijlifmaaDoor.Q2Hund

