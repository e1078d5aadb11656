/- Chapter 6: tables of kinds: the plain functions of the program and of the reference agree, and the laws answer true. (Q6Ban) No condition but those of each theorem. -/
import Derived.Test.YtekacbjnpeglhaaQ6Hist
import Derived.Test.YtekacbjnpeglhaaQLoop
import Derived.Test.YtekacbjnpeglhaaQAll
import Derived.Test.YtekacbjnpeglhaaPBan
import Derived.Test.YtekacbjnpeglhaaGoRBan
import Derived.Test.YtekacbjnpeglhaaGiIsBan
import Derived.Test.YtekacbjnpeglhaaGsL6Ban
import Derived.Test.YtekacbjnpeglhaaGsL6Code
import Derived.Test.YtekacbjnpeglhaaGiCompareBans
namespace Go.Proofs.Ytekacbjnpeglhaa.Q6Ban
set_option linter.unusedVariables false
set_option linter.unusedSimpArgs false
open Go.RowKit
open Go.Proofs.Ytekacbjnpeglhaa.GoP Go.Proofs.Ytekacbjnpeglhaa.PlainStamp Go.Proofs.Ytekacbjnpeglhaa.QBase Go.Proofs.Ytekacbjnpeglhaa.Q6Hist Go.Proofs.Ytekacbjnpeglhaa.QLoop Go.Proofs.Ytekacbjnpeglhaa.QAll Go.Proofs.Ytekacbjnpeglhaa.PBan

def okS (s : List Int) : Bool := allN s.length fun i => match s[i]? with | some z => inB z 1 5 | none => true
theorem okS_at {s : List Int} (h : okS s = true) {i : Nat} {z : Int} (hz : s[i]? = some z) : 1 ≤ z ∧ z ≤ 5 := by
  have := allN_iff.1 h i (List.getElem?_eq_some_iff.1 hz).1
  simp only [hz] at this
  exact inB_of this
def hasV (s : List Int) (a v : Int) : Bool := inB a 0 (s.length - 1) && (match s[a.toNat]? with | some z => inB v 0 (z - 1) | none => false)
theorem hasV_of {s : List Int} {a v : Int} (h : hasV s a v = true) : ∃ (k : Nat) (z : Int), a = (k : Int) ∧ k < s.length ∧ s[k]? = some z ∧ 0 ≤ v ∧ v < z := by
  unfold hasV at h
  simp only [Bool.and_eq_true] at h
  have h1 := inB_of h.1
  obtain ⟨k, rfl⟩ : ∃ k : Nat, a = (k : Int) := ⟨a.toNat, by omega⟩
  obtain ⟨z, hz, _⟩ := at_lt (l := s) (k := k) (by omega)
  have h2 := h.2
  rw [Int.toNat_natCast, hz] at h2
  have := inB_of h2
  exact ⟨k, z, rfl, by omega, hz, by omega, by omega⟩
theorem hasValue_eq (s : List Int) (hs : okS s = true) (hl : s.length ≤ 9223372036854775807) (a v : Int) : GiHasValue.P s a v = some (hasV s a v) := by
  simp only [GiHasValue.P, within_eq, Option.bind_some, letK, joinK, appK, iteK_if]
  rw [wrap_in (by omega) (by omega)]
  unfold hasV
  cases h : inB a 0 (s.length - 1) with
  | false => simp
  | true =>
    have h1 := inB_of h
    obtain ⟨k, rfl⟩ : ∃ k : Nat, a = (k : Int) := ⟨a.toNat, by omega⟩
    obtain ⟨z, hz, hi⟩ := at_lt (l := s) (k := k) (by omega)
    have hz2 := okS_at hs hz
    simp only [hi, Option.bind_some, Int.toNat_natCast, hz, if_true, Bool.true_and]
    rw [wrap_in (by omega) (by omega)]
def okB (s : List Int) (b : Ban) : Bool := decide (b.a < b.b) && hasV s b.a b.x && hasV s b.b b.y
theorem isBan_eq (s : List Int) (hs : okS s = true) (hl : s.length ≤ 9223372036854775807) (b : Ban) : GiIsBan.P s b = some (okB s b) := by
  obtain ⟨a, x, c, y⟩ := b
  simp only [GiIsBan.P, unBan, hasValue_eq s hs hl, Option.bind_some, letK, joinK, appK, iteK_if, okB]
  by_cases h : a < c <;> cases hasV s a x <;> cases hasV s c y <;> simp [h]
theorem l6Ban_eq (s : List Int) (hs : okS s = true) (hl : s.length ≤ 9223372036854775807) (b : Ban) : GsL6Ban.P s b = some (okB s b) := by
  obtain ⟨a, x, c, y⟩ := b
  simp only [GsL6Ban.P, unBan, l1In_eq, Option.bind_some, letK, joinK, appK, iteK_if, okB, hasV]
  by_cases h1 : 0 ≤ a
  · by_cases h2 : a < c
    · by_cases h3 : c < (s.length : Int)
      · obtain ⟨i, rfl⟩ : ∃ k : Nat, a = (k : Int) := ⟨a.toNat, by omega⟩
        obtain ⟨j, rfl⟩ : ∃ k : Nat, c = (k : Int) := ⟨c.toNat, by omega⟩
        obtain ⟨z, hz, hi⟩ := at_lt (l := s) (k := i) (by omega)
        obtain ⟨u, hu, hj⟩ := at_lt (l := s) (k := j) (by omega)
        have hz2 := okS_at hs hz
        have hu2 := okS_at hs hu
        have e1 : inB (i : Int) 0 (s.length - 1) = true := by unfold inB; simp; omega
        have e2 : inB (j : Int) 0 (s.length - 1) = true := by unfold inB; simp; omega
        simp only [h1, h2, h3, decide_true, if_true, hi, hj, Option.bind_some, Int.toNat_natCast, hz, hu, e1, e2, Bool.true_and]
        rw [wrap_in (x := z - 1) (by omega) (by omega), wrap_in (x := u - 1) (by omega) (by omega)]
        cases inB x 0 (z - 1) <;> simp
      · have e2 : inB c 0 (s.length - 1) = false := by unfold inB; simp; omega
        simp [h1, h2, h3, e2]
    · simp [h1, h2]
  · have e1 : inB a 0 (s.length - 1) = false := by unfold inB; simp; omega
    simp [h1, e1]
def code (b : Ban) : Int := 1000 * b.a + 100 * b.x + 10 * b.b + b.y
theorem okB_in {s : List Int} (hs : okS s = true) (hl : s.length ≤ 5) {b : Ban} (h : okB s b = true) : 0 ≤ b.a ∧ b.a < b.b ∧ b.b ≤ 4 ∧ b.b < s.length ∧ 0 ≤ b.x ∧ b.x ≤ 4 ∧ 0 ≤ b.y ∧ b.y ≤ 4 := by
  unfold okB at h
  simp only [Bool.and_eq_true, decide_eq_true_eq] at h
  obtain ⟨k, z, e1, k1, hz, v1, v2⟩ := hasV_of h.1.2
  obtain ⟨j, u, e2, k2, hu, v3, v4⟩ := hasV_of h.2
  have := okS_at hs hz
  have := okS_at hs hu
  omega
theorem l6Code_eq {s : List Int} (hs : okS s = true) (hl : s.length ≤ 5) {b : Ban} (h : okB s b = true) : GsL6Code.P b = some (code b) := by
  have := okB_in hs hl h
  obtain ⟨a, x, c, y⟩ := b
  dsimp only at this
  simp only [GsL6Code.P, unBan, letK, code]
  rw [wrap_in (x := 1000 * a) (by omega) (by omega), wrap_in (x := 100 * x) (by omega) (by omega), wrap_in (x := 1000 * a + 100 * x) (by omega) (by omega), wrap_in (x := 10 * c) (by omega) (by omega), wrap_in (x := 1000 * a + 100 * x + 10 * c) (by omega) (by omega), wrap_in (by omega) (by omega)]
def cmpI (x y : Int) : Int := if x < y then -1 else if y < x then 1 else 0
theorem cmp_eq (x y : Int) : GxCmpCompareInt.P x y = some (cmpI x y) := by
  simp only [GxCmpCompareInt.P, GxCmpIsNaNInt.P, Option.bind_some, letK, iteK_if, cmpI]
  by_cases h1 : x < y
  · simp [h1]
  · by_cases h2 : y < x <;> simp [h1, h2]
theorem or_eq (a b c d : Int) : GxCmpOrInt.P [a, b, c, d] = some (if a != 0 then a else if b != 0 then b else if c != 0 then c else d) := by
  have st : ∀ m k fin, cntK (GxCmpOrInt.l0 [a, b, c, d]) (m + 1) k () fin = GxCmpOrInt.l0 [a, b, c, d] k () (fun s' => cntK (GxCmpOrInt.l0 [a, b, c, d]) m (k + 1) s' fin) fin := fun _ _ _ => rfl
  show cntK (GxCmpOrInt.l0 [a, b, c, d]) (3 + 1) 0 () (GxCmpOrInt.e0) = _
  rw [st]
  simp only [GxCmpOrInt.l0, show idx [a, b, c, d] ((0 : Nat) : Int) = some a from rfl, Option.bind_some, letK, appK, iteK_if]
  by_cases ha : (a != 0) = true
  · rw [if_pos ha, if_pos ha]
  · rw [if_neg ha, if_neg ha]
    show cntK (GxCmpOrInt.l0 [a, b, c, d]) (2 + 1) 1 () (GxCmpOrInt.e0) = _
    rw [st]
    simp only [GxCmpOrInt.l0, show idx [a, b, c, d] ((1 : Nat) : Int) = some b from rfl, Option.bind_some, letK, appK, iteK_if]
    by_cases hb : (b != 0) = true
    · rw [if_pos hb, if_pos hb]
    · rw [if_neg hb, if_neg hb]
      show cntK (GxCmpOrInt.l0 [a, b, c, d]) (1 + 1) 2 () (GxCmpOrInt.e0) = _
      rw [st]
      simp only [GxCmpOrInt.l0, show idx [a, b, c, d] ((2 : Nat) : Int) = some c from rfl, Option.bind_some, letK, appK, iteK_if]
      by_cases hc : (c != 0) = true
      · rw [if_pos hc, if_pos hc]
      · rw [if_neg hc, if_neg hc]
        show cntK (GxCmpOrInt.l0 [a, b, c, d]) (0 + 1) 3 () (GxCmpOrInt.e0) = _
        rw [st]
        simp only [GxCmpOrInt.l0, show idx [a, b, c, d] ((3 : Nat) : Int) = some d from rfl, Option.bind_some, letK, appK, iteK_if]
        by_cases hd : (d != 0) = true
        · rw [if_pos hd]
        · rw [if_neg hd]
          have : d = 0 := by simpa using hd
          rw [this]; rfl
theorem compare_eq {s : List Int} (hs : okS s = true) (hl : s.length ≤ 5) {r b : Ban} (hr : okB s r = true) (hb : okB s b = true) : ∃ c, GiCompareBans.P r b = some c ∧ (0 ≤ c ↔ code b ≤ code r) ∧ (c < 0 ↔ code r < code b) ∧ (c = 0 ↔ code r = code b) := by
  have h1 := okB_in hs hl hr
  have h2 := okB_in hs hl hb
  obtain ⟨a, x, c, y⟩ := r
  obtain ⟨a', x', c', y'⟩ := b
  dsimp only at h1 h2
  simp only [GiCompareBans.P, unBan, cmp_eq, Option.bind_some, letK, or_eq]
  refine ⟨_, rfl, ?_⟩
  unfold cmpI code
  dsimp only
  by_cases p1 : a < a'
  · simp [p1]; omega
  · by_cases p2 : a' < a
    · simp [p1, p2]; omega
    · obtain rfl : a = a' := by omega
      by_cases p3 : x < x'
      · simp [p3]; omega
      · by_cases p4 : x' < x
        · simp [p3, p4]; omega
        · obtain rfl : x = x' := by omega
          by_cases p5 : c < c'
          · simp [p5]; omega
          · by_cases p6 : c' < c
            · simp [p5, p6]; omega
            · obtain rfl : c = c' := by omega
              by_cases p7 : y < y'
              · simp [p7]; omega
              · by_cases p8 : y' < y
                · simp [p7, p8]; omega
                · simp [p7, p8]; omega
end Go.Proofs.Ytekacbjnpeglhaa.Q6Ban
