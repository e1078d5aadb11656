/- Plain words on the value of a franking. No condition. -/
import Derived.Test.YtdgbigkcophjoaaPlainStamp
namespace Go.Proofs.Ytdgbigkcophjoaa.PlainValue
set_option linter.unusedVariables false
open Go.Proofs.Ytdgbigkcophjoaa.PlainStamp

def frAt (l : List St) (f : List Int) (k : Nat) : Bool :=
  match f[k]? with
  | none => true
  | some x => decide (0 ≤ x ∧ x < (l.length : Int)) && (decide (k = 0) || (match f[k-1]? with | none => true | some r => decide (r ≤ x)))
def frUp (l : List St) (f : List Int) (k : Nat) : Bool := (List.range k).all (frAt l f)
theorem frUp_zero (l : List St) (f : List Int) : frUp l f 0 = true := by simp [frUp]
theorem frUp_succ (l : List St) (f : List Int) (k : Nat) : frUp l f (k + 1) = (frUp l f k && frAt l f k) := by simp [frUp, List.range_succ, List.all_append]
theorem frUp_not {l : List St} {f : List Int} {k n : Nat} (h : frAt l f k = false) (hk : k < n) : frUp l f n = false := by
  unfold frUp
  rw [Bool.eq_false_iff]
  intro hall
  have := List.all_eq_true.1 hall k (List.mem_range.2 hk)
  rw [h] at this
  exact absurd this (by simp)
def faceAt (l : List St) (x : Int) : Int := match l[x.toNat]? with | none => 0 | some s => s.face
theorem faceAt_of {l : List St} {j : Nat} {s : St} (h : l[j]? = some s) : faceAt l (j : Int) = s.face := by
  unfold faceAt; rw [Int.toNat_natCast, h]
def sumUp (l : List St) (f : List Int) (k : Nat) : Int := ((f.take k).map (faceAt l)).sum
theorem sumUp_zero (l : List St) (f : List Int) : sumUp l f 0 = 0 := rfl
theorem sumUp_succ {l : List St} {f : List Int} {k : Nat} {x : Int} (h : f[k]? = some x) : sumUp l f (k + 1) = sumUp l f k + faceAt l x := by
  have hk := List.getElem?_eq_some_iff.1 h
  unfold sumUp
  rw [List.take_succ_eq_append_getElem hk.1, hk.2]
  simp
theorem faceAt_bd {l : List St} (h : okSts l = true) (x : Int) : 0 ≤ faceAt l x ∧ faceAt l x ≤ 9999 := by
  unfold faceAt
  split
  · omega
  · rename_i s hs
    have := (okSt_yes (okSts_at h hs).1).2.1
    omega
theorem sumUp_bd {l : List St} (h : okSts l = true) (f : List Int) : ∀ k, 0 ≤ sumUp l f k ∧ sumUp l f k ≤ 9999 * k
  | 0 => by rw [sumUp_zero]; omega
  | k + 1 => by
    have ih := sumUp_bd h f k
    cases hx : f[k]? with
    | none =>
      have : sumUp l f (k + 1) = sumUp l f k := by
        unfold sumUp
        rw [List.getElem?_eq_none_iff] at hx
        rw [List.take_of_length_le (by omega), List.take_of_length_le (by omega)]
      omega
    | some x =>
      have := faceAt_bd h x
      rw [sumUp_succ hx]
      omega
def leastUp (f : List Int) (k : Nat) : Int := if k = 0 then 0 else f.getD (k - 1) 0
theorem leastUp_zero (f : List Int) : leastUp f 0 = 0 := rfl
theorem leastUp_succ {f : List Int} {k : Nat} {x : Int} (h : f[k]? = some x) : leastUp f (k + 1) = x := by
  unfold leastUp; rw [if_neg (by omega), Nat.add_sub_cancel, List.getD_eq_getElem?_getD, h]; rfl
theorem leastUp_nn {l : List St} {f : List Int} : ∀ {k : Nat}, frUp l f k = true → 0 ≤ leastUp f k
  | 0, _ => by rw [leastUp_zero]; omega
  | k + 1, h => by
    rw [frUp_succ, Bool.and_eq_true] at h
    cases hx : f[k]? with
    | none => unfold leastUp; rw [if_neg (by omega), Nat.add_sub_cancel, List.getD_eq_getElem?_getD, hx]; simp
    | some x =>
      rw [leastUp_succ hx]
      have h2 := h.2
      unfold frAt at h2
      rw [hx] at h2
      simp only [Bool.and_eq_true, decide_eq_true_eq] at h2
      exact h2.1.1
theorem frAt_eq {l : List St} {f : List Int} {k : Nat} {x : Int} (hu : frUp l f k = true) (hx : f[k]? = some x) : frAt l f k = inB x (leastUp f k) ((l.length : Int) - 1) := by
  have hnn := leastUp_nn hu
  have hlt := (List.getElem?_eq_some_iff.1 hx).1
  unfold frAt inB
  rw [hx]
  by_cases hk : k = 0
  · subst hk
    rw [leastUp_zero]
    simp only [decide_true, Bool.true_or, Bool.and_true]
    rw [decide_eq_decide]
    omega
  · have e : f[k-1]? = some (f[k-1]'(by omega)) := List.getElem?_eq_getElem (by omega)
    have hg : leastUp f k = f[k-1]'(by omega) := by
      unfold leastUp; rw [if_neg hk, List.getD_eq_getElem?_getD, e]; rfl
    rw [hg] at hnn ⊢
    rw [e]
    simp only [decide_eq_false hk, Bool.false_or]
    rw [← Bool.decide_and, decide_eq_decide]
    omega
theorem frAt_is {l : List St} {f : List Int} {k : Nat} {x : Int} (hx : f[k]? = some x) : frAt l f k = true ↔ (0 ≤ x ∧ x < (l.length : Int)) ∧ (k = 0 ∨ ∀ r, f[k-1]? = some r → r ≤ x) := by
  unfold frAt
  rw [hx]
  simp only [Bool.and_eq_true, Bool.or_eq_true, decide_eq_true_eq]
  cases f[k-1]? <;> simp
def valRes (l : List St) (f : List Int) : Int × Bool := if okSts l && decide (f.length ≤ 40) && frUp l f f.length then (sumUp l f f.length, true) else (0, false)
theorem valRes_no1 {l : List St} {f : List Int} (h : okSts l = false) : valRes l f = (0, false) := by unfold valRes; simp [h]
theorem valRes_no2 {l : List St} {f : List Int} (h : 40 < f.length) : valRes l f = (0, false) := by unfold valRes; rw [decide_eq_false (by omega)]; simp
theorem valRes_no3 {l : List St} {f : List Int} {k : Nat} (h : frAt l f k = false) (hk : k < f.length) : valRes l f = (0, false) := by unfold valRes; rw [frUp_not h hk]; simp
theorem valRes_yes {l : List St} {f : List Int} (h1 : okSts l = true) (h2 : f.length ≤ 40) (h3 : frUp l f f.length = true) : valRes l f = (sumUp l f f.length, true) := by unfold valRes; simp [h1, h2, h3]
end Go.Proofs.Ytdgbigkcophjoaa.PlainValue
