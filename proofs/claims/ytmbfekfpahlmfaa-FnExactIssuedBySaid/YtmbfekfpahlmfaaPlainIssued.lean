/- Plain words on the stamps issued up to a year. No condition. -/
import Derived.Test.YtmbfekfpahlmfaaPlainStamp
namespace Go.Proofs.Ytmbfekfpahlmfaa.PlainIssued
set_option linter.unusedVariables false
open Go.Proofs.Ytmbfekfpahlmfaa.PlainStamp

/-- the ids of the stamps up to a year -/
def issued (l : List St) (y : Int) : List Int := (l.filter fun s => decide (s.year ≤ y)).map St.id
theorem issued_zero (l : List St) (y : Int) : issued (l.take 0) y = [] := rfl
theorem issued_yes {l : List St} {k : Nat} {s : St} {y : Int} (hs : l[k]? = some s) (h : s.year ≤ y) : issued (l.take (k + 1)) y = issued (l.take k) y ++ [s.id] := by
  have hk := (List.getElem?_eq_some_iff.1 hs)
  rw [List.take_succ_eq_append_getElem hk.1, hk.2]
  unfold issued
  rw [List.filter_append]
  simp [h]
theorem issued_no {l : List St} {k : Nat} {s : St} {y : Int} (hs : l[k]? = some s) (h : ¬ s.year ≤ y) : issued (l.take (k + 1)) y = issued (l.take k) y := by
  have hk := (List.getElem?_eq_some_iff.1 hs)
  rw [List.take_succ_eq_append_getElem hk.1, hk.2]
  unfold issued
  rw [List.filter_append]
  simp [h]
theorem issued_all (l : List St) (y : Int) : issued (l.take l.length) y = issued l y := by rw [List.take_of_length_le (Nat.le_refl _)]
theorem issued_len (l : List St) (k : Nat) (y : Int) : (issued (l.take k) y).length ≤ l.length := by
  unfold issued
  rw [List.length_map]
  have := List.length_filter_le (fun s : St => decide (s.year ≤ y)) (l.take k)
  have h2 : (l.take k).length ≤ l.length := by rw [List.length_take]; omega
  omega
def isRes (l : List St) (y : Int) : List Int × Bool := if okSts l && inB y 1840 2100 then (issued l y, true) else ([], false)
theorem isRes_yes {l : List St} {y : Int} (h1 : okSts l = true) (h2 : inB y 1840 2100 = true) : isRes l y = (issued l y, true) := by unfold isRes; rw [h1, h2]; rfl
theorem isRes_no1 {l : List St} {y : Int} (h1 : okSts l = false) : isRes l y = ([], false) := by unfold isRes; rw [h1]; rfl
theorem isRes_no2 {l : List St} {y : Int} (h2 : inB y 1840 2100 = false) : isRes l y = ([], false) := by unfold isRes; rw [h2]; simp
theorem isRes_len (l : List St) (y : Int) : (isRes l y).1.length ≤ l.length := by
  unfold isRes; split
  · have := issued_len l l.length y; rw [issued_all] at this; exact this
  · simp
end Go.Proofs.Ytmbfekfpahlmfaa.PlainIssued
