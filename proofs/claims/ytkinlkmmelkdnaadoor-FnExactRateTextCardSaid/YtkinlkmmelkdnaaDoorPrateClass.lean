/- Plain words on the record rateClass: its fields, its cells, a list of it as cells one after the other. No condition. -/
import Derived.Test.YtkinlkmmelkdnaaDoorRow
namespace Go.Proofs.YtkinlkmmelkdnaaDoor.PrateClass
set_option linter.unusedVariables false
set_option maxRecDepth 100000

structure rateClass where
  zone : Int
  grams : Int
def rateClass.cells (s : rateClass) : List Value := [.int .i64 s.zone, .int .i64 s.grams]
def rateClass.val (s : rateClass) : Value := .agg #[.int .i64 s.zone, .int .i64 s.grams]
/-- each field fits -/
def rateClass.fits (s : rateClass) : Prop := (Lit.int .i64 s.zone).wf = true ∧ (Lit.int .i64 s.grams).wf = true
def zero : rateClass := ⟨0, 0⟩
/-- the letters of its texts -/
def rateClass.wt (s : rateClass) : Nat := 0
def wts (l : List rateClass) : Nat := (l.map rateClass.wt).sum
theorem wts_snoc (l : List rateClass) (s : rateClass) : wts (l ++ [s]) = wts l + s.wt := by unfold wts; simp [List.sum_append]
theorem wts_succ {l : List rateClass} {k : Nat} {s : rateClass} (h : l[k]? = some s) : wts (l.take (k + 1)) = wts (l.take k) + s.wt := by
  have hk := List.getElem?_eq_some_iff.1 h
  rw [List.take_succ_eq_append_getElem hk.1, hk.2, wts_snoc]
theorem wts_take (l : List rateClass) (k : Nat) : wts (l.take k) ≤ wts l := by
  have : wts l = wts (l.take k) + wts (l.drop k) := by
    unfold wts; rw [← List.sum_append, ← List.map_append, List.take_append_drop]
  omega
theorem wts_all (l : List rateClass) : wts (l.take l.length) = wts l := by rw [List.take_of_length_le (Nat.le_refl _)]

/-- the cells of a list of records, one after the other -/
def flat (l : List rateClass) : List Value := l.flatMap rateClass.cells
theorem flat_nil : flat [] = [] := rfl
theorem flat_cons (s : rateClass) (l : List rateClass) : flat (s :: l) = s.cells ++ flat l := by simp [flat]
theorem flat_snoc (l : List rateClass) (s : rateClass) : flat (l ++ [s]) = flat l ++ s.cells := by simp [flat]
theorem flat_len (l : List rateClass) : (flat l).length = l.length * 2 := by
  induction l with
  | nil => rfl
  | cons s l ih => rw [flat_cons, List.length_append, ih]; simp [rateClass.cells]; omega
theorem flat_at : ∀ (l : List rateClass) (k : Nat) (s : rateClass), l[k]? = some s → ∀ j, j < 2 → (flat l)[k * 2 + j]? = s.cells[j]?
  | [], k, s, h, _, _ => by simp at h
  | r :: l, 0, s, h, j, hj => by
    obtain rfl : r = s := by simpa using h
    rw [flat_cons, List.getElem?_append_left (by simp [rateClass.cells]; omega)]; simp
  | r :: l, k + 1, s, h, j, hj => by
    rw [flat_cons, List.getElem?_append_right (by simp [rateClass.cells]; omega), show (k + 1) * 2 + j - r.cells.length = k * 2 + j by simp [rateClass.cells]; omega]
    exact flat_at l k s (by simpa using h) j hj
end Go.Proofs.YtkinlkmmelkdnaaDoor.PrateClass
