/- Plain words on the record Rate: its fields, its cells, a list of it as cells one after the other. No condition. -/
import Derived.Test.YtkinlkmmelkdnaaDoorRow
namespace Go.Proofs.YtkinlkmmelkdnaaDoor.PRate
set_option linter.unusedVariables false
set_option maxRecDepth 100000

structure Rate where
  zone : Int
  grams : Int
  from_ : Int
  until_ : Int
  cents : Int
def Rate.cells (s : Rate) : List Value := [.int .i64 s.zone, .int .i64 s.grams, .int .i64 s.from_, .int .i64 s.until_, .int .i64 s.cents]
def Rate.val (s : Rate) : Value := .agg #[.int .i64 s.zone, .int .i64 s.grams, .int .i64 s.from_, .int .i64 s.until_, .int .i64 s.cents]
/-- each field fits -/
def Rate.fits (s : Rate) : Prop := (Lit.int .i64 s.zone).wf = true ∧ (Lit.int .i64 s.grams).wf = true ∧ (Lit.int .i64 s.from_).wf = true ∧ (Lit.int .i64 s.until_).wf = true ∧ (Lit.int .i64 s.cents).wf = true
def zero : Rate := ⟨0, 0, 0, 0, 0⟩
/-- the letters of its texts -/
def Rate.wt (s : Rate) : Nat := 0
def wts (l : List Rate) : Nat := (l.map Rate.wt).sum
theorem wts_snoc (l : List Rate) (s : Rate) : wts (l ++ [s]) = wts l + s.wt := by unfold wts; simp [List.sum_append]
theorem wts_succ {l : List Rate} {k : Nat} {s : Rate} (h : l[k]? = some s) : wts (l.take (k + 1)) = wts (l.take k) + s.wt := by
  have hk := List.getElem?_eq_some_iff.1 h
  rw [List.take_succ_eq_append_getElem hk.1, hk.2, wts_snoc]
theorem wts_take (l : List Rate) (k : Nat) : wts (l.take k) ≤ wts l := by
  have : wts l = wts (l.take k) + wts (l.drop k) := by
    unfold wts; rw [← List.sum_append, ← List.map_append, List.take_append_drop]
  omega
theorem wts_all (l : List Rate) : wts (l.take l.length) = wts l := by rw [List.take_of_length_le (Nat.le_refl _)]

/-- the cells of a list of records, one after the other -/
def flat (l : List Rate) : List Value := l.flatMap Rate.cells
theorem flat_nil : flat [] = [] := rfl
theorem flat_cons (s : Rate) (l : List Rate) : flat (s :: l) = s.cells ++ flat l := by simp [flat]
theorem flat_snoc (l : List Rate) (s : Rate) : flat (l ++ [s]) = flat l ++ s.cells := by simp [flat]
theorem flat_len (l : List Rate) : (flat l).length = l.length * 5 := by
  induction l with
  | nil => rfl
  | cons s l ih => rw [flat_cons, List.length_append, ih]; simp [Rate.cells]; omega
theorem flat_at : ∀ (l : List Rate) (k : Nat) (s : Rate), l[k]? = some s → ∀ j, j < 5 → (flat l)[k * 5 + j]? = s.cells[j]?
  | [], k, s, h, _, _ => by simp at h
  | r :: l, 0, s, h, j, hj => by
    obtain rfl : r = s := by simpa using h
    rw [flat_cons, List.getElem?_append_left (by simp [Rate.cells]; omega)]; simp
  | r :: l, k + 1, s, h, j, hj => by
    rw [flat_cons, List.getElem?_append_right (by simp [Rate.cells]; omega), show (k + 1) * 5 + j - r.cells.length = k * 5 + j by simp [Rate.cells]; omega]
    exact flat_at l k s (by simpa using h) j hj
end Go.Proofs.YtkinlkmmelkdnaaDoor.PRate
