/- Plain words on the record Comb: its fields, its cells, a list of it as cells one after the other. No condition. -/
import Derived.Test.YtdgbigkcophjoaaRow
namespace Go.Proofs.Ytdgbigkcophjoaa.PComb
set_option linter.unusedVariables false
set_option maxRecDepth 100000

structure Comb where
  id : Int
  wide : Int
  high : Int
  line : Bool
def Comb.cells (s : Comb) : List Value := [.int .i64 s.id, .int .i64 s.wide, .int .i64 s.high, .bool s.line]
def Comb.val (s : Comb) : Value := .agg #[.int .i64 s.id, .int .i64 s.wide, .int .i64 s.high, .bool s.line]
/-- each field fits -/
def Comb.fits (s : Comb) : Prop := (Lit.int .i64 s.id).wf = true ∧ (Lit.int .i64 s.wide).wf = true ∧ (Lit.int .i64 s.high).wf = true ∧ True
def zero : Comb := ⟨0, 0, 0, false⟩
/-- the letters of its texts -/
def Comb.wt (s : Comb) : Nat := 0
def wts (l : List Comb) : Nat := (l.map Comb.wt).sum
theorem wts_snoc (l : List Comb) (s : Comb) : wts (l ++ [s]) = wts l + s.wt := by unfold wts; simp [List.sum_append]
theorem wts_succ {l : List Comb} {k : Nat} {s : Comb} (h : l[k]? = some s) : wts (l.take (k + 1)) = wts (l.take k) + s.wt := by
  have hk := List.getElem?_eq_some_iff.1 h
  rw [List.take_succ_eq_append_getElem hk.1, hk.2, wts_snoc]
theorem wts_take (l : List Comb) (k : Nat) : wts (l.take k) ≤ wts l := by
  have : wts l = wts (l.take k) + wts (l.drop k) := by
    unfold wts; rw [← List.sum_append, ← List.map_append, List.take_append_drop]
  omega
theorem wts_all (l : List Comb) : wts (l.take l.length) = wts l := by rw [List.take_of_length_le (Nat.le_refl _)]

/-- the cells of a list of records, one after the other -/
def flat (l : List Comb) : List Value := l.flatMap Comb.cells
theorem flat_nil : flat [] = [] := rfl
theorem flat_cons (s : Comb) (l : List Comb) : flat (s :: l) = s.cells ++ flat l := by simp [flat]
theorem flat_snoc (l : List Comb) (s : Comb) : flat (l ++ [s]) = flat l ++ s.cells := by simp [flat]
theorem flat_len (l : List Comb) : (flat l).length = l.length * 4 := by
  induction l with
  | nil => rfl
  | cons s l ih => rw [flat_cons, List.length_append, ih]; simp [Comb.cells]; omega
theorem flat_at : ∀ (l : List Comb) (k : Nat) (s : Comb), l[k]? = some s → ∀ j, j < 4 → (flat l)[k * 4 + j]? = s.cells[j]?
  | [], k, s, h, _, _ => by simp at h
  | r :: l, 0, s, h, j, hj => by
    obtain rfl : r = s := by simpa using h
    rw [flat_cons, List.getElem?_append_left (by simp [Comb.cells]; omega)]; simp
  | r :: l, k + 1, s, h, j, hj => by
    rw [flat_cons, List.getElem?_append_right (by simp [Comb.cells]; omega), show (k + 1) * 4 + j - r.cells.length = k * 4 + j by simp [Comb.cells]; omega]
    exact flat_at l k s (by simpa using h) j hj
end Go.Proofs.Ytdgbigkcophjoaa.PComb
