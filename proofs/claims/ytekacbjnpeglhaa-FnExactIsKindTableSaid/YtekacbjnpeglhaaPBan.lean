/- Plain words on the record Ban: its fields, its cells, a list of it as cells one after the other. No condition. -/
import Derived.Test.YtekacbjnpeglhaaRow
namespace Go.Proofs.Ytekacbjnpeglhaa.PBan
set_option linter.unusedVariables false
set_option maxRecDepth 100000

structure Ban where
  a : Int
  x : Int
  b : Int
  y : Int
def Ban.cells (s : Ban) : List Value := [.int .i64 s.a, .int .i64 s.x, .int .i64 s.b, .int .i64 s.y]
def Ban.val (s : Ban) : Value := .agg #[.int .i64 s.a, .int .i64 s.x, .int .i64 s.b, .int .i64 s.y]
/-- each field fits -/
def Ban.fits (s : Ban) : Prop := (Lit.int .i64 s.a).wf = true ∧ (Lit.int .i64 s.x).wf = true ∧ (Lit.int .i64 s.b).wf = true ∧ (Lit.int .i64 s.y).wf = true
def zero : Ban := ⟨0, 0, 0, 0⟩
/-- the letters of its texts -/
def Ban.wt (s : Ban) : Nat := 0
def wts (l : List Ban) : Nat := (l.map Ban.wt).sum
theorem wts_snoc (l : List Ban) (s : Ban) : wts (l ++ [s]) = wts l + s.wt := by unfold wts; simp [List.sum_append]
theorem wts_succ {l : List Ban} {k : Nat} {s : Ban} (h : l[k]? = some s) : wts (l.take (k + 1)) = wts (l.take k) + s.wt := by
  have hk := List.getElem?_eq_some_iff.1 h
  rw [List.take_succ_eq_append_getElem hk.1, hk.2, wts_snoc]
theorem wts_take (l : List Ban) (k : Nat) : wts (l.take k) ≤ wts l := by
  have : wts l = wts (l.take k) + wts (l.drop k) := by
    unfold wts; rw [← List.sum_append, ← List.map_append, List.take_append_drop]
  omega
theorem wts_all (l : List Ban) : wts (l.take l.length) = wts l := by rw [List.take_of_length_le (Nat.le_refl _)]

/-- the cells of a list of records, one after the other -/
def flat (l : List Ban) : List Value := l.flatMap Ban.cells
theorem flat_nil : flat [] = [] := rfl
theorem flat_cons (s : Ban) (l : List Ban) : flat (s :: l) = s.cells ++ flat l := by simp [flat]
theorem flat_snoc (l : List Ban) (s : Ban) : flat (l ++ [s]) = flat l ++ s.cells := by simp [flat]
theorem flat_len (l : List Ban) : (flat l).length = l.length * 4 := by
  induction l with
  | nil => rfl
  | cons s l ih => rw [flat_cons, List.length_append, ih]; simp [Ban.cells]; omega
theorem flat_at : ∀ (l : List Ban) (k : Nat) (s : Ban), l[k]? = some s → ∀ j, j < 4 → (flat l)[k * 4 + j]? = s.cells[j]?
  | [], k, s, h, _, _ => by simp at h
  | r :: l, 0, s, h, j, hj => by
    obtain rfl : r = s := by simpa using h
    rw [flat_cons, List.getElem?_append_left (by simp [Ban.cells]; omega)]; simp
  | r :: l, k + 1, s, h, j, hj => by
    rw [flat_cons, List.getElem?_append_right (by simp [Ban.cells]; omega), show (k + 1) * 4 + j - r.cells.length = k * 4 + j by simp [Ban.cells]; omega]
    exact flat_at l k s (by simpa using h) j hj
end Go.Proofs.Ytekacbjnpeglhaa.PBan
