/- Plain words on the record Paper: its fields, its cells, a list of it as cells one after the other. No condition. -/
import Derived.Test.YtdgbigkcophjoaaRow
namespace Go.Proofs.Ytdgbigkcophjoaa.PPaper
set_option linter.unusedVariables false
set_option maxRecDepth 100000

structure Paper where
  id : Int
  thick : Int
  tint : Int
  mark : ByteArray
  laid : Bool
def Paper.cells (s : Paper) : List Value := [.int .i64 s.id, .int .i64 s.thick, .int .i64 s.tint, .string s.mark, .bool s.laid]
def Paper.val (s : Paper) : Value := .agg #[.int .i64 s.id, .int .i64 s.thick, .int .i64 s.tint, .string s.mark, .bool s.laid]
/-- each field fits -/
def Paper.fits (s : Paper) : Prop := (Lit.int .i64 s.id).wf = true ∧ (Lit.int .i64 s.thick).wf = true ∧ (Lit.int .i64 s.tint).wf = true ∧ s.mark.size ≤ maxLen ∧ True
def zero : Paper := ⟨0, 0, 0, ByteArray.empty, false⟩
/-- the letters of its texts -/
def Paper.wt (s : Paper) : Nat := s.mark.size
def wts (l : List Paper) : Nat := (l.map Paper.wt).sum
theorem wts_snoc (l : List Paper) (s : Paper) : wts (l ++ [s]) = wts l + s.wt := by unfold wts; simp [List.sum_append]
theorem wts_succ {l : List Paper} {k : Nat} {s : Paper} (h : l[k]? = some s) : wts (l.take (k + 1)) = wts (l.take k) + s.wt := by
  have hk := List.getElem?_eq_some_iff.1 h
  rw [List.take_succ_eq_append_getElem hk.1, hk.2, wts_snoc]
theorem wts_take (l : List Paper) (k : Nat) : wts (l.take k) ≤ wts l := by
  have : wts l = wts (l.take k) + wts (l.drop k) := by
    unfold wts; rw [← List.sum_append, ← List.map_append, List.take_append_drop]
  omega
theorem wts_all (l : List Paper) : wts (l.take l.length) = wts l := by rw [List.take_of_length_le (Nat.le_refl _)]

/-- the cells of a list of records, one after the other -/
def flat (l : List Paper) : List Value := l.flatMap Paper.cells
theorem flat_nil : flat [] = [] := rfl
theorem flat_cons (s : Paper) (l : List Paper) : flat (s :: l) = s.cells ++ flat l := by simp [flat]
theorem flat_snoc (l : List Paper) (s : Paper) : flat (l ++ [s]) = flat l ++ s.cells := by simp [flat]
theorem flat_len (l : List Paper) : (flat l).length = l.length * 5 := by
  induction l with
  | nil => rfl
  | cons s l ih => rw [flat_cons, List.length_append, ih]; simp [Paper.cells]; omega
theorem flat_at : ∀ (l : List Paper) (k : Nat) (s : Paper), l[k]? = some s → ∀ j, j < 5 → (flat l)[k * 5 + j]? = s.cells[j]?
  | [], k, s, h, _, _ => by simp at h
  | r :: l, 0, s, h, j, hj => by
    obtain rfl : r = s := by simpa using h
    rw [flat_cons, List.getElem?_append_left (by simp [Paper.cells]; omega)]; simp
  | r :: l, k + 1, s, h, j, hj => by
    rw [flat_cons, List.getElem?_append_right (by simp [Paper.cells]; omega), show (k + 1) * 5 + j - r.cells.length = k * 5 + j by simp [Paper.cells]; omega]
    exact flat_at l k s (by simpa using h) j hj
end Go.Proofs.Ytdgbigkcophjoaa.PPaper
