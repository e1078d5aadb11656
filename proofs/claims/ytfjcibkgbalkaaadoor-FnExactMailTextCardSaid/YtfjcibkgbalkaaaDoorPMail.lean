/- Plain words on the record Mail: its fields, its cells, a list of it as cells one after the other. No condition. -/
import Derived.Test.YtfjcibkgbalkaaaDoorRow
namespace Go.Proofs.YtfjcibkgbalkaaaDoor.PMail
set_option linter.unusedVariables false
set_option maxRecDepth 100000

structure Mail where
  leave : Int
  from_ : Int
  to_ : Int
  arrive : Int
def Mail.cells (s : Mail) : List Value := [.int .i64 s.leave, .int .i64 s.from_, .int .i64 s.to_, .int .i64 s.arrive]
def Mail.val (s : Mail) : Value := .agg #[.int .i64 s.leave, .int .i64 s.from_, .int .i64 s.to_, .int .i64 s.arrive]
/-- each field fits -/
def Mail.fits (s : Mail) : Prop := (Lit.int .i64 s.leave).wf = true ∧ (Lit.int .i64 s.from_).wf = true ∧ (Lit.int .i64 s.to_).wf = true ∧ (Lit.int .i64 s.arrive).wf = true
def zero : Mail := ⟨0, 0, 0, 0⟩
/-- the letters of its texts -/
def Mail.wt (s : Mail) : Nat := 0
def wts (l : List Mail) : Nat := (l.map Mail.wt).sum
theorem wts_snoc (l : List Mail) (s : Mail) : wts (l ++ [s]) = wts l + s.wt := by unfold wts; simp [List.sum_append]
theorem wts_succ {l : List Mail} {k : Nat} {s : Mail} (h : l[k]? = some s) : wts (l.take (k + 1)) = wts (l.take k) + s.wt := by
  have hk := List.getElem?_eq_some_iff.1 h
  rw [List.take_succ_eq_append_getElem hk.1, hk.2, wts_snoc]
theorem wts_take (l : List Mail) (k : Nat) : wts (l.take k) ≤ wts l := by
  have : wts l = wts (l.take k) + wts (l.drop k) := by
    unfold wts; rw [← List.sum_append, ← List.map_append, List.take_append_drop]
  omega
theorem wts_all (l : List Mail) : wts (l.take l.length) = wts l := by rw [List.take_of_length_le (Nat.le_refl _)]

/-- the cells of a list of records, one after the other -/
def flat (l : List Mail) : List Value := l.flatMap Mail.cells
theorem flat_nil : flat [] = [] := rfl
theorem flat_cons (s : Mail) (l : List Mail) : flat (s :: l) = s.cells ++ flat l := by simp [flat]
theorem flat_snoc (l : List Mail) (s : Mail) : flat (l ++ [s]) = flat l ++ s.cells := by simp [flat]
theorem flat_len (l : List Mail) : (flat l).length = l.length * 4 := by
  induction l with
  | nil => rfl
  | cons s l ih => rw [flat_cons, List.length_append, ih]; simp [Mail.cells]; omega
theorem flat_at : ∀ (l : List Mail) (k : Nat) (s : Mail), l[k]? = some s → ∀ j, j < 4 → (flat l)[k * 4 + j]? = s.cells[j]?
  | [], k, s, h, _, _ => by simp at h
  | r :: l, 0, s, h, j, hj => by
    obtain rfl : r = s := by simpa using h
    rw [flat_cons, List.getElem?_append_left (by simp [Mail.cells]; omega)]; simp
  | r :: l, k + 1, s, h, j, hj => by
    rw [flat_cons, List.getElem?_append_right (by simp [Mail.cells]; omega), show (k + 1) * 4 + j - r.cells.length = k * 4 + j by simp [Mail.cells]; omega]
    exact flat_at l k s (by simpa using h) j hj
end Go.Proofs.YtfjcibkgbalkaaaDoor.PMail
