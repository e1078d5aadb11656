/- Plain words on the record Shade: its fields, its cells, a list of it as cells one after the other. No condition. -/
import Derived.Test.YtpbbechgpgnpbaaDoorRow
namespace Go.Proofs.YtpbbechgpgnpbaaDoor.PShade
set_option linter.unusedVariables false
set_option maxRecDepth 100000

structure Shade where
  name : ByteArray
  hue : Int
  width : Int
  dark : Int
  light : Int
def Shade.cells (s : Shade) : List Value := [.string s.name, .int .i64 s.hue, .int .i64 s.width, .int .i64 s.dark, .int .i64 s.light]
def Shade.val (s : Shade) : Value := .agg #[.string s.name, .int .i64 s.hue, .int .i64 s.width, .int .i64 s.dark, .int .i64 s.light]
/-- each field fits -/
def Shade.fits (s : Shade) : Prop := s.name.size ≤ maxLen ∧ (Lit.int .i64 s.hue).wf = true ∧ (Lit.int .i64 s.width).wf = true ∧ (Lit.int .i64 s.dark).wf = true ∧ (Lit.int .i64 s.light).wf = true
def zero : Shade := ⟨ByteArray.empty, 0, 0, 0, 0⟩
/-- the letters of its texts -/
def Shade.wt (s : Shade) : Nat := s.name.size
def wts (l : List Shade) : Nat := (l.map Shade.wt).sum
theorem wts_snoc (l : List Shade) (s : Shade) : wts (l ++ [s]) = wts l + s.wt := by unfold wts; simp [List.sum_append]
theorem wts_succ {l : List Shade} {k : Nat} {s : Shade} (h : l[k]? = some s) : wts (l.take (k + 1)) = wts (l.take k) + s.wt := by
  have hk := List.getElem?_eq_some_iff.1 h
  rw [List.take_succ_eq_append_getElem hk.1, hk.2, wts_snoc]
theorem wts_take (l : List Shade) (k : Nat) : wts (l.take k) ≤ wts l := by
  have : wts l = wts (l.take k) + wts (l.drop k) := by
    unfold wts; rw [← List.sum_append, ← List.map_append, List.take_append_drop]
  omega
theorem wts_all (l : List Shade) : wts (l.take l.length) = wts l := by rw [List.take_of_length_le (Nat.le_refl _)]

/-- the cells of a list of records, one after the other -/
def flat (l : List Shade) : List Value := l.flatMap Shade.cells
theorem flat_nil : flat [] = [] := rfl
theorem flat_cons (s : Shade) (l : List Shade) : flat (s :: l) = s.cells ++ flat l := by simp [flat]
theorem flat_snoc (l : List Shade) (s : Shade) : flat (l ++ [s]) = flat l ++ s.cells := by simp [flat]
theorem flat_len (l : List Shade) : (flat l).length = l.length * 5 := by
  induction l with
  | nil => rfl
  | cons s l ih => rw [flat_cons, List.length_append, ih]; simp [Shade.cells]; omega
theorem flat_at : ∀ (l : List Shade) (k : Nat) (s : Shade), l[k]? = some s → ∀ j, j < 5 → (flat l)[k * 5 + j]? = s.cells[j]?
  | [], k, s, h, _, _ => by simp at h
  | r :: l, 0, s, h, j, hj => by
    obtain rfl : r = s := by simpa using h
    rw [flat_cons, List.getElem?_append_left (by simp [Shade.cells]; omega)]; simp
  | r :: l, k + 1, s, h, j, hj => by
    rw [flat_cons, List.getElem?_append_right (by simp [Shade.cells]; omega), show (k + 1) * 5 + j - r.cells.length = k * 5 + j by simp [Shade.cells]; omega]
    exact flat_at l k s (by simpa using h) j hj
end Go.Proofs.YtpbbechgpgnpbaaDoor.PShade
