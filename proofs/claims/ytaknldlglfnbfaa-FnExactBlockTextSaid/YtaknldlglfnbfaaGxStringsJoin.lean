/- strings.Join as a plain function; the contract of the program's. Condition: the slice reads as strings. -/
import Derived.Test.YtaknldlglfnbfaaGoM
import Derived.Test.YtaknldlglfnbfaaShelf
namespace Go.Proofs.Ytaknldlglfnbfaa.GxStringsJoin
set_option linter.unusedVariables false
open Go.RowKit
open Go.Proofs.Ytaknldlglfnbfaa.Rowed Go.Proofs.Ytaknldlglfnbfaa.Turn Go.Proofs.Ytaknldlglfnbfaa.GoM
def P (l : List ByteArray) (sep : ByteArray) : Option ByteArray :=
  if l.length ≤ 140737488355328 ∧ (Lib.join (l.map (·.data.toList)) sep.data.toList).length ≤ 140737488355328 then some ⟨(Lib.join (l.map (·.data.toList)) sep.data.toList).toArray⟩ else none
theorem C (l : List ByteArray) (sep : ByteArray) (A : Option Addr) (c : Nat) (w : World) (M : Hid (Cells w 1 A l.length (l.map Value.string))) (N : Hid (l.length ≤ 9223372036854775807)) (Q : Hid (Room A l.length c)) {r : ByteArray} (H : Hid (P l sep = some r)) :
    Calls Try.prog 105 #[.slice A l.length c, .string sep] w (Gives (.string r) w) := by
  have h : P l sep = some r := H
  unfold P at h
  by_cases hk : l.length ≤ 140737488355328 ∧ (Lib.join (l.map (·.data.toList)) sep.data.toList).length ≤ 140737488355328
  · rw [if_pos hk] at h
    obtain rfl := Option.some.inj h
    by_cases h0 : l.length = 0
    · obtain rfl : l = [] := List.eq_nil_of_length_eq_zero h0
      refine (Try.strings_Join_none A c sep w).mono ?_
      rintro e w' ⟨rfl, rfl⟩
      exact ⟨rfl, Below.refl _ _⟩
    · obtain ⟨b, o, x, rfl, _, hx⟩ := strs_at M.out (k := 0) (by omega)
      refine (Try.strings_Join b o c l sep w (fun j x hj => ?_) (cell_lt hx) hk.1 Q.out.1 hk.2).mono ?_
      · obtain ⟨b', o', x', e, hj', hx'⟩ := strs_at M.out (k := j) (List.getElem?_eq_some_iff.1 hj).1
        simp only [Option.some.injEq, Addr.mk.injEq] at e
        obtain ⟨rfl, rfl, _⟩ := e
        obtain rfl := Option.some.inj (hj.symm.trans hj')
        exact hx'
      · rintro e w' ⟨rfl, hb⟩
        exact ⟨rfl, hb⟩
  · rw [if_neg hk] at h; simp at h
end Go.Proofs.Ytaknldlglfnbfaa.GxStringsJoin
