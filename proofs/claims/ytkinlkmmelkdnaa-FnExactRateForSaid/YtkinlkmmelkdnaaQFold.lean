/- Chapter 8: rates: the plain functions of the program and of the reference agree, and the laws answer true. (QFold) No condition but those of each theorem. -/
import Derived.Test.YtkinlkmmelkdnaaQLoop
namespace Go.Proofs.Ytkinlkmmelkdnaa.QFold
set_option linter.unusedVariables false
set_option linter.unusedSimpArgs false
open Go.RowKit
open Go.Proofs.Ytkinlkmmelkdnaa.GoP Go.Proofs.Ytkinlkmmelkdnaa.PlainStamp Go.Proofs.Ytkinlkmmelkdnaa.QBase Go.Proofs.Ytkinlkmmelkdnaa.QLoop

theorem fold_loop {α σ R : Type} {l : List α} {g : σ → α → σ} {f : Nat → σ → (σ → Option R) → (σ → Option R) → Option R} {fin : σ → Option R} (s0 : σ)
    (step : ∀ k nx x s, l[k]? = some x → f k s nx fin = nx (g s x)) : cntK f l.length 0 s0 fin = fin (l.foldl g s0) := by
  have key : ∀ m k s, k + m = l.length → cntK f m k s fin = fin ((l.drop k).foldl g s) := by
    intro m
    induction m with
    | zero => intro k s hk; rw [List.drop_of_length_le (by omega)]; rfl
    | succ m ih =>
      intro k s hk
      obtain ⟨x, hx, _⟩ := at_lt (l := l) (k := k) (by omega)
      obtain ⟨hlt, e⟩ := List.getElem?_eq_some_iff.1 hx
      show f k s _ fin = _
      rw [step k _ x s hx, ih (k + 1) _ (by omega), List.drop_eq_getElem_cons hlt, e]; rfl
  exact key l.length 0 s0 (by omega)
theorem find_val {α R : Type} {l : List α} {p : α → Bool} {f : Nat → Unit → (Unit → Option R) → (Unit → Option R) → Option R} {fin : Unit → Option R} {yes : α → Option R}
    (step : ∀ k nx x, l[k]? = some x → f k () nx fin = if p x = true then yes x else nx ()) : cntK f l.length 0 () fin = match l.find? p with | some x => yes x | none => fin () := by
  have key : ∀ m k, k + m = l.length → cntK f m k () fin = match (l.drop k).find? p with | some x => yes x | none => fin () := by
    intro m
    induction m with
    | zero => intro k hk; rw [List.drop_of_length_le (by omega)]; rfl
    | succ m ih =>
      intro k hk
      obtain ⟨x, hx, _⟩ := at_lt (l := l) (k := k) (by omega)
      obtain ⟨hlt, e⟩ := List.getElem?_eq_some_iff.1 hx
      show f k () _ fin = _
      rw [step k _ x hx, List.drop_eq_getElem_cons hlt, e, List.find?_cons]
      cases hp : p x with
      | true => simp
      | false => simp only [Bool.false_eq_true, if_false]; exact ih (k + 1) (by omega)
  exact key l.length 0 (by omega)
theorem find_congr {α : Type} {l : List α} {p q : α → Bool} (h : ∀ x ∈ l, p x = q x) : l.find? p = l.find? q := by
  induction l with
  | nil => rfl
  | cons x l ih => rw [List.find?_cons, List.find?_cons, h x (by simp), ih (fun y hy => h y (by simp [hy]))]
end Go.Proofs.Ytkinlkmmelkdnaa.QFold
