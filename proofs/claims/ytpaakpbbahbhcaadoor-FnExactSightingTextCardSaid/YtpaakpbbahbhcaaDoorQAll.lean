/- Loops that test each place, and loops without a count. No condition. -/
import Derived.Test.YtpaakpbbahbhcaaDoorQLoop
namespace Go.Proofs.YtpaakpbbahbhcaaDoor.QAll
set_option linter.unusedVariables false
set_option linter.unusedSimpArgs false
open Go.RowKit
open Go.Proofs.YtpaakpbbahbhcaaDoor.GoP Go.Proofs.YtpaakpbbahbhcaaDoor.QBase Go.Proofs.YtpaakpbbahbhcaaDoor.QLoop

/-- each number below n is good -/
def allN (n : Nat) (p : Nat → Bool) : Bool := (List.range n).all p
theorem allN_iff {n : Nat} {p : Nat → Bool} : allN n p = true ↔ ∀ i, i < n → p i = true := by unfold allN; simp
theorem allN_no {n k : Nat} {p : Nat → Bool} (hk : k < n) (h : p k = false) : allN n p = false := by
  rw [Bool.eq_false_iff]; intro ha; rw [allN_iff.1 ha k hk] at h; exact absurd h (by simp)
theorem allN_eq {n m : Nat} {p q : Nat → Bool} (h : (∀ i, i < n → p i = true) ↔ (∀ i, i < m → q i = true)) : allN n p = allN m q := by
  rw [Bool.eq_iff_iff, allN_iff, allN_iff]; exact h
theorem all_cnt {ρ : Type} {n : Nat} {p : Nat → Bool} {no : ρ} {f : Nat → Unit → (Unit → Option ρ) → (Unit → Option ρ) → Option ρ} {fin : Unit → Option ρ}
    (step : ∀ k nx, k < n → (p k = false → f k () nx fin = some no) ∧ (p k = true → f k () nx fin = nx ())) : cntK f n 0 () fin = if allN n p = true then fin () else some no := by
  have key : ∀ m k, k + m = n → (∀ i, i < k → p i = true) → cntK f m k () fin = if allN n p = true then fin () else some no := by
    intro m
    induction m with
    | zero => intro k hk hu; obtain rfl : k = n := by omega
              rw [allN_iff.2 hu]; rfl
    | succ m ih =>
      intro k hk hu
      obtain ⟨h1, h2⟩ := step k (fun s' => cntK f m (k + 1) s' fin) (by omega)
      show f k () _ fin = _
      cases hp : p k with
      | false => rw [h1 hp, allN_no (by omega) hp]; rfl
      | true =>
        rw [h2 hp]
        refine ih (k + 1) (by omega) (fun i hi => ?_)
        by_cases he : i = k
        · rw [he]; exact hp
        · exact hu i (by omega)
  exact key n 0 (by omega) (fun i hi => by omega)
theorem lp_ex {σ ρ : Type} {f : σ → (σ → Option ρ) → (σ → Option ρ) → Option ρ} {fin : σ → Option ρ} {Q : ρ → Prop} {n : Nat} (I : Nat → σ → Prop)
    (step : ∀ k s nx, k < n → I k s → (∀ s', I (k + 1) s' → ∃ r, nx s' = some r ∧ Q r) → ∃ r, f s nx fin = some r ∧ Q r) (done : ∀ s nx, I n s → ∃ r, f s nx fin = some r ∧ Q r) :
    ∀ fuel k s, k ≤ n → n - k < fuel → I k s → ∃ r, loopK f fuel s fin = some r ∧ Q r := by
  intro fuel
  induction fuel with
  | zero => intro k s hk hf; omega
  | succ m ih =>
    intro k s hk hf hI
    show ∃ r, f s _ fin = some r ∧ Q r
    by_cases he : k = n
    · subst he; exact done s _ hI
    · exact step k s _ (by omega) hI (fun s' h' => ih (k + 1) s' (by omega) (by omega) h')
theorem all_lp {ρ : Type} {n : Nat} {p : Nat → Bool} {no : ρ} {f : Int → (Int → Option ρ) → (Int → Option ρ) → Option ρ} {fin : Int → Option ρ}
    (step : ∀ (k : Nat) nx, k < n → (p k = false → f (k : Int) nx fin = some no) ∧ (p k = true → f (k : Int) nx fin = nx ((k + 1 : Nat) : Int))) (stop : ∀ nx, f (n : Int) nx fin = fin (n : Int))
    (fuel : Nat) (hf : n < fuel) : loopK f fuel 0 fin = if allN n p = true then fin (n : Int) else some no := by
  have key : ∀ fuel k, k ≤ n → n - k < fuel → (∀ i, i < k → p i = true) → loopK f fuel (k : Int) fin = if allN n p = true then fin (n : Int) else some no := by
    intro fuel
    induction fuel with
    | zero => intro k hk hf; omega
    | succ m ih =>
      intro k hk hf hu
      show f (k : Int) _ fin = _
      by_cases he : k = n
      · subst he; rw [stop, allN_iff.2 hu]; rfl
      · obtain ⟨h1, h2⟩ := step k (fun s' => loopK f m s' fin) (by omega)
        cases hp : p k with
        | false => rw [h1 hp, allN_no (by omega) hp]; rfl
        | true =>
          rw [h2 hp]
          refine ih (k + 1) (by omega) (by omega) (fun i hi => ?_)
          by_cases he : i = k
          · rw [he]; exact hp
          · exact hu i (by omega)
  exact key fuel 0 (by omega) (by omega) (fun i hi => by omega)
theorem next_i {k : Nat} (h : k ≤ 9223372036854775806) : IntKind.i64.wrap ((k : Int) + 1) = ((k + 1 : Nat) : Int) := by rw [wrap_in (by omega) (by omega)]; omega
end Go.Proofs.YtpaakpbbahbhcaaDoor.QAll
