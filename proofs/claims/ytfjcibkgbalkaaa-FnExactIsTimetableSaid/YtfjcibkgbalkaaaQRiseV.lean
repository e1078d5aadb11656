/- Chapter 9: mails and routes: the plain functions of the program and of the reference agree, and the laws answer true. (QRiseV) No condition but those of each theorem. -/
import Derived.Test.YtfjcibkgbalkaaaQOrd
import Derived.Test.YtfjcibkgbalkaaaQLoop
namespace Go.Proofs.Ytfjcibkgbalkaaa.QRiseV
set_option linter.unusedVariables false
set_option linter.unusedSimpArgs false
open Go.RowKit
open Go.Proofs.Ytfjcibkgbalkaaa.GoP Go.Proofs.Ytfjcibkgbalkaaa.PlainStamp Go.Proofs.Ytfjcibkgbalkaaa.QBase Go.Proofs.Ytfjcibkgbalkaaa.QOrd Go.Proofs.Ytfjcibkgbalkaaa.QLoop

/-- as rise_loop, with what is known of the one ahead -/
theorem rise_loopV {α : Type} {ok : α → Bool} {lt : α → α → Bool} {l : List α} {R : Type} {no : R} {f : Nat → Unit → (Unit → Option R) → (Unit → Option R) → Option R} {fin : Unit → Option R}
    (step : ∀ k nx s, l[k]? = some s → (ok s = false → f k () nx fin = some no) ∧ (ok s = true → (k = 0 → f k () nx fin = nx ()) ∧ (0 < k → ∀ r, l[k-1]? = some r → ok r = true → (lt r s = true → f k () nx fin = nx ()) ∧ (lt r s = false → f k () nx fin = some no)))) :
    cntK f l.length 0 () fin = if riseTo ok lt l l.length then fin () else some no := by
  have key : ∀ m k, k + m = l.length → riseTo ok lt l k = true → cntK f m k () fin = if riseTo ok lt l l.length then fin () else some no := by
    intro m
    induction m with
    | zero => intro k hk hu; obtain rfl : k = l.length := by omega
              rw [hu]; rfl
    | succ m ih =>
      intro k hk hu
      have hlt : k < l.length := by omega
      obtain ⟨s, hs, _⟩ := at_lt hlt
      obtain ⟨h1, h2⟩ := step k (fun s' => cntK f m (k + 1) s' fin) s hs
      show f k () _ fin = _
      cases hok : ok s with
      | false => rw [h1 hok, riseTo_not (riseAt_bad hs hok) hlt]; rfl
      | true =>
        obtain ⟨h3, h4⟩ := h2 hok
        by_cases hk0 : k = 0
        · rw [h3 hk0]
          subst hk0
          exact ih 1 (by omega) (by rw [riseTo_succ, hu, riseAt_first hs hok]; rfl)
        · obtain ⟨r, hr, _⟩ := at_lt (l := l) (k := k - 1) (by omega)
          have hokr : ok r = true := by
            have := riseTo_at hu (k := k - 1) (by omega)
            unfold riseAt at this; rw [hr] at this
            simp only [Bool.and_eq_true] at this; exact this.1
          obtain ⟨h5, h6⟩ := h4 (by omega) r hr hokr
          cases hl : lt r s with
          | true =>
            rw [h5 hl]
            exact ih (k + 1) (by omega) (by rw [riseTo_succ, hu, riseAt_next hs hr (by omega) hok, hl]; rfl)
          | false => rw [h6 hl, riseTo_not (by rw [riseAt_next hs hr (by omega) hok, hl]) hlt]; rfl
  exact key l.length 0 (by omega) (riseTo_zero ok lt l)
end Go.Proofs.Ytfjcibkgbalkaaa.QRiseV
