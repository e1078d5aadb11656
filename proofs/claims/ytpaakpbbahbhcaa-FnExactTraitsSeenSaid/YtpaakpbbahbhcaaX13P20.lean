/- Texts on which the proofs of several laws stand, one behind the other (20 of 20). No condition of their own. -/
import Derived.Test.YtpaakpbbahbhcaaX13P19
import Derived.Test.YtpaakpbbahbhcaaX13P3
import Derived.Test.YtpaakpbbahbhcaaX13P4
import Derived.Test.YtpaakpbbahbhcaaX13P1
import Derived.Test.YtpaakpbbahbhcaaX13P9
/- Chapter 13: censuses: the plain functions of the program and of the reference agree, and the laws answer true. (QL13Traits) No condition but those of each theorem. -/
namespace Go.Proofs.Ytpaakpbbahbhcaa.QL13Traits
set_option linter.unusedVariables false
set_option linter.unusedSimpArgs false
open Go.RowKit
open Go.Proofs.Ytpaakpbbahbhcaa.GoP Go.Proofs.Ytpaakpbbahbhcaa.PlainStamp Go.Proofs.Ytpaakpbbahbhcaa.QBase Go.Proofs.Ytpaakpbbahbhcaa.Q13Traits Go.Proofs.Ytpaakpbbahbhcaa.Q13One Go.Proofs.Ytpaakpbbahbhcaa.QF13 Go.Proofs.Ytpaakpbbahbhcaa.QInt Go.Proofs.Ytpaakpbbahbhcaa.QLoop Go.Proofs.Ytpaakpbbahbhcaa.PSighting Go.Proofs.Ytpaakpbbahbhcaa.QHVSightingE Go.Proofs.Ytpaakpbbahbhcaa.QHVSighting

theorem law_traitsSeen (fuel : Nat) (hfu : 2000 ≤ fuel) (l : List Sighting) (L id : Int) (hF : ∀ s ∈ l, Go.Proofs.Ytpaakpbbahbhcaa.OVSighting.Fits s) (hl : l.length ≤ 9223372036854775807) : GlFnExactTraitsSeen.P fuel l L id = some true := by
  have hf : ∀ s ∈ l, sz13 s := fun s hs => fits_sz (hF s hs)
  obtain ⟨v, hv, hn⟩ := szS l hf hl
  simp only [GlFnExactTraitsSeen.P, hv, Option.bind_some, letK, iteK_if]
  by_cases hb : v < 0
  · rw [if_pos (by simpa using hb)]
  · rw [if_neg (by simpa using hb)]
    have hsm := hn (by omega)
    have hs := traitsRes_len l L id
    obtain ⟨⟨p, q⟩, hr⟩ : ∃ x, x = traitsRes l L id := ⟨_, rfl⟩
    rw [← hr] at hs
    dsimp only at hs
    obtain ⟨v', l', hm, hv2⟩ := markS l hsm
    have hv3 : ¬ v' < 0 := by omega
    have hM := markI p (by omega)
    have hH := heldI p.length (by omega)
    have e1 : ¬ ((p.length : Int) + 1 < 0) := by omega
    simp [toS l hsm, traits_spec l L id hf hl fuel hfu, traits_impl, ← hr, eqI, eqS, hm, hv3, hM, hH, e1, bind2, joinK, appK, iteK_if]
end Go.Proofs.Ytpaakpbbahbhcaa.QL13Traits

