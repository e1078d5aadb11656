/- Chapter 13: a sighting's text: the plain functions of the program and of the reference agree, and the law answers true. (QL13Text) No condition but those of each theorem. -/
import Derived.Test.YtpaakpbbahbhcaaDoorQ13Text
import Derived.Test.YtpaakpbbahbhcaaDoorQ13One
import Derived.Test.YtpaakpbbahbhcaaDoorQ1Rise
import Derived.Test.YtpaakpbbahbhcaaDoorQLoop
import Derived.Test.YtpaakpbbahbhcaaDoorQToI
import Derived.Test.YtpaakpbbahbhcaaDoorPSighting
import Derived.Test.YtpaakpbbahbhcaaDoorQ13TOne
import Derived.Test.YtpaakpbbahbhcaaDoorGlFnExactSightingText
namespace Go.Proofs.YtpaakpbbahbhcaaDoor.QL13Text
set_option linter.unusedVariables false
set_option linter.unusedSimpArgs false
open Go.RowKit
open Go.Proofs.YtpaakpbbahbhcaaDoor.GoP Go.Proofs.YtpaakpbbahbhcaaDoor.PlainStamp Go.Proofs.YtpaakpbbahbhcaaDoor.QBase Go.Proofs.YtpaakpbbahbhcaaDoor.Q13Text Go.Proofs.YtpaakpbbahbhcaaDoor.Q13One Go.Proofs.YtpaakpbbahbhcaaDoor.Q1Rise Go.Proofs.YtpaakpbbahbhcaaDoor.QLoop Go.Proofs.YtpaakpbbahbhcaaDoor.QToI Go.Proofs.YtpaakpbbahbhcaaDoor.PSighting Go.Proofs.YtpaakpbbahbhcaaDoor.Q13TOne

theorem law_text (fuel : Nat) (hf : 9 ≤ fuel) (x : Sighting) (h : sz13 x) : GlFnExactSightingText.P fuel x.id x.year x.town x.traits = some true := by
  obtain ⟨v, hv, hv1, hv2⟩ := szOne x 1048576 h (by omega) (by omega)
  obtain ⟨⟨p, q⟩, hr⟩ : ∃ y, y = siT x := ⟨_, rfl⟩
  simp only [GlFnExactSightingText.P, hv, Option.bind_some, letK, iteK_if]
  by_cases hb : v < 0
  · rw [if_pos (by simpa using hb)]
  · rw [if_neg (by simpa using hb)]
    simp [toOne x (by have := hv2 (by omega); omega), eqOne, unSighting, text_spec fuel hf x h, text_impl x, ← hr, bind2, joinK, appK, iteK_if]
end Go.Proofs.YtpaakpbbahbhcaaDoor.QL13Text
