/- Chapter 7: hues and shades: the plain functions of the program and of the reference agree, and the laws answer true. (QL7Are) No condition but those of each theorem. -/
import Derived.Test.YtpbbechgpgnpbaaQ7List
import Derived.Test.YtpbbechgpgnpbaaQLoop
import Derived.Test.YtpbbechgpgnpbaaPShade
import Derived.Test.YtpbbechgpgnpbaaQHShadeE
import Derived.Test.YtpbbechgpgnpbaaGsAreShades
import Derived.Test.YtpbbechgpgnpbaaGlFnExactAreShades
namespace Go.Proofs.Ytpbbechgpgnpbaa.QL7Are
set_option linter.unusedVariables false
set_option linter.unusedSimpArgs false
open Go.RowKit
open Go.Proofs.Ytpbbechgpgnpbaa.GoP Go.Proofs.Ytpbbechgpgnpbaa.PlainStamp Go.Proofs.Ytpbbechgpgnpbaa.QBase Go.Proofs.Ytpbbechgpgnpbaa.Q7List Go.Proofs.Ytpbbechgpgnpbaa.QLoop Go.Proofs.Ytpbbechgpgnpbaa.PShade Go.Proofs.Ytpbbechgpgnpbaa.QHShadeE

theorem law_areShades (l : List Shade) (hf : ∀ s ∈ l, s.fits) (hl : l.length ≤ 9223372036854775807) : GlFnExactAreShades.P l = some true := by
  obtain ⟨v, hv, hn⟩ := szS l hf hl
  simp only [GlFnExactAreShades.P, hv, Option.bind_some, letK, iteK_if]
  by_cases hb : v < 0
  · rw [if_pos (by simp; omega)]
  · rw [if_neg (by simp; omega)]
    simp [toS l (hn (by omega)), GsAreShades.P, l7Good_eq l hf hl, areShades_eq l hl, eqS]
end Go.Proofs.Ytpbbechgpgnpbaa.QL7Are
