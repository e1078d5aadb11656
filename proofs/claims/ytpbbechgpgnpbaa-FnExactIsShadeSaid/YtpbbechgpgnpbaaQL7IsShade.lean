/- Chapter 7: hues and shades: the plain functions of the program and of the reference agree, and the laws answer true. (QL7IsShade) No condition but those of each theorem. -/
import Derived.Test.YtpbbechgpgnpbaaQ7Shade
import Derived.Test.YtpbbechgpgnpbaaQLoop
import Derived.Test.YtpbbechgpgnpbaaPShade
import Derived.Test.YtpbbechgpgnpbaaQHShadeE
import Derived.Test.YtpbbechgpgnpbaaGsIsShade
import Derived.Test.YtpbbechgpgnpbaaGlFnExactIsShade
namespace Go.Proofs.Ytpbbechgpgnpbaa.QL7IsShade
set_option linter.unusedVariables false
set_option linter.unusedSimpArgs false
open Go.RowKit
open Go.Proofs.Ytpbbechgpgnpbaa.GoP Go.Proofs.Ytpbbechgpgnpbaa.PlainStamp Go.Proofs.Ytpbbechgpgnpbaa.QBase Go.Proofs.Ytpbbechgpgnpbaa.Q7Shade Go.Proofs.Ytpbbechgpgnpbaa.QLoop Go.Proofs.Ytpbbechgpgnpbaa.PShade Go.Proofs.Ytpbbechgpgnpbaa.QHShadeE

theorem specIsShade_eq (x : Shade) (h : x.fits) : GsIsShade.P x = some (okSh x) := by
  obtain ⟨a, b, c, d, e⟩ := x
  simp only [GsIsShade.P, unShade, l7One_eq _ h, Option.bind_some]
theorem law_isShade (x : Shade) (h : x.fits) : GlFnExactIsShade.P x = some true := by
  obtain ⟨v, hv, _⟩ := szOne x 1048576 h (by omega) (by omega)
  have hs := specIsShade_eq x h
  obtain ⟨a, b, c, d, e⟩ := x
  simp only [GlFnExactIsShade.P, unShade, hv, Option.bind_some, letK, iteK_if]
  by_cases hb : v < 0
  · rw [if_pos (by simpa using hb)]
  · rw [if_neg (by simpa using hb)]
    simp [toOne, unShade, hs, isShade_eq]
end Go.Proofs.Ytpbbechgpgnpbaa.QL7IsShade
