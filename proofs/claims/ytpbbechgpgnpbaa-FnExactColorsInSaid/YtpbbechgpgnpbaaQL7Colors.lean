/- Chapter 7: hues and shades: the plain functions of the program and of the reference agree, and the laws answer true. (QL7Colors) No condition but those of each theorem. -/
import Derived.Test.YtpbbechgpgnpbaaQ7Shade
import Derived.Test.YtpbbechgpgnpbaaQLoop
import Derived.Test.YtpbbechgpgnpbaaPShade
import Derived.Test.YtpbbechgpgnpbaaQHShadeE
import Derived.Test.YtpbbechgpgnpbaaGiColorsIn
import Derived.Test.YtpbbechgpgnpbaaGsColorsIn
import Derived.Test.YtpbbechgpgnpbaaGlFnExactColorsIn
namespace Go.Proofs.Ytpbbechgpgnpbaa.QL7Colors
set_option linter.unusedVariables false
set_option linter.unusedSimpArgs false
open Go.RowKit
open Go.Proofs.Ytpbbechgpgnpbaa.GoP Go.Proofs.Ytpbbechgpgnpbaa.PlainStamp Go.Proofs.Ytpbbechgpgnpbaa.QBase Go.Proofs.Ytpbbechgpgnpbaa.Q7Shade Go.Proofs.Ytpbbechgpgnpbaa.QLoop Go.Proofs.Ytpbbechgpgnpbaa.PShade Go.Proofs.Ytpbbechgpgnpbaa.QHShadeE

theorem colors_same (x : Shade) (h : x.fits) : ∃ a b, GiColorsIn.P x = some (a, b) ∧ GsColorsIn.P x = some (a, b) := by
  have h3 := l7One_eq x h
  have h4 := isShade_eq x
  obtain ⟨a, b, c, d, e⟩ := x
  simp only [GiColorsIn.P, GsColorsIn.P, unShade, h3, h4, Option.bind_some, letK, iteK_if]
  cases okSh ⟨a, b, c, d, e⟩
  · exact ⟨0, false, by simp⟩
  · exact ⟨_, true, by simp; rfl, by simp⟩
theorem law_colors (x : Shade) (h : x.fits) : GlFnExactColorsIn.P x = some true := by
  obtain ⟨v, hv, _⟩ := szOne x 1048576 h (by omega) (by omega)
  obtain ⟨p, q, hi, hs⟩ := colors_same x h
  obtain ⟨a, b, c, d, e⟩ := x
  simp only [GlFnExactColorsIn.P, unShade, hv, Option.bind_some, letK, iteK_if]
  by_cases hb : v < 0
  · rw [if_pos (by simpa using hb)]
  · rw [if_neg (by simpa using hb)]
    simp [toOne, unShade, hs, hi, bind2, joinK, appK, iteK_if]
end Go.Proofs.Ytpbbechgpgnpbaa.QL7Colors
