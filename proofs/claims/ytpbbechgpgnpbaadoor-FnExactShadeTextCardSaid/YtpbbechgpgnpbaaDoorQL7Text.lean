/- Chapter 7: a shade's text: the plain functions of the program and of the reference agree, and the law answers true. (QL7Text) No condition but those of each theorem. -/
import Derived.Test.YtpbbechgpgnpbaaDoorQ7Text
import Derived.Test.YtpbbechgpgnpbaaDoorQ7Shade
import Derived.Test.YtpbbechgpgnpbaaDoorQLoop
import Derived.Test.YtpbbechgpgnpbaaDoorPShade
import Derived.Test.YtpbbechgpgnpbaaDoorQ7One
import Derived.Test.YtpbbechgpgnpbaaDoorGlFnExactShadeText
namespace Go.Proofs.YtpbbechgpgnpbaaDoor.QL7Text
set_option linter.unusedVariables false
set_option linter.unusedSimpArgs false
open Go.RowKit
open Go.Proofs.YtpbbechgpgnpbaaDoor.GoP Go.Proofs.YtpbbechgpgnpbaaDoor.PlainStamp Go.Proofs.YtpbbechgpgnpbaaDoor.QBase Go.Proofs.YtpbbechgpgnpbaaDoor.Q7Text Go.Proofs.YtpbbechgpgnpbaaDoor.Q7Shade Go.Proofs.YtpbbechgpgnpbaaDoor.QLoop Go.Proofs.YtpbbechgpgnpbaaDoor.PShade Go.Proofs.YtpbbechgpgnpbaaDoor.Q7One

theorem law_text (x : Shade) (h : x.fits) : GlFnExactShadeText.P x = some true := by
  obtain ⟨v, hv, _⟩ := szOne x 1048576 h (by omega) (by omega)
  obtain ⟨hi, p, q, hs⟩ := text_same x h
  rw [hs] at hi
  obtain ⟨a, b, c, d, e⟩ := x
  simp only [GlFnExactShadeText.P, unShade, hv, Option.bind_some, letK, iteK_if]
  by_cases hb : v < 0
  · rw [if_pos (by simpa using hb)]
  · rw [if_neg (by simpa using hb)]
    simp [toOne, unShade, hs, hi, bind2, joinK, appK, iteK_if]
end Go.Proofs.YtpbbechgpgnpbaaDoor.QL7Text
