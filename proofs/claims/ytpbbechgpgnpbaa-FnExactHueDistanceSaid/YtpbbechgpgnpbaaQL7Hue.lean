/- Chapter 7: hues and shades: the plain functions of the program and of the reference agree, and the laws answer true. (QL7Hue) No condition but those of each theorem. -/
import Derived.Test.YtpbbechgpgnpbaaQ7Hue
import Derived.Test.YtpbbechgpgnpbaaQLoop
import Derived.Test.YtpbbechgpgnpbaaGlFnExactHueDistance
namespace Go.Proofs.Ytpbbechgpgnpbaa.QL7Hue
set_option linter.unusedVariables false
set_option linter.unusedSimpArgs false
open Go.RowKit
open Go.Proofs.Ytpbbechgpgnpbaa.GoP Go.Proofs.Ytpbbechgpgnpbaa.PlainStamp Go.Proofs.Ytpbbechgpgnpbaa.QBase Go.Proofs.Ytpbbechgpgnpbaa.Q7Hue Go.Proofs.Ytpbbechgpgnpbaa.QLoop

theorem law_hue (a b : Int) : GlFnExactHueDistance.P a b = some true := by
  obtain ⟨⟨x, y⟩, hr⟩ : ∃ z, z = hueRes a b := ⟨_, rfl⟩
  simp [GlFnExactHueDistance.P, hue_spec, hue_impl, ← hr, bind2, letK, joinK, appK, iteK_if]
end Go.Proofs.Ytpbbechgpgnpbaa.QL7Hue
