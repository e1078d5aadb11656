/- Chapter 7: hues and shades: the plain functions of the program and of the reference agree, and the laws answer true. (QL7Blend) No condition but those of each theorem. -/
import Derived.Test.YtpbbechgpgnpbaaQ7Blend
import Derived.Test.YtpbbechgpgnpbaaQLoop
import Derived.Test.YtpbbechgpgnpbaaGlFnExactBlendHue
namespace Go.Proofs.Ytpbbechgpgnpbaa.QL7Blend
set_option linter.unusedVariables false
set_option linter.unusedSimpArgs false
open Go.RowKit
open Go.Proofs.Ytpbbechgpgnpbaa.GoP Go.Proofs.Ytpbbechgpgnpbaa.PlainStamp Go.Proofs.Ytpbbechgpgnpbaa.QBase Go.Proofs.Ytpbbechgpgnpbaa.Q7Blend Go.Proofs.Ytpbbechgpgnpbaa.QLoop

theorem law_blend (a b : Int) : GlFnExactBlendHue.P a b = some true := by
  obtain ⟨⟨x, y⟩, hr⟩ : ∃ z, z = blendRes a b := ⟨_, rfl⟩
  simp [GlFnExactBlendHue.P, blend_spec, blend_impl, ← hr, bind2, letK, joinK, appK, iteK_if]
end Go.Proofs.Ytpbbechgpgnpbaa.QL7Blend
