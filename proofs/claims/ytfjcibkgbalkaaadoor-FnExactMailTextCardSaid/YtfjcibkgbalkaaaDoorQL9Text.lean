/- Chapter 9: mails and routes: the plain functions of the program and of the reference agree, and the laws answer true. (QL9Text) No condition but those of each theorem. -/
import Derived.Test.YtfjcibkgbalkaaaDoorQ9Text
import Derived.Test.YtfjcibkgbalkaaaDoorQ9Mail
import Derived.Test.YtfjcibkgbalkaaaDoorQLoop
import Derived.Test.YtfjcibkgbalkaaaDoorPMail
import Derived.Test.YtfjcibkgbalkaaaDoorGoRMail
import Derived.Test.YtfjcibkgbalkaaaDoorGlToMail
import Derived.Test.YtfjcibkgbalkaaaDoorGlFnExactMailText
namespace Go.Proofs.YtfjcibkgbalkaaaDoor.QL9Text
set_option linter.unusedVariables false
set_option linter.unusedSimpArgs false
open Go.RowKit
open Go.Proofs.YtfjcibkgbalkaaaDoor.GoP Go.Proofs.YtfjcibkgbalkaaaDoor.PlainStamp Go.Proofs.YtfjcibkgbalkaaaDoor.QBase Go.Proofs.YtfjcibkgbalkaaaDoor.Q9Text Go.Proofs.YtfjcibkgbalkaaaDoor.Q9Mail Go.Proofs.YtfjcibkgbalkaaaDoor.QLoop Go.Proofs.YtfjcibkgbalkaaaDoor.PMail

theorem law_text (x : Mail) : GlFnExactMailText.P x = some true := by
  have ht : GlToMail.P x = some x := by cases x; rfl
  obtain ⟨hi, p, q, hs⟩ := text_same x
  rw [hs] at hi
  obtain ⟨a, b, c, d⟩ := x
  simp [GlFnExactMailText.P, unMail, ht, hs, hi, bind2, letK, joinK, appK, iteK_if]
end Go.Proofs.YtfjcibkgbalkaaaDoor.QL9Text
