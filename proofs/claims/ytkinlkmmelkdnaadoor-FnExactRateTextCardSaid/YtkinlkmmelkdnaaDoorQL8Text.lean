/- Chapter 8: a rate's text: the plain functions of the program and of the reference agree, and the law answers true. (QL8Text) No condition but those of each theorem. -/
import Derived.Test.YtkinlkmmelkdnaaDoorQ8Text
import Derived.Test.YtkinlkmmelkdnaaDoorQ8Rate
import Derived.Test.YtkinlkmmelkdnaaDoorQLoop
import Derived.Test.YtkinlkmmelkdnaaDoorPRate
import Derived.Test.YtkinlkmmelkdnaaDoorGoRRate
import Derived.Test.YtkinlkmmelkdnaaDoorGlToRate
import Derived.Test.YtkinlkmmelkdnaaDoorGlFnExactRateText
namespace Go.Proofs.YtkinlkmmelkdnaaDoor.QL8Text
set_option linter.unusedVariables false
set_option linter.unusedSimpArgs false
open Go.RowKit
open Go.Proofs.YtkinlkmmelkdnaaDoor.GoP Go.Proofs.YtkinlkmmelkdnaaDoor.PlainStamp Go.Proofs.YtkinlkmmelkdnaaDoor.QBase Go.Proofs.YtkinlkmmelkdnaaDoor.Q8Text Go.Proofs.YtkinlkmmelkdnaaDoor.Q8Rate Go.Proofs.YtkinlkmmelkdnaaDoor.QLoop Go.Proofs.YtkinlkmmelkdnaaDoor.PRate

theorem law_text (x : Rate) : GlFnExactRateText.P x = some true := by
  have ht : GlToRate.P x = some x := by cases x; rfl
  obtain ⟨hi, p, q, hs⟩ := text_same x
  rw [hs] at hi
  obtain ⟨a, b, c, d, e⟩ := x
  simp [GlFnExactRateText.P, unRate, ht, hs, hi, bind2, letK, joinK, appK, iteK_if]
end Go.Proofs.YtkinlkmmelkdnaaDoor.QL8Text
