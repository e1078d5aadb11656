/- Chapter 8: rates: the plain functions of the program and of the reference agree, and the laws answer true. (QL8IsRate) No condition but those of each theorem. -/
import Derived.Test.YtkinlkmmelkdnaaQ8Rate
import Derived.Test.YtkinlkmmelkdnaaQLoop
import Derived.Test.YtkinlkmmelkdnaaPRate
import Derived.Test.YtkinlkmmelkdnaaQHRateE
import Derived.Test.YtkinlkmmelkdnaaGoRRate
import Derived.Test.YtkinlkmmelkdnaaGsIsRate
import Derived.Test.YtkinlkmmelkdnaaGlFnExactIsRate
namespace Go.Proofs.Ytkinlkmmelkdnaa.QL8IsRate
set_option linter.unusedVariables false
set_option linter.unusedSimpArgs false
open Go.RowKit
open Go.Proofs.Ytkinlkmmelkdnaa.GoP Go.Proofs.Ytkinlkmmelkdnaa.PlainStamp Go.Proofs.Ytkinlkmmelkdnaa.QBase Go.Proofs.Ytkinlkmmelkdnaa.Q8Rate Go.Proofs.Ytkinlkmmelkdnaa.QLoop Go.Proofs.Ytkinlkmmelkdnaa.PRate Go.Proofs.Ytkinlkmmelkdnaa.QHRateE

theorem law_isRate (x : Rate) : GlFnExactIsRate.P x = some true := by
  have h1 := isRate_eq x
  have h2 : GsIsRate.P x = some (okR x) := by
    have := l8One_eq x
    obtain ⟨a, b, c, d, e⟩ := x
    simp only [GsIsRate.P, unRate, this, Option.bind_some]
  have h3 := toOne x
  obtain ⟨a, b, c, d, e⟩ := x
  simp [GlFnExactIsRate.P, unRate, h3, h2, h1, letK, iteK_if]
end Go.Proofs.Ytkinlkmmelkdnaa.QL8IsRate
