/- Chapter 8: rates: the plain functions of the program and of the reference agree, and the laws answer true. (QL8Are) No condition but those of each theorem. -/
import Derived.Test.YtkinlkmmelkdnaaQ8List
import Derived.Test.YtkinlkmmelkdnaaQLoop
import Derived.Test.YtkinlkmmelkdnaaPRate
import Derived.Test.YtkinlkmmelkdnaaQHRateE
import Derived.Test.YtkinlkmmelkdnaaGsAreRates
import Derived.Test.YtkinlkmmelkdnaaGlFnExactAreRates
namespace Go.Proofs.Ytkinlkmmelkdnaa.QL8Are
set_option linter.unusedVariables false
set_option linter.unusedSimpArgs false
open Go.RowKit
open Go.Proofs.Ytkinlkmmelkdnaa.GoP Go.Proofs.Ytkinlkmmelkdnaa.PlainStamp Go.Proofs.Ytkinlkmmelkdnaa.QBase Go.Proofs.Ytkinlkmmelkdnaa.Q8List Go.Proofs.Ytkinlkmmelkdnaa.QLoop Go.Proofs.Ytkinlkmmelkdnaa.PRate Go.Proofs.Ytkinlkmmelkdnaa.QHRateE

theorem law_areRates {fuel : Nat} (l : List Rate) (hl : l.length ≤ 9223372036854775807) (hf : 17 < fuel) : GlFnExactAreRates.P fuel l = some true := by
  simp only [GlFnExactAreRates.P, szS l hl, Option.bind_some, letK, iteK_if]
  by_cases hb : l.length ≤ 1048576
  · rw [if_neg (by rw [if_pos hb]; simp; omega)]
    simp [toS l hb, GsAreRates.P, l8Good_eq l hl hf, areRates_eq l hl, eqS]
  · rw [if_pos (by rw [if_neg hb]; simp)]
end Go.Proofs.Ytkinlkmmelkdnaa.QL8Are
