/- Chapter 8: rates: the plain functions of the program and of the reference agree, and the laws answer true. (QL8For) No condition but those of each theorem. -/
import Derived.Test.YtkinlkmmelkdnaaQ8RateFor
import Derived.Test.YtkinlkmmelkdnaaQLoop
import Derived.Test.YtkinlkmmelkdnaaPRate
import Derived.Test.YtkinlkmmelkdnaaQHRateE
import Derived.Test.YtkinlkmmelkdnaaGlFnExactRateFor
namespace Go.Proofs.Ytkinlkmmelkdnaa.QL8For
set_option linter.unusedVariables false
set_option linter.unusedSimpArgs false
open Go.RowKit
open Go.Proofs.Ytkinlkmmelkdnaa.GoP Go.Proofs.Ytkinlkmmelkdnaa.PlainStamp Go.Proofs.Ytkinlkmmelkdnaa.QBase Go.Proofs.Ytkinlkmmelkdnaa.Q8RateFor Go.Proofs.Ytkinlkmmelkdnaa.QLoop Go.Proofs.Ytkinlkmmelkdnaa.PRate Go.Proofs.Ytkinlkmmelkdnaa.QHRateE

theorem law_for {fuel : Nat} (l : List Rate) (day zone grams : Int) (hl : l.length ≤ 9223372036854775807) (hf : 17 < fuel) : GlFnExactRateFor.P fuel l day zone grams = some true := by
  simp only [GlFnExactRateFor.P, szS l hl, Option.bind_some, letK, iteK_if]
  by_cases hb : l.length ≤ 1048576
  · rw [if_neg (by rw [if_pos hb]; simp; omega)]
    obtain ⟨⟨a, b⟩, hr⟩ : ∃ x, x = forRes l day zone grams := ⟨_, rfl⟩
    simp [toS l hb, for_spec l day zone grams hl hf, for_impl l day zone grams hl, ← hr, bind2, joinK, appK, iteK_if, eqS]
  · rw [if_pos (by rw [if_neg hb]; simp)]
end Go.Proofs.Ytkinlkmmelkdnaa.QL8For
