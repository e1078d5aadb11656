/- Chapter 8: rates: the plain functions of the program and of the reference agree, and the laws answer true. (Q8RateFor) No condition but those of each theorem. -/
import Derived.Test.YtkinlkmmelkdnaaQ8For
import Derived.Test.YtkinlkmmelkdnaaQ8List
import Derived.Test.YtkinlkmmelkdnaaQ8Rate
import Derived.Test.YtkinlkmmelkdnaaQLoop
import Derived.Test.YtkinlkmmelkdnaaPRate
import Derived.Test.YtkinlkmmelkdnaaGiRateFor
import Derived.Test.YtkinlkmmelkdnaaGsRateFor
namespace Go.Proofs.Ytkinlkmmelkdnaa.Q8RateFor
set_option linter.unusedVariables false
set_option linter.unusedSimpArgs false
open Go.RowKit
open Go.Proofs.Ytkinlkmmelkdnaa.GoP Go.Proofs.Ytkinlkmmelkdnaa.PlainStamp Go.Proofs.Ytkinlkmmelkdnaa.QBase Go.Proofs.Ytkinlkmmelkdnaa.Q8For Go.Proofs.Ytkinlkmmelkdnaa.Q8List Go.Proofs.Ytkinlkmmelkdnaa.Q8Rate Go.Proofs.Ytkinlkmmelkdnaa.QLoop Go.Proofs.Ytkinlkmmelkdnaa.PRate

def forRes (l : List Rate) (day zone grams : Int) : Int × Bool := if (okRs l && inB day 0 4000 && inB zone 0 9 && inB grams 1 2000) = true then (rateV l day zone grams, decide (0 < rateV l day zone grams)) else (0, false)
theorem for_impl (l : List Rate) (day zone grams : Int) (hl : l.length ≤ 9223372036854775807) : GiRateFor.P l day zone grams = some (forRes l day zone grams) := by
  simp only [GiRateFor.P, canSend_eq l zone grams hl, isDay_eq, rateOn_eq, Option.bind_some, letK, joinK, appK, iteK_if, forRes]
  cases okRs l <;> cases inB day 0 4000 <;> cases inB zone 0 9 <;> cases inB grams 1 2000 <;> simp
theorem for_spec {fuel : Nat} (l : List Rate) (day zone grams : Int) (hl : l.length ≤ 9223372036854775807) (hf : 17 < fuel) : GsRateFor.P fuel l day zone grams = some (forRes l day zone grams) := by
  simp only [GsRateFor.P, l8Good_eq l hl hf, l2Day_eq, l8Zone_eq, l8Grams_eq, l8For_eq, Option.bind_some, letK, joinK, appK, iteK_if, forRes]
  cases okRs l <;> cases inB day 0 4000 <;> cases inB zone 0 9 <;> cases inB grams 1 2000 <;> simp
end Go.Proofs.Ytkinlkmmelkdnaa.Q8RateFor
