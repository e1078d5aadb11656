/- Chapter 8: rates: the plain functions of the program and of the reference agree, and the laws answer true. (Q8Heavy) No condition but those of each theorem. -/
import Derived.Test.YtkinlkmmelkdnaaQFold
import Derived.Test.YtkinlkmmelkdnaaQ8For
import Derived.Test.YtkinlkmmelkdnaaQ8List
import Derived.Test.YtkinlkmmelkdnaaQ8Rate
import Derived.Test.YtkinlkmmelkdnaaQLoop
import Derived.Test.YtkinlkmmelkdnaaPRate
import Derived.Test.YtkinlkmmelkdnaaGiHeaviestFor
import Derived.Test.YtkinlkmmelkdnaaGsHeaviestFor
namespace Go.Proofs.Ytkinlkmmelkdnaa.Q8Heavy
set_option linter.unusedVariables false
set_option linter.unusedSimpArgs false
open Go.RowKit
open Go.Proofs.Ytkinlkmmelkdnaa.GoP Go.Proofs.Ytkinlkmmelkdnaa.PlainStamp Go.Proofs.Ytkinlkmmelkdnaa.QBase Go.Proofs.Ytkinlkmmelkdnaa.QFold Go.Proofs.Ytkinlkmmelkdnaa.Q8For Go.Proofs.Ytkinlkmmelkdnaa.Q8List Go.Proofs.Ytkinlkmmelkdnaa.Q8Rate Go.Proofs.Ytkinlkmmelkdnaa.QLoop Go.Proofs.Ytkinlkmmelkdnaa.PRate

def hvB (day zone cents : Int) (r : Rate) : Bool := decide (r.zone = zone) && decide (r.cents ≤ cents) && inB day r.from_ r.until_
def heavyV (l : List Rate) (day zone cents : Int) : Int := l.foldl (fun b r => if hvB day zone cents r = true then r.grams else b) 0
def heavyRes (l : List Rate) (day zone cents : Int) : Int × Bool := if (okRs l && inB day 0 4000 && inB zone 0 9 && inB cents 1 9999) = true then (heavyV l day zone cents, decide (0 < heavyV l day zone cents)) else (0, false)
theorem heavy_impl (l : List Rate) (day zone cents : Int) (hl : l.length ≤ 9223372036854775807) : GiHeaviestFor.P l day zone cents = some (heavyRes l day zone cents) := by
  have key : cntK (GiHeaviestFor.l0 l day zone cents) l.length 0 0 GiHeaviestFor.e0 = some (heavyV l day zone cents, decide (0 < heavyV l day zone cents)) := by
    rw [fold_loop (g := fun b r => if hvB day zone cents r = true then r.grams else b)]
    · rfl
    · intro k nx x s hx
      have hi : idx l (k : Int) = some x := by rw [idx_nat, hx]
      simp only [GiHeaviestFor.l0, hi, Option.bind_some, unRate, within_eq, letK, joinK, appK, iteK_if, hvB]
      by_cases h1 : x.zone = zone <;> by_cases h2 : x.cents ≤ cents <;> by_cases h3 : inB day x.from_ x.until_ = true <;> simp [h1, h2, h3]
  simp only [GiHeaviestFor.P, areRates_eq l hl, isDay_eq, isZone_eq, isRateCents_eq, key, Option.bind_some, letK, joinK, appK, iteK_if, heavyRes]
  cases okRs l <;> cases inB day 0 4000 <;> cases inB zone 0 9 <;> cases inB cents 1 9999 <;> simp
theorem heavy_spec {fuel : Nat} (l : List Rate) (day zone cents : Int) (hl : l.length ≤ 9223372036854775807) (hf : 17 < fuel) : GsHeaviestFor.P fuel l day zone cents = some (heavyRes l day zone cents) := by
  have key : cntK (GsHeaviestFor.l0 l day zone cents) l.length 0 0 GsHeaviestFor.e0 = some (heavyV l day zone cents, decide (0 < heavyV l day zone cents)) := by
    rw [fold_loop (g := fun b r => if hvB day zone cents r = true then r.grams else b)]
    · rfl
    · intro k nx x s hx
      have hi : idx l (k : Int) = some x := by rw [idx_nat, hx]
      simp only [GsHeaviestFor.l0, hi, Option.bind_some, unRate, l1In_eq, letK, joinK, appK, iteK_if, hvB]
      by_cases h1 : x.zone = zone <;> by_cases h2 : x.cents ≤ cents <;> by_cases h3 : inB day x.from_ x.until_ = true <;> simp [h1, h2, h3]
  simp only [GsHeaviestFor.P, l8Good_eq l hl hf, l2Day_eq, l8Zone_eq, l8Cents_eq, key, Option.bind_some, letK, joinK, appK, iteK_if, heavyRes]
  cases okRs l <;> cases inB day 0 4000 <;> cases inB zone 0 9 <;> cases inB cents 1 9999 <;> simp
end Go.Proofs.Ytkinlkmmelkdnaa.Q8Heavy
