/- A record Rate opened into its fields. No condition. -/
import Derived.Test.YtkinlkmmelkdnaaDoorGoP
import Derived.Test.YtkinlkmmelkdnaaDoorPRate
namespace Go.Proofs.YtkinlkmmelkdnaaDoor.GoP
set_option linter.unusedVariables false
open Go.RowKit
def unRate {ρ : Type} (s : Go.Proofs.YtkinlkmmelkdnaaDoor.PRate.Rate) (f : Int → Int → Int → Int → Int → Option ρ) : Option ρ := f s.zone s.grams s.from_ s.until_ s.cents
theorem unRate_hid {ρ : Type} {x0 : Int} {x1 : Int} {x2 : Int} {x3 : Int} {x4 : Int} {f : Int → Int → Int → Int → Int → Option ρ} {r : ρ} (H : Hid (unRate ⟨x0, x1, x2, x3, x4⟩ f = some r)) : Hid (f x0 x1 x2 x3 x4 = some r) := H
end Go.Proofs.YtkinlkmmelkdnaaDoor.GoP
