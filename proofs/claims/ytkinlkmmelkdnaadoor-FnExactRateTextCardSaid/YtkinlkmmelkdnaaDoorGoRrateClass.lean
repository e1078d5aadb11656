/- A record rateClass opened into its fields. No condition. -/
import Derived.Test.YtkinlkmmelkdnaaDoorGoP
import Derived.Test.YtkinlkmmelkdnaaDoorPrateClass
namespace Go.Proofs.YtkinlkmmelkdnaaDoor.GoP
set_option linter.unusedVariables false
open Go.RowKit
def unrateClass {ρ : Type} (s : Go.Proofs.YtkinlkmmelkdnaaDoor.PrateClass.rateClass) (f : Int → Int → Option ρ) : Option ρ := f s.zone s.grams
theorem unrateClass_hid {ρ : Type} {x0 : Int} {x1 : Int} {f : Int → Int → Option ρ} {r : ρ} (H : Hid (unrateClass ⟨x0, x1⟩ f = some r)) : Hid (f x0 x1 = some r) := H
end Go.Proofs.YtkinlkmmelkdnaaDoor.GoP
