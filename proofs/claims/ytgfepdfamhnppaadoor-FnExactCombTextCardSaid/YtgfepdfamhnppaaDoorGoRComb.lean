/- A record Comb opened into its fields. No condition. -/
import Derived.Test.YtgfepdfamhnppaaDoorGoP
import Derived.Test.YtgfepdfamhnppaaDoorPComb
namespace Go.Proofs.YtgfepdfamhnppaaDoor.GoP
set_option linter.unusedVariables false
open Go.RowKit
def unComb {ρ : Type} (s : Go.Proofs.YtgfepdfamhnppaaDoor.PComb.Comb) (f : Int → Int → Int → Bool → Option ρ) : Option ρ := f s.id s.wide s.high s.line
theorem unComb_hid {ρ : Type} {x0 : Int} {x1 : Int} {x2 : Int} {x3 : Bool} {f : Int → Int → Int → Bool → Option ρ} {r : ρ} (H : Hid (unComb ⟨x0, x1, x2, x3⟩ f = some r)) : Hid (f x0 x1 x2 x3 = some r) := H
end Go.Proofs.YtgfepdfamhnppaaDoor.GoP
