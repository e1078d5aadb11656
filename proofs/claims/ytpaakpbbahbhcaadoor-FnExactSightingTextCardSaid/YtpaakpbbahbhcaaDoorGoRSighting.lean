/- A record Sighting opened into its fields. No condition. -/
import Derived.Test.YtpaakpbbahbhcaaDoorGoP
import Derived.Test.YtpaakpbbahbhcaaDoorPSighting
namespace Go.Proofs.YtpaakpbbahbhcaaDoor.GoP
set_option linter.unusedVariables false
open Go.RowKit
def unSighting {ρ : Type} (s : Go.Proofs.YtpaakpbbahbhcaaDoor.PSighting.Sighting) (f : Int → Int → ByteArray → (List Int) → Option ρ) : Option ρ := f s.id s.year s.town s.traits
theorem unSighting_hid {ρ : Type} {x0 : Int} {x1 : Int} {x2 : ByteArray} {x3 : (List Int)} {f : Int → Int → ByteArray → (List Int) → Option ρ} {r : ρ} (H : Hid (unSighting ⟨x0, x1, x2, x3⟩ f = some r)) : Hid (f x0 x1 x2 x3 = some r) := H
end Go.Proofs.YtpaakpbbahbhcaaDoor.GoP
