/- A record Ban opened into its fields. No condition. -/
import Derived.Test.YtekacbjnpeglhaaGoP
import Derived.Test.YtekacbjnpeglhaaPBan
namespace Go.Proofs.Ytekacbjnpeglhaa.GoP
set_option linter.unusedVariables false
open Go.RowKit
def unBan {ρ : Type} (s : Go.Proofs.Ytekacbjnpeglhaa.PBan.Ban) (f : Int → Int → Int → Int → Option ρ) : Option ρ := f s.a s.x s.b s.y
theorem unBan_hid {ρ : Type} {x0 : Int} {x1 : Int} {x2 : Int} {x3 : Int} {f : Int → Int → Int → Int → Option ρ} {r : ρ} (H : Hid (unBan ⟨x0, x1, x2, x3⟩ f = some r)) : Hid (f x0 x1 x2 x3 = some r) := H
end Go.Proofs.Ytekacbjnpeglhaa.GoP
