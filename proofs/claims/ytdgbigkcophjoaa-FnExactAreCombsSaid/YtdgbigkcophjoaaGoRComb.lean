/- A record Comb opened into its fields. No condition. -/
import Derived.Test.YtdgbigkcophjoaaGoP
import Derived.Test.YtdgbigkcophjoaaPComb
namespace Go.Proofs.Ytdgbigkcophjoaa.GoP
set_option linter.unusedVariables false
open Go.RowKit
def unComb {ρ : Type} (s : Go.Proofs.Ytdgbigkcophjoaa.PComb.Comb) (f : Int → Int → Int → Bool → Option ρ) : Option ρ := f s.id s.wide s.high s.line
theorem unComb_hid {ρ : Type} {x0 : Int} {x1 : Int} {x2 : Int} {x3 : Bool} {f : Int → Int → Int → Bool → Option ρ} {r : ρ} (H : Hid (unComb ⟨x0, x1, x2, x3⟩ f = some r)) : Hid (f x0 x1 x2 x3 = some r) := H
end Go.Proofs.Ytdgbigkcophjoaa.GoP
