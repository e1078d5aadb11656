/- A record Stamp opened into its fields. No condition. -/
import Derived.Test.YtdgbigkcophjoaaGoP
import Derived.Test.YtdgbigkcophjoaaPlainStamp
namespace Go.Proofs.Ytdgbigkcophjoaa.GoP
set_option linter.unusedVariables false
open Go.RowKit
def unStamp {ρ : Type} (s : Go.Proofs.Ytdgbigkcophjoaa.PlainStamp.St) (f : Int → Int → Int → Int → Option ρ) : Option ρ := f s.id s.face s.color s.year
theorem unStamp_hid {ρ : Type} {x0 : Int} {x1 : Int} {x2 : Int} {x3 : Int} {f : Int → Int → Int → Int → Option ρ} {r : ρ} (H : Hid (unStamp ⟨x0, x1, x2, x3⟩ f = some r)) : Hid (f x0 x1 x2 x3 = some r) := H
end Go.Proofs.Ytdgbigkcophjoaa.GoP
