/- A record Paper opened into its fields. No condition. -/
import Derived.Test.YtdgbigkcophjoaaGoP
import Derived.Test.YtdgbigkcophjoaaPPaper
namespace Go.Proofs.Ytdgbigkcophjoaa.GoP
set_option linter.unusedVariables false
open Go.RowKit
def unPaper {ρ : Type} (s : Go.Proofs.Ytdgbigkcophjoaa.PPaper.Paper) (f : Int → Int → Int → ByteArray → Bool → Option ρ) : Option ρ := f s.id s.thick s.tint s.mark s.laid
theorem unPaper_hid {ρ : Type} {x0 : Int} {x1 : Int} {x2 : Int} {x3 : ByteArray} {x4 : Bool} {f : Int → Int → Int → ByteArray → Bool → Option ρ} {r : ρ} (H : Hid (unPaper ⟨x0, x1, x2, x3, x4⟩ f = some r)) : Hid (f x0 x1 x2 x3 x4 = some r) := H
end Go.Proofs.Ytdgbigkcophjoaa.GoP
