/- A record Shade opened into its fields. No condition. -/
import Derived.Test.YtpbbechgpgnpbaaDoorGoP
import Derived.Test.YtpbbechgpgnpbaaDoorPShade
namespace Go.Proofs.YtpbbechgpgnpbaaDoor.GoP
set_option linter.unusedVariables false
open Go.RowKit
def unShade {ρ : Type} (s : Go.Proofs.YtpbbechgpgnpbaaDoor.PShade.Shade) (f : ByteArray → Int → Int → Int → Int → Option ρ) : Option ρ := f s.name s.hue s.width s.dark s.light
theorem unShade_hid {ρ : Type} {x0 : ByteArray} {x1 : Int} {x2 : Int} {x3 : Int} {x4 : Int} {f : ByteArray → Int → Int → Int → Int → Option ρ} {r : ρ} (H : Hid (unShade ⟨x0, x1, x2, x3, x4⟩ f = some r)) : Hid (f x0 x1 x2 x3 x4 = some r) := H
end Go.Proofs.YtpbbechgpgnpbaaDoor.GoP
