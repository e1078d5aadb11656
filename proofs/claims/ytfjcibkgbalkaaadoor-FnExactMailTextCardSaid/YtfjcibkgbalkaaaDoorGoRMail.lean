/- A record Mail opened into its fields. No condition. -/
import Derived.Test.YtfjcibkgbalkaaaDoorGoP
import Derived.Test.YtfjcibkgbalkaaaDoorPMail
namespace Go.Proofs.YtfjcibkgbalkaaaDoor.GoP
set_option linter.unusedVariables false
open Go.RowKit
def unMail {ρ : Type} (s : Go.Proofs.YtfjcibkgbalkaaaDoor.PMail.Mail) (f : Int → Int → Int → Int → Option ρ) : Option ρ := f s.leave s.from_ s.to_ s.arrive
theorem unMail_hid {ρ : Type} {x0 : Int} {x1 : Int} {x2 : Int} {x3 : Int} {f : Int → Int → Int → Int → Option ρ} {r : ρ} (H : Hid (unMail ⟨x0, x1, x2, x3⟩ f = some r)) : Hid (f x0 x1 x2 x3 = some r) := H
end Go.Proofs.YtfjcibkgbalkaaaDoor.GoP
