/- A record Block opened into its fields. No condition. -/
import Derived.Test.YtaknldlglfnbfaaGoP
import Derived.Test.YtaknldlglfnbfaaPBlock
namespace Go.Proofs.Ytaknldlglfnbfaa.GoP
set_option linter.unusedVariables false
open Go.RowKit
def unBlock {ρ : Type} (s : Go.Proofs.Ytaknldlglfnbfaa.PBlock.Block) (f : (List ByteArray) → Option ρ) : Option ρ := f s.rows
theorem unBlock_hid {ρ : Type} {x0 : (List ByteArray)} {f : (List ByteArray) → Option ρ} {r : ρ} (H : Hid (unBlock ⟨x0⟩ f = some r)) : Hid (f x0 = some r) := H
end Go.Proofs.Ytaknldlglfnbfaa.GoP
