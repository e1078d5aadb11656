/- A record KindTable opened into its fields. No condition. -/
import Derived.Test.YtekacbjnpeglhaaGoP
import Derived.Test.YtekacbjnpeglhaaPKindTable
namespace Go.Proofs.Ytekacbjnpeglhaa.GoP
set_option linter.unusedVariables false
open Go.RowKit
def unKindTable {ρ : Type} (s : Go.Proofs.Ytekacbjnpeglhaa.PKindTable.KindTable) (f : (List Int) → (List Go.Proofs.Ytekacbjnpeglhaa.PBan.Ban) → Option ρ) : Option ρ := f s.sizes s.bans
theorem unKindTable_hid {ρ : Type} {x0 : (List Int)} {x1 : (List Go.Proofs.Ytekacbjnpeglhaa.PBan.Ban)} {f : (List Int) → (List Go.Proofs.Ytekacbjnpeglhaa.PBan.Ban) → Option ρ} {r : ρ} (H : Hid (unKindTable ⟨x0, x1⟩ f = some r)) : Hid (f x0 x1 = some r) := H
end Go.Proofs.Ytekacbjnpeglhaa.GoP
