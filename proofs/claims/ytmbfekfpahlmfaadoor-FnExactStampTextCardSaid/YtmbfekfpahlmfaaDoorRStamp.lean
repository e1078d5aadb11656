/- The contracts of the laws' helpers on slices of stamps, in the forms that the other records have. Condition: the slice reads as a list of stamps. -/
import Derived.Test.YtmbfekfpahlmfaaDoorStamp
import Derived.Test.YtmbfekfpahlmfaaDoorOpenStamp
import Derived.Test.YtmbfekfpahlmfaaDoorTurn
import Derived.Test.YtmbfekfpahlmfaaDoorAid
import Derived.Lib.Hide
namespace Go.Proofs.YtmbfekfpahlmfaaDoor.RStamp
set_option linter.unusedVariables false
open Go.RowKit
open Go.Proofs.YtmbfekfpahlmfaaDoor.Rowed Go.Proofs.YtmbfekfpahlmfaaDoor.Turn Go.Proofs.YtmbfekfpahlmfaaDoor.Aid Go.Proofs.YtmbfekfpahlmfaaDoor.PlainStamp

theorem toOne_any (s : St) (w : World) : Calls Tryd.prog 9 #[s.val] w fun e w' => e = .returned s.val ∧ Below w.heap.size w w' := Stamp.toStamp_any s w
theorem eqOne_same (s : St) (w : World) :
    Calls Tryd.prog 13 #[s.val, s.val] w fun e w' => e = .returned (.bool true) ∧ Below w.heap.size w w' := by
  obtain ⟨a, b, c, d⟩ := s
  unfold St.val
  go_enter Tryd.func13, Tryd.ntmps13
  go_wp2
  go_ret
  exact ⟨rfl, ((Below.refl _ _).alloc (Nat.le_refl _) _).alloc (by simp) _⟩


end Go.Proofs.YtmbfekfpahlmfaaDoor.RStamp
