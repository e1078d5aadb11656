/- The statement of CheapestChange at the program: the function named and the facts of its row, reckoned. No condition. -/
import Derived.Test.YtihibckijdfidaaRows
import Derived.WalkKit
import Derived.ProofKit
import Derived.OpenShut
import Derived.ShutString
import Derived.ChangeOld
import Derived.Below
import Derived.Deep.DeepHandedRow
import Derived.Deep.DeepWitnessRowRef
import Derived.LaidMore
import Derived.Outline
namespace Go.Proofs.Ytihibckijdfidaa.fnExactCheapestChange
open Go.ChangeShapes Go.WideShapes Go.ChangeAt Go.RowKit
open Go.ChangeMaps (open_string shut_string)
open Go.RowKit
set_option linter.unusedVariables false

theorem named : Try.pinned.checked.prog.funcNamed Rows.fnExactCheapestChangeRow.func = some 7 := by kernel_rfl
theorem closed : joinedFacts Try.pinned.checked.prog 7 Try.f7 (OpenSpec.ofChange Rows.fnExactCheapestChangeSpec).bare Rows.fnExactCheapestChangeRow = true := by kernel_rfl
end Go.Proofs.Ytihibckijdfidaa.fnExactCheapestChange
