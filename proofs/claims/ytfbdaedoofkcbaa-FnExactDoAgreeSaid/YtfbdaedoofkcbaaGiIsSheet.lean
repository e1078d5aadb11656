/- loop.example/g01062/impl.IsSheet as a plain function, and the contract of the program's: where the plain one has an answer, the program has it. Conditions: slices read as lists. -/
import Derived.Test.YtfbdaedoofkcbaaChecked
import Derived.Test.YtfbdaedoofkcbaaGoM
import Derived.Test.YtfbdaedoofkcbaaGiAreRows
import Derived.WalkKit
import Derived.WalkSpells
import Derived.WalkLawsBesides
import Derived.BigQuiet
import Derived.OwnWalk
import Derived.Deep.LoopGhost
import Derived.Deep.QuietTactic
import Derived.IntWalk
import Derived.Lib.QuietBelow
namespace Go.Proofs.Ytfbdaedoofkcbaa.GiIsSheet
set_option linter.unusedVariables false
set_option linter.unusedSimpArgs false
open Go.RowKit
open Go.Proofs.Ytfbdaedoofkcbaa.Rowed Go.Proofs.Ytfbdaedoofkcbaa.Turn Go.Proofs.Ytfbdaedoofkcbaa.Aid Go.Proofs.Ytfbdaedoofkcbaa.GoP Go.Proofs.Ytfbdaedoofkcbaa.GoM

def P (sheet : (List ByteArray)) : Option (Bool) :=
  Option.bind (Go.Proofs.Ytfbdaedoofkcbaa.GiAreRows.P sheet 5) fun (t_2 : Bool) =>
  some t_2

set_option maxRecDepth 100000 in
set_option maxHeartbeats 2000000 in
theorem C (sheet : (List ByteArray)) (A0 : Option Addr) (c0 : Nat)  (w : World) (M0 : Hid (Cells w 1 A0 sheet.length (sheet.map Value.string))) (N0 : Hid (sheet.length ≤ 9223372036854775807))  {r : Bool} (H : Hid (P sheet = some r)) :
    Calls Try.prog 23 #[.slice A0 sheet.length c0] w (Gives (.bool r) w) := by
  have HB := Lib.hid (Below.refl w.heap.size w)
  unfold P at H
  have N0o := N0.out
  go_enter Try.func23, Try.ntmps23
  replace H := bind_hid H
  obtain ⟨t_2, qt_2, H⟩ := H
  go_wp2_with fail
  go_at_call 61
  refine (Go.Proofs.Ytfbdaedoofkcbaa.GiAreRows.C (sheet) (5) A0 c0 _ (Lib.hid (Cells.below M0.out HB.out)) N0 qt_2).mono ?_
  rintro e_t_2 wt_2 ⟨rfl, bt_2⟩
  have HBwt_2 := Lib.hid (Below.step HB.out bt_2)
  clear bt_2
  obtain rfl := ret_hid H
  go_wp2_with fail
  go_ret
  exact ⟨rfl, HBwt_2.out⟩
end Go.Proofs.Ytfbdaedoofkcbaa.GiIsSheet
