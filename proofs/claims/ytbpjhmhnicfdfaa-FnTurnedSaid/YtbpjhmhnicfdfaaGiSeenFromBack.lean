/- loop.example/g01062/impl.SeenFromBack as a plain function, and the contract of the program's: where the plain one has an answer, the program has it. Conditions: slices read as lists. -/
import Derived.Test.YtbpjhmhnicfdfaaChecked
import Derived.Test.YtbpjhmhnicfdfaaGoM
import Derived.Test.YtbpjhmhnicfdfaaGiJoinPositions
import Derived.WalkKit
import Derived.WalkSpells
import Derived.WalkLawsBesides
import Derived.BigQuiet
import Derived.OwnWalk
import Derived.Deep.LoopGhost
import Derived.Deep.QuietTactic
import Derived.IntWalk
import Derived.Lib.QuietBelow
namespace Go.Proofs.Ytbpjhmhnicfdfaa.GiSeenFromBack
set_option linter.unusedVariables false
set_option linter.unusedSimpArgs false
open Go.RowKit
open Go.Proofs.Ytbpjhmhnicfdfaa.Rowed Go.Proofs.Ytbpjhmhnicfdfaa.Turn Go.Proofs.Ytbpjhmhnicfdfaa.Aid Go.Proofs.Ytbpjhmhnicfdfaa.GoP Go.Proofs.Ytbpjhmhnicfdfaa.GoM

def P (a : Int) : Option (Int × Bool) :=
  bind2 (Go.Proofs.Ytbpjhmhnicfdfaa.GiJoinPositions.P a 4) fun (t_3a : Int) (t_3b : Bool) =>
  some (t_3a, t_3b)

set_option maxRecDepth 100000 in
set_option maxHeartbeats 2000000 in
theorem C (a : Int)   (w : World)   {r0 : Int} {r1 : Bool} (H : Hid (P a = some (r0, r1))) :
    Calls Try.prog 26 #[.int .i64 a] w (Gives (.tuple #[.int .i64 r0, .bool r1]) w) := by
  have HB := Lib.hid (Below.refl w.heap.size w)
  unfold P at H
  go_enter Try.func26, Try.ntmps26
  replace H := bind2_hid H
  obtain ⟨t_3a, t_3b, qt_3, H⟩ := H
  go_wp2_with fail
  go_at_call 21
  refine (Go.Proofs.Ytbpjhmhnicfdfaa.GiJoinPositions.C (a) (4)  _    qt_3).mono ?_
  rintro e_t_3 wt_3 ⟨rfl, bt_3⟩
  have HBwt_3 := Lib.hid (Below.step HB.out bt_3)
  clear bt_3
  cases ret_hid H
  go_wp2_with fail
  go_ret2
  exact ⟨rfl, HBwt_3.out⟩
end Go.Proofs.Ytbpjhmhnicfdfaa.GiSeenFromBack
