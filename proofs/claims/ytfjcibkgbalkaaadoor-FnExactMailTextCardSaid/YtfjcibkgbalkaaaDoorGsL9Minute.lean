/- loop.example/g01062/spec.l9Minute as a plain function, and the contract of the program's: where the plain one has an answer, the program has it. Conditions: slices read as lists. -/
import Derived.Test.YtfjcibkgbalkaaaDoorChecked
import Derived.Test.YtfjcibkgbalkaaaDoorGoM
import Derived.Test.YtfjcibkgbalkaaaDoorGsL1In
import Derived.WalkKit
import Derived.WalkSpells
import Derived.WalkLawsBesides
import Derived.BigQuiet
import Derived.OwnWalk
import Derived.Deep.LoopGhost
import Derived.Deep.QuietTactic
import Derived.IntWalk
import Derived.Lib.QuietBelow
namespace Go.Proofs.YtfjcibkgbalkaaaDoor.GsL9Minute
set_option linter.unusedVariables false
set_option linter.unusedSimpArgs false
open Go.RowKit
open Go.Proofs.YtfjcibkgbalkaaaDoor.Rowed Go.Proofs.YtfjcibkgbalkaaaDoor.Turn Go.Proofs.YtfjcibkgbalkaaaDoor.Aid Go.Proofs.YtfjcibkgbalkaaaDoor.GoP Go.Proofs.YtfjcibkgbalkaaaDoor.GoM

def P (n_0 : Int) : Option (Bool) :=
  Option.bind (Go.Proofs.YtfjcibkgbalkaaaDoor.GsL1In.P n_0 0 9999) fun (t_2 : Bool) =>
  some t_2

set_option maxRecDepth 100000 in
set_option maxHeartbeats 2000000 in
theorem C (n_0 : Int)   (w : World)   {r : Bool} (H : Hid (P n_0 = some r)) :
    Calls Tryd.prog 89 #[.int .i64 n_0] w (Gives (.bool r) w) := by
  have HB := Lib.hid (Below.refl w.heap.size w)
  unfold P at H
  go_enter Tryd.func89, Tryd.ntmps89
  replace H := bind_hid H
  obtain ⟨t_2, qt_2, H⟩ := H
  go_wp2_with fail
  go_at_call 71
  refine (Go.Proofs.YtfjcibkgbalkaaaDoor.GsL1In.C (n_0) (0) (9999)  _    qt_2).mono ?_
  rintro e_t_2 wt_2 ⟨rfl, bt_2⟩
  have HBwt_2 := Lib.hid (Below.step HB.out bt_2)
  clear bt_2
  obtain rfl := ret_hid H
  go_wp2_with fail
  go_ret
  exact ⟨rfl, HBwt_2.out⟩
end Go.Proofs.YtfjcibkgbalkaaaDoor.GsL9Minute
