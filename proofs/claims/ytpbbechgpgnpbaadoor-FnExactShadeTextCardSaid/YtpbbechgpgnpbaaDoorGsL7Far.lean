/- loop.example/g01062/spec.l7Far as a plain function, and the contract of the program's: where the plain one has an answer, the program has it. Conditions: slices read as lists. -/
import Derived.Test.YtpbbechgpgnpbaaDoorChecked
import Derived.Test.YtpbbechgpgnpbaaDoorGoM
import Derived.Test.YtpbbechgpgnpbaaDoorGsL1Most
import Derived.Test.YtpbbechgpgnpbaaDoorGsL1Least
import Derived.WalkKit
import Derived.WalkSpells
import Derived.WalkLawsBesides
import Derived.BigQuiet
import Derived.OwnWalk
import Derived.Deep.LoopGhost
import Derived.Deep.QuietTactic
import Derived.IntWalk
import Derived.Lib.QuietBelow
namespace Go.Proofs.YtpbbechgpgnpbaaDoor.GsL7Far
set_option linter.unusedVariables false
set_option linter.unusedSimpArgs false
open Go.RowKit
open Go.Proofs.YtpbbechgpgnpbaaDoor.Rowed Go.Proofs.YtpbbechgpgnpbaaDoor.Turn Go.Proofs.YtpbbechgpgnpbaaDoor.Aid Go.Proofs.YtpbbechgpgnpbaaDoor.GoP Go.Proofs.YtpbbechgpgnpbaaDoor.GoM

def P (a : Int) (b : Int) : Option (Int) :=
  letK (IntKind.i64.wrap (a - b)) fun (t_3 : Int) =>
  letK (IntKind.i64.wrap (b - a)) fun (t_6 : Int) =>
  Option.bind (Go.Proofs.YtpbbechgpgnpbaaDoor.GsL1Most.P t_3 t_6) fun (t_7 : Int) =>
  letK (IntKind.i64.wrap (360 - t_7)) fun (t_11 : Int) =>
  Option.bind (Go.Proofs.YtpbbechgpgnpbaaDoor.GsL1Least.P t_7 t_11) fun (t_12 : Int) =>
  some t_12

set_option maxRecDepth 100000 in
set_option maxHeartbeats 2000000 in
theorem C (a : Int) (b : Int)   (w : World)   {r : Int} (H : Hid (P a b = some r)) :
    Calls Tryd.prog 32 #[.int .i64 a, .int .i64 b] w (Gives (.int .i64 r) w) := by
  have HB := Lib.hid (Below.refl w.heap.size w)
  unfold P at H
  go_enter Tryd.func32, Tryd.ntmps32
  replace H := let_hid H
  obtain ⟨t_3, ht_3, H⟩ := H
  replace H := let_hid H
  obtain ⟨t_6, ht_6, H⟩ := H
  replace H := bind_hid H
  obtain ⟨t_7, qt_7, H⟩ := H
  go_wp2_with fail
  go_at_call 61
  refine (Go.Proofs.YtpbbechgpgnpbaaDoor.GsL1Most.C (t_3) (t_6)  _    qt_7).mono ?_
  rintro e_t_7 wt_7 ⟨rfl, bt_7⟩
  have HBwt_7 := Lib.hid (Below.step HB.out bt_7)
  clear bt_7
  replace H := let_hid H
  obtain ⟨t_11, ht_11, H⟩ := H
  replace H := bind_hid H
  obtain ⟨t_12, qt_12, H⟩ := H
  go_wp2_with fail
  go_at_call 62
  refine (Go.Proofs.YtpbbechgpgnpbaaDoor.GsL1Least.C (t_7) (t_11)  _    qt_12).mono ?_
  rintro e_t_12 wt_12 ⟨rfl, bt_12⟩
  have HBwt_12 := Lib.hid (Below.step HBwt_7.out bt_12)
  clear bt_12
  obtain rfl := ret_hid H
  go_wp2_with fail
  go_ret
  exact ⟨rfl, HBwt_12.out⟩
end Go.Proofs.YtpbbechgpgnpbaaDoor.GsL7Far
