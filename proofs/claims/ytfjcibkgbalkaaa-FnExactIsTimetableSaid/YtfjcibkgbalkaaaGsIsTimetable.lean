/- loop.example/g01062/spec.IsTimetable as a plain function, and the contract of the program's: where the plain one has an answer, the program has it. Conditions: slices read as lists. -/
import Derived.Test.YtfjcibkgbalkaaaChecked
import Derived.Test.YtfjcibkgbalkaaaGoM
import Derived.Test.YtfjcibkgbalkaaaGoRMail
import Derived.Test.YtfjcibkgbalkaaaGsL9Good
import Derived.WalkKit
import Derived.WalkSpells
import Derived.WalkLawsBesides
import Derived.BigQuiet
import Derived.OwnWalk
import Derived.Deep.LoopGhost
import Derived.Deep.QuietTactic
import Derived.IntWalk
import Derived.Lib.QuietBelow
namespace Go.Proofs.Ytfjcibkgbalkaaa.GsIsTimetable
set_option linter.unusedVariables false
set_option linter.unusedSimpArgs false
open Go.RowKit
open Go.Proofs.Ytfjcibkgbalkaaa.Rowed Go.Proofs.Ytfjcibkgbalkaaa.Turn Go.Proofs.Ytfjcibkgbalkaaa.Aid Go.Proofs.Ytfjcibkgbalkaaa.GoP Go.Proofs.Ytfjcibkgbalkaaa.GoM

def P (list : (List Go.Proofs.Ytfjcibkgbalkaaa.PMail.Mail)) : Option (Bool) :=
  Option.bind (Go.Proofs.Ytfjcibkgbalkaaa.GsL9Good.P list) fun (t_2 : Bool) =>
  some t_2

set_option maxRecDepth 100000 in
set_option maxHeartbeats 2000000 in
theorem C (list : (List Go.Proofs.Ytfjcibkgbalkaaa.PMail.Mail)) (A0 : Option Addr) (c0 : Nat)  (w : World) (M0 : Hid (Cells w 4 A0 list.length (Go.Proofs.Ytfjcibkgbalkaaa.PMail.flat list))) (N0 : Hid (list.length ≤ 9223372036854775807))  {r : Bool} (H : Hid (P list = some r)) :
    Calls Try.prog 35 #[.slice A0 list.length c0] w (Gives (.bool r) w) := by
  have HB := Lib.hid (Below.refl w.heap.size w)
  unfold P at H
  have N0o := N0.out
  go_enter Try.func35, Try.ntmps35
  replace H := bind_hid H
  obtain ⟨t_2, qt_2, H⟩ := H
  go_wp2_with fail
  go_at_call 95
  refine (Go.Proofs.Ytfjcibkgbalkaaa.GsL9Good.C (list) A0 c0 _   (Lib.hid (Cells.below M0.out HB.out)) N0 qt_2).mono ?_
  rintro e_t_2 wt_2 ⟨rfl, bt_2⟩
  have HBwt_2 := Lib.hid (Below.step HB.out bt_2)
  clear bt_2
  obtain rfl := ret_hid H
  go_wp2_with fail
  go_ret
  exact ⟨rfl, HBwt_2.out⟩
end Go.Proofs.Ytfjcibkgbalkaaa.GsIsTimetable
