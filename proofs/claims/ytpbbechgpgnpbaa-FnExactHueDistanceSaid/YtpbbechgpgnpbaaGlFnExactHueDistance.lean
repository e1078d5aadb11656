/- loop.example/g01062/laws.FnExactHueDistance as a plain function, and the contract of the program's: where the plain one has an answer, the program has it. Conditions: slices read as lists. -/
import Derived.Test.YtpbbechgpgnpbaaChecked
import Derived.Test.YtpbbechgpgnpbaaGoM
import Derived.Test.YtpbbechgpgnpbaaGsHueDistance
import Derived.Test.YtpbbechgpgnpbaaGiHueDistance
import Derived.WalkKit
import Derived.WalkSpells
import Derived.WalkLawsBesides
import Derived.BigQuiet
import Derived.OwnWalk
import Derived.Deep.LoopGhost
import Derived.Deep.QuietTactic
import Derived.IntWalk
import Derived.Lib.QuietBelow
namespace Go.Proofs.Ytpbbechgpgnpbaa.GlFnExactHueDistance
set_option linter.unusedVariables false
set_option linter.unusedSimpArgs false
open Go.RowKit
open Go.Proofs.Ytpbbechgpgnpbaa.Rowed Go.Proofs.Ytpbbechgpgnpbaa.Turn Go.Proofs.Ytpbbechgpgnpbaa.Aid Go.Proofs.Ytpbbechgpgnpbaa.GoP Go.Proofs.Ytpbbechgpgnpbaa.GoM

def P (aA : Int) (aB : Int) : Option (Bool) :=
  bind2 (Go.Proofs.Ytpbbechgpgnpbaa.GsHueDistance.P aA aB) fun (t_3a : Int) (t_3b : Bool) =>
  bind2 (Go.Proofs.Ytpbbechgpgnpbaa.GiHueDistance.P aA aB) fun (t_11a : Int) (t_11b : Bool) =>
  letK (t_11a != t_3a) fun (t_19 : Bool) =>
  joinK (fun (t_24 : Bool) =>
  iteK t_24
  (some false)
  (some true)) fun jt_24 => iteK t_19 (appK jt_24 true) (letK (!(t_11b == t_3b)) fun (t_23 : Bool) =>
  appK jt_24 t_23)

set_option maxRecDepth 100000 in
set_option maxHeartbeats 2000000 in
theorem C (aA : Int) (aB : Int)   (w : World)   {r : Bool} (H : Hid (P aA aB = some r)) :
    Calls Try.prog 5 #[.int .i64 aA, .int .i64 aB] w (Gives (.bool r) w) := by
  have HB := Lib.hid (Below.refl w.heap.size w)
  unfold P at H
  go_enter Try.func5, Try.ntmps5
  replace H := bind2_hid H
  obtain ⟨t_3a, t_3b, qt_3, H⟩ := H
  go_wp2_with fail
  go_at_call 24
  refine (Go.Proofs.Ytpbbechgpgnpbaa.GsHueDistance.C (aA) (aB)  _    qt_3).mono ?_
  rintro e_t_3 wt_3 ⟨rfl, bt_3⟩
  have HBwt_3 := Lib.hid (Below.step HB.out bt_3)
  clear bt_3
  replace H := bind2_hid H
  obtain ⟨t_11a, t_11b, qt_11, H⟩ := H
  go_wp2_with fail
  go_at_call 25
  refine (Go.Proofs.Ytpbbechgpgnpbaa.GiHueDistance.C (aA) (aB)  _    qt_11).mono ?_
  rintro e_t_11 wt_11 ⟨rfl, bt_11⟩
  have HBwt_11 := Lib.hid (Below.step HBwt_3.out bt_11)
  clear bt_11
  replace H := let_hid H
  obtain ⟨t_19, ht_19, H⟩ := H
  replace H := join_hid H
  cases t_19 with
  | false =>
    replace H := ite_f H
    replace H := let_hid H
    obtain ⟨t_23, ht_23, H⟩ := H
    replace H := app_hid H
    cases t_23 with
    | false =>
      replace H := ite_f H
      obtain rfl := ret_hid H
      go_wp2_with fail
      go_ret
      exact ⟨rfl, HBwt_11.out⟩
    | true =>
      replace H := ite_t H
      obtain rfl := ret_hid H
      go_wp2_with fail
      go_ret
      exact ⟨rfl, HBwt_11.out⟩
  | true =>
    replace H := ite_t H
    replace H := app_hid H
    replace H := ite_t H
    obtain rfl := ret_hid H
    go_wp2_with fail
    go_ret
    exact ⟨rfl, HBwt_11.out⟩
end Go.Proofs.Ytpbbechgpgnpbaa.GlFnExactHueDistance
