/- loop.example/g01062/spec.l5Holes as a plain function, and the contract of the program's: where the plain one has an answer, the program has it. Conditions: slices read as lists. -/
import Derived.Test.YtgfepdfamhnppaaChecked
import Derived.Test.YtgfepdfamhnppaaGoM
import Derived.Test.YtgfepdfamhnppaaHelpInt
import Derived.Test.YtgfepdfamhnppaaGsL1In
import Derived.Test.YtgfepdfamhnppaaGsL1Rising
import Derived.WalkKit
import Derived.WalkSpells
import Derived.WalkLawsBesides
import Derived.BigQuiet
import Derived.OwnWalk
import Derived.Deep.LoopGhost
import Derived.Deep.QuietTactic
import Derived.IntWalk
import Derived.Lib.QuietBelow
namespace Go.Proofs.Ytgfepdfamhnppaa.GsL5Holes
set_option linter.unusedVariables false
set_option linter.unusedSimpArgs false
open Go.RowKit
open Go.Proofs.Ytgfepdfamhnppaa.Rowed Go.Proofs.Ytgfepdfamhnppaa.Turn Go.Proofs.Ytgfepdfamhnppaa.Aid Go.Proofs.Ytgfepdfamhnppaa.GoP Go.Proofs.Ytgfepdfamhnppaa.GoM

def P (holes : (List Int)) : Option (Bool) :=
  Option.bind (Go.Proofs.Ytgfepdfamhnppaa.GsL1In.P (holes.length : Int) 2 40) fun (t_3 : Bool) =>
  joinK (fun (t_7 : Bool) =>
  some t_7) fun jt_7 => iteK t_3 (Option.bind (Go.Proofs.Ytgfepdfamhnppaa.GsL1Rising.P holes 0 9999) fun (t_6 : Bool) =>
  appK jt_7 t_6) (appK jt_7 false)

set_option maxRecDepth 100000 in
set_option maxHeartbeats 2000000 in
theorem C (holes : (List Int)) (A0 : Option Addr) (c0 : Nat)  (w : World) (M0 : Hid (Cells w 1 A0 holes.length (Go.Proofs.Ytgfepdfamhnppaa.HelpInt.iv holes))) (N0 : Hid (holes.length ≤ 9223372036854775807))  {r : Bool} (H : Hid (P holes = some r)) :
    Calls Try.prog 47 #[.slice A0 holes.length c0] w (Gives (.bool r) w) := by
  have HB := Lib.hid (Below.refl w.heap.size w)
  unfold P at H
  have N0o := N0.out
  go_enter Try.func47, Try.ntmps47
  replace H := bind_hid H
  obtain ⟨t_3, qt_3, H⟩ := H
  go_wp2_with fail
  go_at_call 63
  refine (Go.Proofs.Ytgfepdfamhnppaa.GsL1In.C ((holes.length : Int)) (2) (40)  _   qt_3).mono ?_
  rintro e_t_3 wt_3 ⟨rfl, bt_3⟩
  have HBwt_3 := Lib.hid (Below.step HB.out bt_3)
  clear bt_3
  replace H := join_hid H
  cases t_3 with
  | false =>
    replace H := ite_f H
    replace H := app_hid H
    obtain rfl := ret_hid H
    go_wp2_with fail
    go_ret
    exact ⟨rfl, HBwt_3.out⟩
  | true =>
    replace H := ite_t H
    replace H := bind_hid H
    obtain ⟨t_6, qt_6, H⟩ := H
    go_wp2_with fail
    go_at_call 68
    refine (Go.Proofs.Ytgfepdfamhnppaa.GsL1Rising.C (holes) (0) (9999) A0 c0 _  (Lib.hid (Cells.below M0.out HBwt_3.out)) N0 qt_6).mono ?_
    rintro e_t_6 wt_6 ⟨rfl, bt_6⟩
    have HBwt_6 := Lib.hid (Below.step HBwt_3.out bt_6)
    clear bt_6
    replace H := app_hid H
    obtain rfl := ret_hid H
    go_wp2_with fail
    go_ret
    exact ⟨rfl, HBwt_6.out⟩
end Go.Proofs.Ytgfepdfamhnppaa.GsL5Holes
