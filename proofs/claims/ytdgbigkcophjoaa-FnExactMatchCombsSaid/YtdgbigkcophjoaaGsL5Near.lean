/- loop.example/g01062/spec.l5Near as a plain function, and the contract of the program's: where the plain one has an answer, the program has it. Conditions: slices read as lists. -/
import Derived.Test.YtdgbigkcophjoaaChecked
import Derived.Test.YtdgbigkcophjoaaGoM
import Derived.Test.YtdgbigkcophjoaaGsL1In
import Derived.WalkKit
import Derived.WalkSpells
import Derived.WalkLawsBesides
import Derived.BigQuiet
import Derived.OwnWalk
import Derived.Deep.LoopGhost
import Derived.Deep.QuietTactic
import Derived.IntWalk
import Derived.Lib.QuietBelow
namespace Go.Proofs.Ytdgbigkcophjoaa.GsL5Near
set_option linter.unusedVariables false
set_option linter.unusedSimpArgs false
open Go.RowKit
open Go.Proofs.Ytdgbigkcophjoaa.Rowed Go.Proofs.Ytdgbigkcophjoaa.Turn Go.Proofs.Ytdgbigkcophjoaa.Aid Go.Proofs.Ytdgbigkcophjoaa.GoP Go.Proofs.Ytdgbigkcophjoaa.GoM

def P (gauge : Int) (measured : Int) (off : Int) : Option (Bool) :=
  letK (measured == 0) fun (t_2 : Bool) =>
  joinK (fun (t_12 : Bool) =>
  some t_12) fun jt_12 => iteK t_2 (appK jt_12 true) (letK (IntKind.i64.wrap (measured - off)) fun (t_7 : Int) =>
  letK (IntKind.i64.wrap (measured + off)) fun (t_10 : Int) =>
  Option.bind (Go.Proofs.Ytdgbigkcophjoaa.GsL1In.P gauge t_7 t_10) fun (t_11 : Bool) =>
  appK jt_12 t_11)

set_option maxRecDepth 100000 in
set_option maxHeartbeats 2000000 in
theorem C (gauge : Int) (measured : Int) (off : Int)   (w : World)   {r : Bool} (H : Hid (P gauge measured off = some r)) :
    Calls Try.prog 114 #[.int .i64 gauge, .int .i64 measured, .int .i64 off] w (Gives (.bool r) w) := by
  have HB := Lib.hid (Below.refl w.heap.size w)
  unfold P at H
  go_enter Try.func114, Try.ntmps114
  replace H := let_hid H
  obtain ⟨t_2, ht_2, H⟩ := H
  replace H := join_hid H
  cases t_2 with
  | false =>
    replace H := ite_f H
    replace H := let_hid H
    obtain ⟨t_7, ht_7, H⟩ := H
    replace H := let_hid H
    obtain ⟨t_10, ht_10, H⟩ := H
    replace H := bind_hid H
    obtain ⟨t_11, qt_11, H⟩ := H
    go_wp2_with fail
    go_at_call 67
    refine (Go.Proofs.Ytdgbigkcophjoaa.GsL1In.C (gauge) (t_7) (t_10)  _    qt_11).mono ?_
    rintro e_t_11 wt_11 ⟨rfl, bt_11⟩
    have HBwt_11 := Lib.hid (Below.step HB.out bt_11)
    clear bt_11
    replace H := app_hid H
    obtain rfl := ret_hid H
    go_wp2_with fail
    go_ret
    exact ⟨rfl, HBwt_11.out⟩
  | true =>
    replace H := ite_t H
    replace H := app_hid H
    obtain rfl := ret_hid H
    go_wp2_with fail
    go_ret
    exact ⟨rfl, HB.out⟩
end Go.Proofs.Ytdgbigkcophjoaa.GsL5Near
