/- loop.example/g01062/impl.onCircle as a plain function, and the contract of the program's: where the plain one has an answer, the program has it. Conditions: slices read as lists. -/
import Derived.Test.YtpbbechgpgnpbaaDoorChecked
import Derived.Test.YtpbbechgpgnpbaaDoorGoM
import Derived.WalkKit
import Derived.WalkSpells
import Derived.WalkLawsBesides
import Derived.BigQuiet
import Derived.OwnWalk
import Derived.Deep.LoopGhost
import Derived.Deep.QuietTactic
import Derived.IntWalk
import Derived.Lib.QuietBelow
namespace Go.Proofs.YtpbbechgpgnpbaaDoor.GiOnCircle
set_option linter.unusedVariables false
set_option linter.unusedSimpArgs false
open Go.RowKit
open Go.Proofs.YtpbbechgpgnpbaaDoor.Rowed Go.Proofs.YtpbbechgpgnpbaaDoor.Turn Go.Proofs.YtpbbechgpgnpbaaDoor.Aid Go.Proofs.YtpbbechgpgnpbaaDoor.GoP Go.Proofs.YtpbbechgpgnpbaaDoor.GoM

def P (n_0 : Int) : Option (Int) :=
  letK (IntKind.i64.wrap (n_0 + 360)) fun (t_2 : Int) =>
  letK (Int.tmod t_2 360) fun (t_3 : Int) =>
  some t_3

set_option maxRecDepth 100000 in
set_option maxHeartbeats 2000000 in
theorem C (n_0 : Int)   (w : World)   {r : Int} (H : Hid (P n_0 = some r)) :
    Calls Tryd.prog 34 #[.int .i64 n_0] w (Gives (.int .i64 r) w) := by
  have HB := Lib.hid (Below.refl w.heap.size w)
  unfold P at H
  go_enter Tryd.func34, Tryd.ntmps34
  replace H := let_hid H
  obtain ⟨t_2, ht_2, H⟩ := H
  replace H := let_hid H
  obtain ⟨t_3, ht_3, H⟩ := H
  obtain rfl := ret_hid H
  go_wp2_with fail
  go_ret
  exact ⟨rfl, HB.out⟩

set_option maxRecDepth 100000 in
set_option maxHeartbeats 2000000 in
theorem C0 (n_0 : Int)   (w : World)   {r : Int} (H : Hid (P n_0 = some r)) :
    Calls Tryd.prog 34 #[.int .i64 n_0] w (fun e w'' => e = .returned (.int .i64 r) ∧ w'' = w) := by
  have HB := Lib.hid (Below.refl w.heap.size w)
  unfold P at H
  go_enter Tryd.func34, Tryd.ntmps34
  replace H := let_hid H
  obtain ⟨t_2, ht_2, H⟩ := H
  replace H := let_hid H
  obtain ⟨t_3, ht_3, H⟩ := H
  obtain rfl := ret_hid H
  go_wp2_with fail
  go_ret
  exact ⟨rfl, rfl⟩
end Go.Proofs.YtpbbechgpgnpbaaDoor.GiOnCircle
