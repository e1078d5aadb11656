/- loop.example/g01062/spec.HueDistance as a plain function, and the contract of the program's: where the plain one has an answer, the program has it. Conditions: slices read as lists. -/
import Derived.Test.YtpbbechgpgnpbaaDoorChecked
import Derived.Test.YtpbbechgpgnpbaaDoorGoM
import Derived.Test.YtpbbechgpgnpbaaDoorGsL7Hue
import Derived.Test.YtpbbechgpgnpbaaDoorGsL7Far
import Derived.WalkKit
import Derived.WalkSpells
import Derived.WalkLawsBesides
import Derived.BigQuiet
import Derived.OwnWalk
import Derived.Deep.LoopGhost
import Derived.Deep.QuietTactic
import Derived.IntWalk
import Derived.Lib.QuietBelow
namespace Go.Proofs.YtpbbechgpgnpbaaDoor.GsHueDistance
set_option linter.unusedVariables false
set_option linter.unusedSimpArgs false
open Go.RowKit
open Go.Proofs.YtpbbechgpgnpbaaDoor.Rowed Go.Proofs.YtpbbechgpgnpbaaDoor.Turn Go.Proofs.YtpbbechgpgnpbaaDoor.Aid Go.Proofs.YtpbbechgpgnpbaaDoor.GoP Go.Proofs.YtpbbechgpgnpbaaDoor.GoM

def P (a : Int) (b : Int) : Option (Int × Bool) :=
  Option.bind (Go.Proofs.YtpbbechgpgnpbaaDoor.GsL7Hue.P a) fun (t_3 : Bool) =>
  letK (!t_3) fun (t_4 : Bool) =>
  joinK (fun (t_9 : Bool) =>
  iteK t_9
  (some (0, false))
  (Option.bind (Go.Proofs.YtpbbechgpgnpbaaDoor.GsL7Far.P a b) fun (t_14 : Int) =>
  some (t_14, true))) fun jt_9 => iteK t_4 (appK jt_9 true) (Option.bind (Go.Proofs.YtpbbechgpgnpbaaDoor.GsL7Hue.P b) fun (t_7 : Bool) =>
  letK (!t_7) fun (t_8 : Bool) =>
  appK jt_9 t_8)

set_option maxRecDepth 100000 in
set_option maxHeartbeats 2000000 in
theorem C (a : Int) (b : Int)   (w : World)   {r0 : Int} {r1 : Bool} (H : Hid (P a b = some (r0, r1))) :
    Calls Tryd.prog 12 #[.int .i64 a, .int .i64 b] w (Gives (.tuple #[.int .i64 r0, .bool r1]) w) := by
  have HB := Lib.hid (Below.refl w.heap.size w)
  unfold P at H
  go_enter Tryd.func12, Tryd.ntmps12
  replace H := bind_hid H
  obtain ⟨t_3, qt_3, H⟩ := H
  go_wp2_with fail
  go_at_call 31
  refine (Go.Proofs.YtpbbechgpgnpbaaDoor.GsL7Hue.C (a)  _    qt_3).mono ?_
  rintro e_t_3 wt_3 ⟨rfl, bt_3⟩
  have HBwt_3 := Lib.hid (Below.step HB.out bt_3)
  clear bt_3
  cases t_3 with
  | false =>
    replace H := let_hid H
    obtain ⟨t_4, ht_4, H⟩ := H
    obtain rfl : t_4 = true := ht_4.symm
    replace H := join_hid H
    replace H := ite_t H
    replace H := app_hid H
    replace H := ite_t H
    cases ret_hid H
    go_wp2_with fail
    go_ret2
    exact ⟨rfl, HBwt_3.out⟩
  | true =>
    replace H := let_hid H
    obtain ⟨t_4, ht_4, H⟩ := H
    obtain rfl : t_4 = false := ht_4.symm
    replace H := join_hid H
    replace H := ite_f H
    replace H := bind_hid H
    obtain ⟨t_7, qt_7, H⟩ := H
    go_wp2_with fail
    go_at_call 31
    refine (Go.Proofs.YtpbbechgpgnpbaaDoor.GsL7Hue.C (b)  _    qt_7).mono ?_
    rintro e_t_7 wt_7 ⟨rfl, bt_7⟩
    have HBwt_7 := Lib.hid (Below.step HBwt_3.out bt_7)
    clear bt_7
    cases t_7 with
    | false =>
      replace H := let_hid H
      obtain ⟨t_8, ht_8, H⟩ := H
      obtain rfl : t_8 = true := ht_8.symm
      replace H := app_hid H
      replace H := ite_t H
      cases ret_hid H
      go_wp2_with fail
      go_ret2
      exact ⟨rfl, HBwt_7.out⟩
    | true =>
      replace H := let_hid H
      obtain ⟨t_8, ht_8, H⟩ := H
      obtain rfl : t_8 = false := ht_8.symm
      replace H := app_hid H
      replace H := ite_f H
      replace H := bind_hid H
      obtain ⟨t_14, qt_14, H⟩ := H
      go_wp2_with fail
      go_at_call 32
      refine (Go.Proofs.YtpbbechgpgnpbaaDoor.GsL7Far.C (a) (b)  _    qt_14).mono ?_
      rintro e_t_14 wt_14 ⟨rfl, bt_14⟩
      have HBwt_14 := Lib.hid (Below.step HBwt_7.out bt_14)
      clear bt_14
      cases ret_hid H
      go_wp2_with fail
      go_ret2
      exact ⟨rfl, HBwt_14.out⟩
end Go.Proofs.YtpbbechgpgnpbaaDoor.GsHueDistance
