/- loop.example/g01062/impl.BlendHue as a plain function, and the contract of the program's: where the plain one has an answer, the program has it. Conditions: slices read as lists. -/
import Derived.Test.YtpbbechgpgnpbaaChecked
import Derived.Test.YtpbbechgpgnpbaaGoM
import Derived.Test.YtpbbechgpgnpbaaGiHueDistance
import Derived.Test.YtpbbechgpgnpbaaGiUpwards
import Derived.Test.YtpbbechgpgnpbaaGiOnCircle
import Derived.WalkKit
import Derived.WalkSpells
import Derived.WalkLawsBesides
import Derived.BigQuiet
import Derived.OwnWalk
import Derived.Deep.LoopGhost
import Derived.Deep.QuietTactic
import Derived.IntWalk
import Derived.Lib.QuietBelow
namespace Go.Proofs.Ytpbbechgpgnpbaa.GiBlendHue
set_option linter.unusedVariables false
set_option linter.unusedSimpArgs false
open Go.RowKit
open Go.Proofs.Ytpbbechgpgnpbaa.Rowed Go.Proofs.Ytpbbechgpgnpbaa.Turn Go.Proofs.Ytpbbechgpgnpbaa.Aid Go.Proofs.Ytpbbechgpgnpbaa.GoP Go.Proofs.Ytpbbechgpgnpbaa.GoM

def j0 (a : Int) (s : Int) : Option (Int × Bool) :=
  letK (IntKind.i64.wrap (a + s)) fun (t_26 : Int) =>
  Option.bind (Go.Proofs.Ytpbbechgpgnpbaa.GiOnCircle.P t_26) fun (t_27 : Int) =>
  some (t_27, true)

def P (a : Int) (b : Int) : Option (Int × Bool) :=
  bind2 (Go.Proofs.Ytpbbechgpgnpbaa.GiHueDistance.P a b) fun (t_4a : Int) (t_4b : Bool) =>
  letK (!t_4b) fun (t_11 : Bool) =>
  iteK t_11
  (some (0, false))
  (letK (IntKind.i64.wrap (Int.tdiv t_4a 2)) fun (t_15 : Int) =>
  Option.bind (Go.Proofs.Ytpbbechgpgnpbaa.GiUpwards.P a b) fun (t_19 : Int) =>
  letK (decide (180 < t_19)) fun (t_20 : Bool) =>
  iteK t_20
  (letK (IntKind.i64.wrap (-t_15)) fun (t_22 : Int) =>
  j0 a (t_22))
  (j0 a (t_15)))

set_option maxRecDepth 100000 in
set_option maxHeartbeats 2000000 in
theorem C (a : Int) (b : Int)   (w : World)   {r0 : Int} {r1 : Bool} (H : Hid (P a b = some (r0, r1))) :
    Calls Try.prog 48 #[.int .i64 a, .int .i64 b] w (Gives (.tuple #[.int .i64 r0, .bool r1]) w) := by
  have HB := Lib.hid (Below.refl w.heap.size w)
  unfold P at H
  go_enter Try.func48, Try.ntmps48
  replace H := bind2_hid H
  obtain ⟨t_4a, t_4b, qt_4, H⟩ := H
  go_wp2_with fail
  go_at_call 25
  refine (Go.Proofs.Ytpbbechgpgnpbaa.GiHueDistance.C (a) (b)  _    qt_4).mono ?_
  rintro e_t_4 wt_4 ⟨rfl, bt_4⟩
  have HBwt_4 := Lib.hid (Below.step HB.out bt_4)
  clear bt_4
  cases t_4b with
  | false =>
    replace H := let_hid H
    obtain ⟨t_11, ht_11, H⟩ := H
    obtain rfl : t_11 = true := ht_11.symm
    replace H := ite_t H
    cases ret_hid H
    go_wp2_with fail
    go_ret2
    exact ⟨rfl, HBwt_4.out⟩
  | true =>
    replace H := let_hid H
    obtain ⟨t_11, ht_11, H⟩ := H
    obtain rfl : t_11 = false := ht_11.symm
    replace H := ite_f H
    replace H := let_hid H
    obtain ⟨t_15, ht_15, H⟩ := H
    replace H := bind_hid H
    obtain ⟨t_19, qt_19, H⟩ := H
    go_wp2_with fail
    go_at_call 91
    refine (Go.Proofs.Ytpbbechgpgnpbaa.GiUpwards.C (a) (b)  _    qt_19).mono ?_
    rintro e_t_19 wt_19 ⟨rfl, bt_19⟩
    have HBwt_19 := Lib.hid (Below.step HBwt_4.out bt_19)
    clear bt_19
    replace H := let_hid H
    obtain ⟨t_20, ht_20, H⟩ := H
    cases t_20 with
    | false =>
      replace H := ite_f H
      unfold j0 at H
      replace H := let_hid H
      obtain ⟨t_26, ht_26, H⟩ := H
      replace H := bind_hid H
      obtain ⟨t_27, qt_27, H⟩ := H
      go_wp2_with fail
      go_at_call 92
      refine (Go.Proofs.Ytpbbechgpgnpbaa.GiOnCircle.C (t_26)  _    qt_27).mono ?_
      rintro e_t_27 wt_27 ⟨rfl, bt_27⟩
      have HBwt_27 := Lib.hid (Below.step HBwt_19.out bt_27)
      clear bt_27
      cases ret_hid H
      go_wp2_with fail
      go_ret2
      exact ⟨rfl, HBwt_27.out⟩
    | true =>
      replace H := ite_t H
      replace H := let_hid H
      obtain ⟨t_22, ht_22, H⟩ := H
      unfold j0 at H
      replace H := let_hid H
      obtain ⟨t_26, ht_26, H⟩ := H
      replace H := bind_hid H
      obtain ⟨t_27, qt_27, H⟩ := H
      go_wp2_with fail
      go_at_call 92
      refine (Go.Proofs.Ytpbbechgpgnpbaa.GiOnCircle.C (t_26)  _    qt_27).mono ?_
      rintro e_t_27 wt_27 ⟨rfl, bt_27⟩
      have HBwt_27 := Lib.hid (Below.step HBwt_19.out bt_27)
      clear bt_27
      cases ret_hid H
      go_wp2_with fail
      go_ret2
      exact ⟨rfl, HBwt_27.out⟩
end Go.Proofs.Ytpbbechgpgnpbaa.GiBlendHue
