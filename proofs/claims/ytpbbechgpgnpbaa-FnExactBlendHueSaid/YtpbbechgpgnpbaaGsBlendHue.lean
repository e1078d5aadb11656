/- loop.example/g01062/spec.BlendHue as a plain function, and the contract of the program's: where the plain one has an answer, the program has it. Conditions: slices read as lists. -/
import Derived.Test.YtpbbechgpgnpbaaChecked
import Derived.Test.YtpbbechgpgnpbaaGoM
import Derived.Test.YtpbbechgpgnpbaaGsL7Hue
import Derived.WalkKit
import Derived.WalkSpells
import Derived.WalkLawsBesides
import Derived.BigQuiet
import Derived.OwnWalk
import Derived.Deep.LoopGhost
import Derived.Deep.QuietTactic
import Derived.IntWalk
import Derived.Lib.QuietBelow
namespace Go.Proofs.Ytpbbechgpgnpbaa.GsBlendHue
set_option linter.unusedVariables false
set_option linter.unusedSimpArgs false
open Go.RowKit
open Go.Proofs.Ytpbbechgpgnpbaa.Rowed Go.Proofs.Ytpbbechgpgnpbaa.Turn Go.Proofs.Ytpbbechgpgnpbaa.Aid Go.Proofs.Ytpbbechgpgnpbaa.GoP Go.Proofs.Ytpbbechgpgnpbaa.GoM

def P (a : Int) (b : Int) : Option (Int × Bool) :=
  Option.bind (Go.Proofs.Ytpbbechgpgnpbaa.GsL7Hue.P a) fun (t_3 : Bool) =>
  letK (!t_3) fun (t_4 : Bool) =>
  joinK (fun (t_9 : Bool) =>
  iteK t_9
  (some (0, false))
  (letK (IntKind.i64.wrap (b - a)) fun (t_14 : Int) =>
  letK (IntKind.i64.wrap (t_14 + 360)) fun (t_15 : Int) =>
  letK (Int.tmod t_15 360) fun (t_16 : Int) =>
  letK (decide (t_16 ≤ 180)) fun (t_19 : Bool) =>
  iteK t_19
  (letK (IntKind.i64.wrap (Int.tdiv t_16 2)) fun (t_22 : Int) =>
  letK (IntKind.i64.wrap (a + t_22)) fun (t_23 : Int) =>
  letK (Int.tmod t_23 360) fun (t_24 : Int) =>
  some (t_24, true))
  (letK (IntKind.i64.wrap (a + 360)) fun (t_28 : Int) =>
  letK (IntKind.i64.wrap (360 - t_16)) fun (t_30 : Int) =>
  letK (IntKind.i64.wrap (Int.tdiv t_30 2)) fun (t_31 : Int) =>
  letK (IntKind.i64.wrap (t_28 - t_31)) fun (t_32 : Int) =>
  letK (Int.tmod t_32 360) fun (t_33 : Int) =>
  some (t_33, true)))) fun jt_9 => iteK t_4 (appK jt_9 true) (Option.bind (Go.Proofs.Ytpbbechgpgnpbaa.GsL7Hue.P b) fun (t_7 : Bool) =>
  letK (!t_7) fun (t_8 : Bool) =>
  appK jt_9 t_8)

set_option maxRecDepth 100000 in
set_option maxHeartbeats 2000000 in
theorem C (a : Int) (b : Int)   (w : World)   {r0 : Int} {r1 : Bool} (H : Hid (P a b = some (r0, r1))) :
    Calls Try.prog 47 #[.int .i64 a, .int .i64 b] w (Gives (.tuple #[.int .i64 r0, .bool r1]) w) := by
  have HB := Lib.hid (Below.refl w.heap.size w)
  unfold P at H
  go_enter Try.func47, Try.ntmps47
  replace H := bind_hid H
  obtain ⟨t_3, qt_3, H⟩ := H
  go_wp2_with fail
  go_at_call 64
  refine (Go.Proofs.Ytpbbechgpgnpbaa.GsL7Hue.C (a)  _    qt_3).mono ?_
  rintro e_t_3 wt_3 ⟨rfl, bt_3⟩
  have HBwt_3 := Lib.hid (Below.step HB.out bt_3)
  clear bt_3
  cases t_3 with
  | false =>
    replace H := let_hid H
    obtain ⟨t_4, ht_4, H⟩ := H
    obtain rfl : t_4 = true := ht_4.symm
    replace H := join_hid H
    replace H := ite_t H
    replace H := app_hid H
    replace H := ite_t H
    cases ret_hid H
    go_wp2_with fail
    go_ret2
    exact ⟨rfl, HBwt_3.out⟩
  | true =>
    replace H := let_hid H
    obtain ⟨t_4, ht_4, H⟩ := H
    obtain rfl : t_4 = false := ht_4.symm
    replace H := join_hid H
    replace H := ite_f H
    replace H := bind_hid H
    obtain ⟨t_7, qt_7, H⟩ := H
    go_wp2_with fail
    go_at_call 64
    refine (Go.Proofs.Ytpbbechgpgnpbaa.GsL7Hue.C (b)  _    qt_7).mono ?_
    rintro e_t_7 wt_7 ⟨rfl, bt_7⟩
    have HBwt_7 := Lib.hid (Below.step HBwt_3.out bt_7)
    clear bt_7
    cases t_7 with
    | false =>
      replace H := let_hid H
      obtain ⟨t_8, ht_8, H⟩ := H
      obtain rfl : t_8 = true := ht_8.symm
      replace H := app_hid H
      replace H := ite_t H
      cases ret_hid H
      go_wp2_with fail
      go_ret2
      exact ⟨rfl, HBwt_7.out⟩
    | true =>
      replace H := let_hid H
      obtain ⟨t_8, ht_8, H⟩ := H
      obtain rfl : t_8 = false := ht_8.symm
      replace H := app_hid H
      replace H := ite_f H
      replace H := let_hid H
      obtain ⟨t_14, ht_14, H⟩ := H
      replace H := let_hid H
      obtain ⟨t_15, ht_15, H⟩ := H
      replace H := let_hid H
      obtain ⟨t_16, ht_16, H⟩ := H
      replace H := let_hid H
      obtain ⟨t_19, ht_19, H⟩ := H
      cases t_19 with
      | false =>
        replace H := ite_f H
        replace H := let_hid H
        obtain ⟨t_28, ht_28, H⟩ := H
        replace H := let_hid H
        obtain ⟨t_30, ht_30, H⟩ := H
        replace H := let_hid H
        obtain ⟨t_31, ht_31, H⟩ := H
        replace H := let_hid H
        obtain ⟨t_32, ht_32, H⟩ := H
        replace H := let_hid H
        obtain ⟨t_33, ht_33, H⟩ := H
        cases ret_hid H
        go_wp2_with fail
        go_ret2
        exact ⟨rfl, HBwt_7.out⟩
      | true =>
        replace H := ite_t H
        replace H := let_hid H
        obtain ⟨t_22, ht_22, H⟩ := H
        replace H := let_hid H
        obtain ⟨t_23, ht_23, H⟩ := H
        replace H := let_hid H
        obtain ⟨t_24, ht_24, H⟩ := H
        cases ret_hid H
        go_wp2_with fail
        go_ret2
        exact ⟨rfl, HBwt_7.out⟩
end Go.Proofs.Ytpbbechgpgnpbaa.GsBlendHue
