/- loop.example/g01062/impl.JoinPositions as a plain function, and the contract of the program's: where the plain one has an answer, the program has it. Conditions: slices read as lists. -/
import Derived.Test.YtbpjhmhnicfdfaaChecked
import Derived.Test.YtbpjhmhnicfdfaaGoM
import Derived.Test.YtbpjhmhnicfdfaaGiIsPosition
import Derived.WalkKit
import Derived.WalkSpells
import Derived.WalkLawsBesides
import Derived.BigQuiet
import Derived.OwnWalk
import Derived.Deep.LoopGhost
import Derived.Deep.QuietTactic
import Derived.IntWalk
import Derived.Lib.QuietBelow
namespace Go.Proofs.Ytbpjhmhnicfdfaa.GiJoinPositions
set_option linter.unusedVariables false
set_option linter.unusedSimpArgs false
open Go.RowKit
open Go.Proofs.Ytbpjhmhnicfdfaa.Rowed Go.Proofs.Ytbpjhmhnicfdfaa.Turn Go.Proofs.Ytbpjhmhnicfdfaa.Aid Go.Proofs.Ytbpjhmhnicfdfaa.GoP Go.Proofs.Ytbpjhmhnicfdfaa.GoM

def j1  (s : Int) : Option (Int × Bool) :=
  some (s, true)

def j0 (a : Int) (b : Int) (s : Int) : Option (Int × Bool) :=
  letK (Int.tmod b 4) fun (t_22 : Int) =>
  letK (IntKind.i64.wrap (s + t_22)) fun (t_23 : Int) =>
  letK (Int.tmod t_23 4) fun (t_24 : Int) =>
  letK (decide (4 ≤ a)) fun (t_27 : Bool) =>
  letK (decide (4 ≤ b)) fun (t_29 : Bool) =>
  letK (t_27 != t_29) fun (t_30 : Bool) =>
  iteK t_30
  (letK (IntKind.i64.wrap (t_24 + 4)) fun (t_32 : Int) =>
  j1  (t_32))
  (j1  (t_24))

def P (a : Int) (b : Int) : Option (Int × Bool) :=
  Option.bind (Go.Proofs.Ytbpjhmhnicfdfaa.GiIsPosition.P a) fun (t_3 : Bool) =>
  letK (!t_3) fun (t_4 : Bool) =>
  joinK (fun (t_9 : Bool) =>
  iteK t_9
  (some (0, false))
  (letK (Int.tmod a 4) fun (t_13 : Int) =>
  letK (decide (4 ≤ b)) fun (t_16 : Bool) =>
  iteK t_16
  (letK (IntKind.i64.wrap (4 - t_13)) fun (t_18 : Int) =>
  j0 a b (t_18))
  (j0 a b (t_13)))) fun jt_9 => iteK t_4 (appK jt_9 true) (Option.bind (Go.Proofs.Ytbpjhmhnicfdfaa.GiIsPosition.P b) fun (t_7 : Bool) =>
  letK (!t_7) fun (t_8 : Bool) =>
  appK jt_9 t_8)

set_option maxRecDepth 100000 in
set_option maxHeartbeats 2000000 in
theorem C (a : Int) (b : Int)   (w : World)   {r0 : Int} {r1 : Bool} (H : Hid (P a b = some (r0, r1))) :
    Calls Try.prog 21 #[.int .i64 a, .int .i64 b] w (Gives (.tuple #[.int .i64 r0, .bool r1]) w) := by
  have HB := Lib.hid (Below.refl w.heap.size w)
  unfold P at H
  go_enter Try.func21, Try.ntmps21
  replace H := bind_hid H
  obtain ⟨t_3, qt_3, H⟩ := H
  go_wp2_with fail
  go_at_call 47
  refine (Go.Proofs.Ytbpjhmhnicfdfaa.GiIsPosition.C (a)  _    qt_3).mono ?_
  rintro e_t_3 wt_3 ⟨rfl, bt_3⟩
  have HBwt_3 := Lib.hid (Below.step HB.out bt_3)
  clear bt_3
  cases t_3 with
  | false =>
    replace H := let_hid H
    obtain ⟨t_4, ht_4, H⟩ := H
    obtain rfl : t_4 = true := ht_4.symm
    replace H := join_hid H
    replace H := ite_t H
    replace H := app_hid H
    replace H := ite_t H
    cases ret_hid H
    go_wp2_with fail
    go_ret2
    exact ⟨rfl, HBwt_3.out⟩
  | true =>
    replace H := let_hid H
    obtain ⟨t_4, ht_4, H⟩ := H
    obtain rfl : t_4 = false := ht_4.symm
    replace H := join_hid H
    replace H := ite_f H
    replace H := bind_hid H
    obtain ⟨t_7, qt_7, H⟩ := H
    go_wp2_with fail
    go_at_call 47
    refine (Go.Proofs.Ytbpjhmhnicfdfaa.GiIsPosition.C (b)  _    qt_7).mono ?_
    rintro e_t_7 wt_7 ⟨rfl, bt_7⟩
    have HBwt_7 := Lib.hid (Below.step HBwt_3.out bt_7)
    clear bt_7
    cases t_7 with
    | false =>
      replace H := let_hid H
      obtain ⟨t_8, ht_8, H⟩ := H
      obtain rfl : t_8 = true := ht_8.symm
      replace H := app_hid H
      replace H := ite_t H
      cases ret_hid H
      go_wp2_with fail
      go_ret2
      exact ⟨rfl, HBwt_7.out⟩
    | true =>
      replace H := let_hid H
      obtain ⟨t_8, ht_8, H⟩ := H
      obtain rfl : t_8 = false := ht_8.symm
      replace H := app_hid H
      replace H := ite_f H
      replace H := let_hid H
      obtain ⟨t_13, ht_13, H⟩ := H
      replace H := let_hid H
      obtain ⟨t_16, ht_16, H⟩ := H
      cases t_16 with
      | false =>
        replace H := ite_f H
        unfold j0 at H
        replace H := let_hid H
        obtain ⟨t_22, ht_22, H⟩ := H
        replace H := let_hid H
        obtain ⟨t_23, ht_23, H⟩ := H
        replace H := let_hid H
        obtain ⟨t_24, ht_24, H⟩ := H
        replace H := let_hid H
        obtain ⟨t_27, ht_27, H⟩ := H
        replace H := let_hid H
        obtain ⟨t_29, ht_29, H⟩ := H
        obtain rfl := ht_16.symm.trans ht_29
        cases t_27 with
        | false =>
          replace H := let_hid H
          obtain ⟨t_30, ht_30, H⟩ := H
          obtain rfl : t_30 = false := ht_30.symm
          replace H := ite_f H
          unfold j1 at H
          cases ret_hid H
          go_wp2_with fail
          go_ret2
          exact ⟨rfl, HBwt_7.out⟩
        | true =>
          replace H := let_hid H
          obtain ⟨t_30, ht_30, H⟩ := H
          obtain rfl : t_30 = true := ht_30.symm
          replace H := ite_t H
          replace H := let_hid H
          obtain ⟨t_32, ht_32, H⟩ := H
          unfold j1 at H
          cases ret_hid H
          go_wp2_with fail
          go_ret2
          exact ⟨rfl, HBwt_7.out⟩
      | true =>
        replace H := ite_t H
        replace H := let_hid H
        obtain ⟨t_18, ht_18, H⟩ := H
        unfold j0 at H
        replace H := let_hid H
        obtain ⟨t_22, ht_22, H⟩ := H
        replace H := let_hid H
        obtain ⟨t_23, ht_23, H⟩ := H
        replace H := let_hid H
        obtain ⟨t_24, ht_24, H⟩ := H
        replace H := let_hid H
        obtain ⟨t_27, ht_27, H⟩ := H
        replace H := let_hid H
        obtain ⟨t_29, ht_29, H⟩ := H
        obtain rfl := ht_16.symm.trans ht_29
        cases t_27 with
        | false =>
          replace H := let_hid H
          obtain ⟨t_30, ht_30, H⟩ := H
          obtain rfl : t_30 = true := ht_30.symm
          replace H := ite_t H
          replace H := let_hid H
          obtain ⟨t_32, ht_32, H⟩ := H
          unfold j1 at H
          cases ret_hid H
          go_wp2_with fail
          go_ret2
          exact ⟨rfl, HBwt_7.out⟩
        | true =>
          replace H := let_hid H
          obtain ⟨t_30, ht_30, H⟩ := H
          obtain rfl : t_30 = false := ht_30.symm
          replace H := ite_f H
          unfold j1 at H
          cases ret_hid H
          go_wp2_with fail
          go_ret2
          exact ⟨rfl, HBwt_7.out⟩
end Go.Proofs.Ytbpjhmhnicfdfaa.GiJoinPositions
