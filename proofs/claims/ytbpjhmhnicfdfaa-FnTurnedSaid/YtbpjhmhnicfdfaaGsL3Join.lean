/- loop.example/g01062/spec.l3Join as a plain function, and the contract of the program's: where the plain one has an answer, the program has it. Conditions: slices read as lists. -/
import Derived.Test.YtbpjhmhnicfdfaaChecked
import Derived.Test.YtbpjhmhnicfdfaaGoM
import Derived.WalkKit
import Derived.WalkSpells
import Derived.WalkLawsBesides
import Derived.BigQuiet
import Derived.OwnWalk
import Derived.Deep.LoopGhost
import Derived.Deep.QuietTactic
import Derived.IntWalk
import Derived.Lib.QuietBelow
namespace Go.Proofs.Ytbpjhmhnicfdfaa.GsL3Join
set_option linter.unusedVariables false
set_option linter.unusedSimpArgs false
open Go.RowKit
open Go.Proofs.Ytbpjhmhnicfdfaa.Rowed Go.Proofs.Ytbpjhmhnicfdfaa.Turn Go.Proofs.Ytbpjhmhnicfdfaa.Aid Go.Proofs.Ytbpjhmhnicfdfaa.GoP Go.Proofs.Ytbpjhmhnicfdfaa.GoM

def j0 (a : Int) (b : Int) (s : Int) : Option (Int) :=
  letK (IntKind.i64.wrap (Int.tdiv a 4)) fun (t_10 : Int) =>
  letK (IntKind.i64.wrap (Int.tdiv b 4)) fun (t_12 : Int) =>
  letK (IntKind.i64.wrap (t_10 + t_12)) fun (t_13 : Int) =>
  letK (Int.tmod t_13 2) fun (t_14 : Int) =>
  letK (IntKind.i64.wrap (4 * t_14)) fun (t_15 : Int) =>
  letK (Int.tmod b 4) fun (t_17 : Int) =>
  letK (IntKind.i64.wrap (t_17 + s)) fun (t_19 : Int) =>
  letK (Int.tmod t_19 4) fun (t_20 : Int) =>
  letK (IntKind.i64.wrap (t_15 + t_20)) fun (t_21 : Int) =>
  some t_21

def P (a : Int) (b : Int) : Option (Int) :=
  letK (Int.tmod a 4) fun (t_2 : Int) =>
  letK (decide (4 ≤ b)) fun (t_5 : Bool) =>
  iteK t_5
  (letK (IntKind.i64.wrap (4 - t_2)) fun (t_7 : Int) =>
  j0 a b (t_7))
  (j0 a b (t_2))

set_option maxRecDepth 100000 in
set_option maxHeartbeats 2000000 in
theorem C (a : Int) (b : Int)   (w : World)   {r : Int} (H : Hid (P a b = some r)) :
    Calls Try.prog 49 #[.int .i64 a, .int .i64 b] w (Gives (.int .i64 r) w) := by
  have HB := Lib.hid (Below.refl w.heap.size w)
  unfold P at H
  go_enter Try.func49, Try.ntmps49
  replace H := let_hid H
  obtain ⟨t_2, ht_2, H⟩ := H
  replace H := let_hid H
  obtain ⟨t_5, ht_5, H⟩ := H
  cases t_5 with
  | false =>
    replace H := ite_f H
    unfold j0 at H
    replace H := let_hid H
    obtain ⟨t_10, ht_10, H⟩ := H
    replace H := let_hid H
    obtain ⟨t_12, ht_12, H⟩ := H
    replace H := let_hid H
    obtain ⟨t_13, ht_13, H⟩ := H
    replace H := let_hid H
    obtain ⟨t_14, ht_14, H⟩ := H
    replace H := let_hid H
    obtain ⟨t_15, ht_15, H⟩ := H
    replace H := let_hid H
    obtain ⟨t_17, ht_17, H⟩ := H
    replace H := let_hid H
    obtain ⟨t_19, ht_19, H⟩ := H
    replace H := let_hid H
    obtain ⟨t_20, ht_20, H⟩ := H
    replace H := let_hid H
    obtain ⟨t_21, ht_21, H⟩ := H
    obtain rfl := ret_hid H
    go_wp2_with fail
    go_ret
    exact ⟨rfl, HB.out⟩
  | true =>
    replace H := ite_t H
    replace H := let_hid H
    obtain ⟨t_7, ht_7, H⟩ := H
    unfold j0 at H
    replace H := let_hid H
    obtain ⟨t_10, ht_10, H⟩ := H
    replace H := let_hid H
    obtain ⟨t_12, ht_12, H⟩ := H
    replace H := let_hid H
    obtain ⟨t_13, ht_13, H⟩ := H
    replace H := let_hid H
    obtain ⟨t_14, ht_14, H⟩ := H
    replace H := let_hid H
    obtain ⟨t_15, ht_15, H⟩ := H
    replace H := let_hid H
    obtain ⟨t_17, ht_17, H⟩ := H
    replace H := let_hid H
    obtain ⟨t_19, ht_19, H⟩ := H
    replace H := let_hid H
    obtain ⟨t_20, ht_20, H⟩ := H
    replace H := let_hid H
    obtain ⟨t_21, ht_21, H⟩ := H
    obtain rfl := ret_hid H
    go_wp2_with fail
    go_ret
    exact ⟨rfl, HB.out⟩

set_option maxRecDepth 100000 in
set_option maxHeartbeats 2000000 in
theorem C0 (a : Int) (b : Int)   (w : World)   {r : Int} (H : Hid (P a b = some r)) :
    Calls Try.prog 49 #[.int .i64 a, .int .i64 b] w (fun e w'' => e = .returned (.int .i64 r) ∧ w'' = w) := by
  have HB := Lib.hid (Below.refl w.heap.size w)
  unfold P at H
  go_enter Try.func49, Try.ntmps49
  replace H := let_hid H
  obtain ⟨t_2, ht_2, H⟩ := H
  replace H := let_hid H
  obtain ⟨t_5, ht_5, H⟩ := H
  cases t_5 with
  | false =>
    replace H := ite_f H
    unfold j0 at H
    replace H := let_hid H
    obtain ⟨t_10, ht_10, H⟩ := H
    replace H := let_hid H
    obtain ⟨t_12, ht_12, H⟩ := H
    replace H := let_hid H
    obtain ⟨t_13, ht_13, H⟩ := H
    replace H := let_hid H
    obtain ⟨t_14, ht_14, H⟩ := H
    replace H := let_hid H
    obtain ⟨t_15, ht_15, H⟩ := H
    replace H := let_hid H
    obtain ⟨t_17, ht_17, H⟩ := H
    replace H := let_hid H
    obtain ⟨t_19, ht_19, H⟩ := H
    replace H := let_hid H
    obtain ⟨t_20, ht_20, H⟩ := H
    replace H := let_hid H
    obtain ⟨t_21, ht_21, H⟩ := H
    obtain rfl := ret_hid H
    go_wp2_with fail
    go_ret
    exact ⟨rfl, rfl⟩
  | true =>
    replace H := ite_t H
    replace H := let_hid H
    obtain ⟨t_7, ht_7, H⟩ := H
    unfold j0 at H
    replace H := let_hid H
    obtain ⟨t_10, ht_10, H⟩ := H
    replace H := let_hid H
    obtain ⟨t_12, ht_12, H⟩ := H
    replace H := let_hid H
    obtain ⟨t_13, ht_13, H⟩ := H
    replace H := let_hid H
    obtain ⟨t_14, ht_14, H⟩ := H
    replace H := let_hid H
    obtain ⟨t_15, ht_15, H⟩ := H
    replace H := let_hid H
    obtain ⟨t_17, ht_17, H⟩ := H
    replace H := let_hid H
    obtain ⟨t_19, ht_19, H⟩ := H
    replace H := let_hid H
    obtain ⟨t_20, ht_20, H⟩ := H
    replace H := let_hid H
    obtain ⟨t_21, ht_21, H⟩ := H
    obtain rfl := ret_hid H
    go_wp2_with fail
    go_ret
    exact ⟨rfl, rfl⟩
end Go.Proofs.Ytbpjhmhnicfdfaa.GsL3Join
