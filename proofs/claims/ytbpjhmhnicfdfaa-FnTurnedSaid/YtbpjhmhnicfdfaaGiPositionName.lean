/- loop.example/g01062/impl.PositionName as a plain function, and the contract of the program's: where the plain one has an answer, the program has it. Conditions: slices read as lists. -/
import Derived.Test.YtbpjhmhnicfdfaaChecked
import Derived.Test.YtbpjhmhnicfdfaaGoM
import Derived.Test.YtbpjhmhnicfdfaaGiIsPosition
import Derived.WalkKit
import Derived.WalkSpells
import Derived.WalkLawsBesides
import Derived.BigQuiet
import Derived.OwnWalk
import Derived.Deep.LoopGhost
import Derived.Deep.QuietTactic
import Derived.IntWalk
import Derived.Lib.QuietBelow
namespace Go.Proofs.Ytbpjhmhnicfdfaa.GiPositionName
set_option linter.unusedVariables false
set_option linter.unusedSimpArgs false
open Go.RowKit
open Go.Proofs.Ytbpjhmhnicfdfaa.Rowed Go.Proofs.Ytbpjhmhnicfdfaa.Turn Go.Proofs.Ytbpjhmhnicfdfaa.Aid Go.Proofs.Ytbpjhmhnicfdfaa.GoP Go.Proofs.Ytbpjhmhnicfdfaa.GoM

def j0  (s : ByteArray) : Option (ByteArray × Bool) :=
  some (s, true)

def P (a : Int) : Option (ByteArray × Bool) :=
  Option.bind (Go.Proofs.Ytbpjhmhnicfdfaa.GiIsPosition.P a) fun (t_3 : Bool) =>
  letK (!t_3) fun (t_4 : Bool) =>
  iteK t_4
  (some ((⟨#[]⟩ : ByteArray), false))
  (letK (Int.tmod a 4) fun (t_9 : Int) =>
  Option.bind (idx [(⟨#[117, 112, 114, 105, 103, 104, 116]⟩ : ByteArray), (⟨#[114, 105, 103, 104, 116]⟩ : ByteArray), (⟨#[105, 110, 118, 101, 114, 116, 101, 100]⟩ : ByteArray), (⟨#[108, 101, 102, 116]⟩ : ByteArray)] t_9) fun (yt_10 : ByteArray) =>
  letK (decide (4 ≤ a)) fun (t_13 : Bool) =>
  iteK t_13
  (guardK ((⟨#[114, 101, 118, 101, 114, 115, 101, 100, 32]⟩ : ByteArray).size + yt_10.size ≤ maxLen) <|
  letK ((⟨#[114, 101, 118, 101, 114, 115, 101, 100, 32]⟩ : ByteArray) ++ yt_10) fun (t_15 : ByteArray) =>
  j0  (t_15))
  (j0  (yt_10)))

set_option maxRecDepth 100000 in
set_option maxHeartbeats 2000000 in
theorem C (a : Int)   (w : World)   {r0 : ByteArray} {r1 : Bool} (H : Hid (P a = some (r0, r1))) :
    Calls Try.prog 28 #[.int .i64 a] w (Gives (.tuple #[.string r0, .bool r1]) w) := by
  have HB := Lib.hid (Below.refl w.heap.size w)
  unfold P at H
  go_enter Try.func28, Try.ntmps28
  replace H := bind_hid H
  obtain ⟨t_3, qt_3, H⟩ := H
  go_wp2_with fail
  go_at_call 47
  refine (Go.Proofs.Ytbpjhmhnicfdfaa.GiIsPosition.C (a)  _    qt_3).mono ?_
  rintro e_t_3 wt_3 ⟨rfl, bt_3⟩
  have HBwt_3 := Lib.hid (Below.step HB.out bt_3)
  clear bt_3
  cases t_3 with
  | false =>
    replace H := let_hid H
    obtain ⟨t_4, ht_4, H⟩ := H
    obtain rfl : t_4 = true := ht_4.symm
    replace H := ite_t H
    cases ret_hid H
    go_wp2_with fail
    go_ret2
    exact ⟨rfl, HBwt_3.out⟩
  | true =>
    replace H := let_hid H
    obtain ⟨t_4, ht_4, H⟩ := H
    obtain rfl : t_4 = false := ht_4.symm
    replace H := ite_f H
    replace H := let_hid H
    obtain ⟨t_9, ht_9, H⟩ := H
    replace H := idx_hid H
    obtain ⟨nt_10, yt_10, et_10, lt_10, gt_10, H⟩ := H
    subst et_10
    have it_10 : ∀ w, (Instr.index 56 (.agg #[.string (⟨#[117, 112, 114, 105, 103, 104, 116]⟩ : ByteArray), .string (⟨#[114, 105, 103, 104, 116]⟩ : ByteArray), .string (⟨#[105, 110, 118, 101, 114, 116, 101, 100]⟩ : ByteArray), .string (⟨#[108, 101, 102, 116]⟩ : ByteArray)]) (.int .i64 (nt_10 : Int))).run Try.prog w = .ok (.string yt_10) w := by
      intro w
      have hl := lt_10
      have hg := gt_10.out
      clear gt_10 H
      rcases nt_10 with _ | _ | _ | _ | _
      · obtain rfl := Option.some.inj hg; rfl
      · obtain rfl := Option.some.inj hg; rfl
      · obtain rfl := Option.some.inj hg; rfl
      · obtain rfl := Option.some.inj hg; rfl
      · simp at hl; omega
    replace H := let_hid H
    obtain ⟨t_13, ht_13, H⟩ := H
    cases t_13 with
    | false =>
      replace H := ite_f H
      unfold j0 at H
      cases ret_hid H
      go_wp2_with fail
      go_ret2
      exact ⟨rfl, HBwt_3.out⟩
    | true =>
      replace H := ite_t H
      replace H := guard_hid H
      obtain ⟨hl_t_15, H⟩ := H
      replace H := let_hid H
      obtain ⟨t_15, ht_15, H⟩ := H
      have ct_15 := cat_rule (P := Try.prog) ht_15 hl_t_15
      clear hl_t_15
      have hht_15 := Lib.hid ht_15
      clear ht_15
      unfold j0 at H
      cases ret_hid H
      go_wp2_with fail
      go_ret2
      exact ⟨rfl, HBwt_3.out⟩
end Go.Proofs.Ytbpjhmhnicfdfaa.GiPositionName
