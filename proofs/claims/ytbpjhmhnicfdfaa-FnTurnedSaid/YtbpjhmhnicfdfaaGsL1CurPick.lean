/- (*loop.example/g01062/spec.l1Cur).pick as a plain function, and the contract of the program's: where the plain one has an answer, the program has it. Conditions: slices read as lists. -/
import Derived.Test.YtbpjhmhnicfdfaaChecked
import Derived.Test.YtbpjhmhnicfdfaaGoM
import Derived.Test.YtbpjhmhnicfdfaaGoC
import Derived.Test.YtbpjhmhnicfdfaaGsL1CurNext
import Derived.WalkKit
import Derived.WalkSpells
import Derived.WalkLawsBesides
import Derived.BigQuiet
import Derived.OwnWalk
import Derived.Deep.LoopGhost
import Derived.Deep.QuietTactic
import Derived.IntWalk
import Derived.Lib.QuietBelow
namespace Go.Proofs.Ytbpjhmhnicfdfaa.GsL1CurPick
set_option linter.unusedVariables false
set_option linter.unusedSimpArgs false
open Go.RowKit
open Go.Proofs.Ytbpjhmhnicfdfaa.Rowed Go.Proofs.Ytbpjhmhnicfdfaa.Turn Go.Proofs.Ytbpjhmhnicfdfaa.Aid Go.Proofs.Ytbpjhmhnicfdfaa.GoP Go.Proofs.Ytbpjhmhnicfdfaa.GoM

def j0 (n_1 : Int) (s : Int × Go.Proofs.Ytbpjhmhnicfdfaa.GoC.Tape) : Option (Int × Go.Proofs.Ytbpjhmhnicfdfaa.GoC.Tape) :=
  unp2 s fun x_5j0 c0_c0j0 =>
  guardK (¬ (n_1 = 0)) <|
  letK (Int.tmod x_5j0 n_1) fun (t_17 : Int) =>
  some (t_17, c0_c0j0)

def P (c : Go.Proofs.Ytbpjhmhnicfdfaa.GoC.Tape) (n_1 : Int) : Option (Int × Go.Proofs.Ytbpjhmhnicfdfaa.GoC.Tape) :=
  letK (decide (n_1 ≤ 1)) fun (t_2 : Bool) =>
  iteK t_2
  (some (0, c))
  (bind2 (Go.Proofs.Ytbpjhmhnicfdfaa.GsL1CurNext.P c) fun (t_5 : Int) (t_5_tp : Go.Proofs.Ytbpjhmhnicfdfaa.GoC.Tape) =>
  letK (decide (200 < n_1)) fun (t_8 : Bool) =>
  iteK t_8
  (letK (IntKind.i64.wrap (t_5 * 256)) fun (t_10 : Int) =>
  bind2 (Go.Proofs.Ytbpjhmhnicfdfaa.GsL1CurNext.P t_5_tp) fun (t_12 : Int) (t_12_tp : Go.Proofs.Ytbpjhmhnicfdfaa.GoC.Tape) =>
  letK (IntKind.i64.wrap (t_10 + t_12)) fun (t_13 : Int) =>
  j0 n_1 (t_13, t_12_tp))
  (j0 n_1 (t_5, t_5_tp)))

set_option maxRecDepth 100000 in
set_option maxHeartbeats 2000000 in
theorem C (c : Go.Proofs.Ytbpjhmhnicfdfaa.GoC.Tape) (n_1 : Int)   (g0 : Nat) (Ac0 : Option Addr) (cc0 : Nat) (bc0 : Nat) (w : World)   (K0 : Hid (Go.Proofs.Ytbpjhmhnicfdfaa.GoC.CurIs w bc0 g0 Ac0 cc0 c)) {r : Int} {t_ : Go.Proofs.Ytbpjhmhnicfdfaa.GoC.Tape} (H : Hid (P c n_1 = some (r, t_))) :
    Calls Try.prog 43 #[.pointer (some ⟨g0, 0, none⟩), .int .i64 n_1] w (fun e w' => e = .returned (.int .i64 r) ∧ Go.Proofs.Ytbpjhmhnicfdfaa.GoC.CurIs w' bc0 g0 Ac0 cc0 t_ ∧ w.grownBy w' (Value.slice (some ⟨g0, 0, none⟩) 1 1).ownBlock) := by
  have HB := Lib.hid (Aid.grown_refl w (Value.slice (some ⟨g0, 0, none⟩) 1 1).ownBlock)
  unfold P at H
  have L0 : bc0 ≤ w.heap.size := by have := Go.Proofs.Ytbpjhmhnicfdfaa.GoC.cur_lt K0.out; omega
  go_enter Try.func43, Try.ntmps43
  replace H := let_hid H
  obtain ⟨t_2, ht_2, H⟩ := H
  cases t_2 with
  | false =>
    replace H := ite_f H
    replace H := bind2_hid H
    obtain ⟨t_5, t_5_tp, qt_5, H⟩ := H
    go_wp2_with fail
    go_at_call 51
    refine (Go.Proofs.Ytbpjhmhnicfdfaa.GsL1CurNext.C (c) (g0) (Ac0) (cc0) (bc0) _   K0 qt_5).mono ?_
    rintro e_t_5 wt_5 ⟨rfl, kt_5, gt_5⟩
    have Kt_5 := Lib.hid kt_5
    have Gt_5 : Hid (w.grownBy wt_5 (Value.slice (some ⟨g0, 0, none⟩) 1 1).ownBlock) := Lib.hid gt_5
    clear kt_5 gt_5
    have HBwt_5 := Lib.hid (Aid.grown_tr HB.out Gt_5.out)
    clear K0 Gt_5
    replace H := let_hid H
    obtain ⟨t_8, ht_8, H⟩ := H
    cases t_8 with
    | false =>
      replace H := ite_f H
      unfold j0 at H
      replace H := unp2_hid H
      replace H := guard_hid H
      obtain ⟨hz_t_17, H⟩ := H
      replace H := let_hid H
      obtain ⟨t_17, ht_17, H⟩ := H
      cases ret_hid H
      go_wp2_with fail
      go_ret
      exact ⟨rfl, Kt_5.out, HBwt_5.out⟩
    | true =>
      replace H := ite_t H
      replace H := let_hid H
      obtain ⟨t_10, ht_10, H⟩ := H
      replace H := bind2_hid H
      obtain ⟨t_12, t_12_tp, qt_12, H⟩ := H
      go_wp2_with fail
      go_at_call 51
      refine (Go.Proofs.Ytbpjhmhnicfdfaa.GsL1CurNext.C (t_5_tp) (g0) (Ac0) (cc0) (bc0) _   Kt_5 qt_12).mono ?_
      rintro e_t_12 wt_12 ⟨rfl, kt_12, gt_12⟩
      have Kt_12 := Lib.hid kt_12
      have Gt_12 : Hid (wt_5.grownBy wt_12 (Value.slice (some ⟨g0, 0, none⟩) 1 1).ownBlock) := Lib.hid gt_12
      clear kt_12 gt_12
      have HBwt_12 := Lib.hid (Aid.grown_tr HBwt_5.out Gt_12.out)
      clear Kt_5 Gt_12
      replace H := let_hid H
      obtain ⟨t_13, ht_13, H⟩ := H
      unfold j0 at H
      replace H := unp2_hid H
      replace H := guard_hid H
      obtain ⟨hz_t_17, H⟩ := H
      replace H := let_hid H
      obtain ⟨t_17, ht_17, H⟩ := H
      cases ret_hid H
      go_wp2_with fail
      go_ret
      exact ⟨rfl, Kt_12.out, HBwt_12.out⟩
  | true =>
    replace H := ite_t H
    cases ret_hid H
    go_wp2_with fail
    go_ret
    exact ⟨rfl, K0.out, HB.out⟩
end Go.Proofs.Ytbpjhmhnicfdfaa.GsL1CurPick
