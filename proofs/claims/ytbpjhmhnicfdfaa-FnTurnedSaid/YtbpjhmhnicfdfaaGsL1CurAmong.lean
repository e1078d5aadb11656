/- (*loop.example/g01062/spec.l1Cur).among as a plain function, and the contract of the program's: where the plain one has an answer, the program has it. Conditions: slices read as lists. -/
import Derived.Test.YtbpjhmhnicfdfaaChecked
import Derived.Test.YtbpjhmhnicfdfaaGoM
import Derived.Test.YtbpjhmhnicfdfaaGoC
import Derived.Test.YtbpjhmhnicfdfaaHelpInt
import Derived.Test.YtbpjhmhnicfdfaaGsL1CurPick
import Derived.WalkKit
import Derived.WalkSpells
import Derived.WalkLawsBesides
import Derived.BigQuiet
import Derived.OwnWalk
import Derived.Deep.LoopGhost
import Derived.Deep.QuietTactic
import Derived.IntWalk
import Derived.Lib.QuietBelow
namespace Go.Proofs.Ytbpjhmhnicfdfaa.GsL1CurAmong
set_option linter.unusedVariables false
set_option linter.unusedSimpArgs false
open Go.RowKit
open Go.Proofs.Ytbpjhmhnicfdfaa.Rowed Go.Proofs.Ytbpjhmhnicfdfaa.Turn Go.Proofs.Ytbpjhmhnicfdfaa.Aid Go.Proofs.Ytbpjhmhnicfdfaa.GoP Go.Proofs.Ytbpjhmhnicfdfaa.GoM

def P (c : Go.Proofs.Ytbpjhmhnicfdfaa.GoC.Tape) (list : (List Int)) : Option (Int × Go.Proofs.Ytbpjhmhnicfdfaa.GoC.Tape) :=
  bind2 (Go.Proofs.Ytbpjhmhnicfdfaa.GsL1CurPick.P c (list.length : Int)) fun (t_5 : Int) (t_5_tp : Go.Proofs.Ytbpjhmhnicfdfaa.GoC.Tape) =>
  Option.bind (idx list t_5) fun (yt_6 : Int) =>
  some (yt_6, t_5_tp)

set_option maxRecDepth 100000 in
set_option maxHeartbeats 2000000 in
theorem C (c : Go.Proofs.Ytbpjhmhnicfdfaa.GoC.Tape) (list : (List Int)) (A1 : Option Addr) (c1 : Nat)  (g0 : Nat) (Ac0 : Option Addr) (cc0 : Nat) (bc0 : Nat) (w : World) (M1 : Hid (Cells w 1 A1 list.length (Go.Proofs.Ytbpjhmhnicfdfaa.HelpInt.iv list))) (N1 : Hid (list.length ≤ 9223372036854775807))  (K0 : Hid (Go.Proofs.Ytbpjhmhnicfdfaa.GoC.CurIs w bc0 g0 Ac0 cc0 c)) (X1 : Hid (0 < list.length → Apart A1 (some ⟨g0, 0, none⟩))) {r : Int} {t_ : Go.Proofs.Ytbpjhmhnicfdfaa.GoC.Tape} (H : Hid (P c list = some (r, t_))) :
    Calls Try.prog 42 #[.pointer (some ⟨g0, 0, none⟩), .slice A1 list.length c1] w (fun e w' => e = .returned (.int .i64 r) ∧ Go.Proofs.Ytbpjhmhnicfdfaa.GoC.CurIs w' bc0 g0 Ac0 cc0 t_ ∧ w.grownBy w' (Value.slice (some ⟨g0, 0, none⟩) 1 1).ownBlock) := by
  have HB := Lib.hid (Aid.grown_refl w (Value.slice (some ⟨g0, 0, none⟩) 1 1).ownBlock)
  unfold P at H
  have N1o := N1.out
  have L0 : bc0 ≤ w.heap.size := by have := Go.Proofs.Ytbpjhmhnicfdfaa.GoC.cur_lt K0.out; omega
  go_enter Try.func42, Try.ntmps42
  replace H := bind2_hid H
  obtain ⟨t_5, t_5_tp, qt_5, H⟩ := H
  go_wp2_with fail
  go_at_call 43
  refine (Go.Proofs.Ytbpjhmhnicfdfaa.GsL1CurPick.C (c) ((list.length : Int)) (g0) (Ac0) (cc0) (bc0) _   K0 qt_5).mono ?_
  rintro e_t_5 wt_5 ⟨rfl, kt_5, gt_5⟩
  have Kt_5 := Lib.hid kt_5
  have Gt_5 : Hid (w.grownBy wt_5 (Value.slice (some ⟨g0, 0, none⟩) 1 1).ownBlock) := Lib.hid gt_5
  clear kt_5 gt_5
  have HBwt_5 := Lib.hid (Aid.grown_tr HB.out Gt_5.out)
  clear K0 Gt_5
  replace H := idx_hid H
  obtain ⟨nt_6, yt_6, et_6, lt_6, gt_6, H⟩ := H
  subst et_6
  obtain ⟨ab_t_6, ao_t_6, zt_6, At_6, z_t_6, ct_6_0⟩ := Go.Proofs.Ytbpjhmhnicfdfaa.HelpInt.Ints.at_ M1.out lt_6
  obtain rfl := Option.some.inj (gt_6.out.symm.trans z_t_6)
  subst At_6
  have ltt_6 := cell_lt ct_6_0
  replace ct_6_0 := cell_other ct_6_0 HBwt_5.out (Go.Proofs.Ytbpjhmhnicfdfaa.GoC.apart_x X1.out (by omega))
  clear z_t_6
  have b0t_6 : (0 : Int) ≤ (nt_6 : Int) := by omega
  have b1t_6 : (nt_6 : Int) < ((list.length : Nat) : Int) := by omega
  have b2t_6 : ((nt_6 : Int)).toNat = nt_6 := by omega
  cases ret_hid H
  go_wp2_with fail
  go_ret
  exact ⟨rfl, Kt_5.out, HBwt_5.out⟩
end Go.Proofs.Ytbpjhmhnicfdfaa.GsL1CurAmong
