/- (*loop.example/g01062/spec.l1Cur).position3 as a plain function, and the contract of the program's: where the plain one has an answer, the program has it. Conditions: slices read as lists. -/
import Derived.Test.YtbpjhmhnicfdfaaChecked
import Derived.Test.YtbpjhmhnicfdfaaGoM
import Derived.Test.YtbpjhmhnicfdfaaGoC
import Derived.Test.YtbpjhmhnicfdfaaHelpInt
import Derived.Test.YtbpjhmhnicfdfaaGsL1CurPick
import Derived.Test.YtbpjhmhnicfdfaaGsL1CurAmong
import Derived.WalkKit
import Derived.WalkSpells
import Derived.WalkLawsBesides
import Derived.BigQuiet
import Derived.OwnWalk
import Derived.Deep.LoopGhost
import Derived.Deep.QuietTactic
import Derived.IntWalk
import Derived.Lib.QuietBelow
namespace Go.Proofs.Ytbpjhmhnicfdfaa.GsL1CurPosition3
set_option linter.unusedVariables false
set_option linter.unusedSimpArgs false
open Go.RowKit
open Go.Proofs.Ytbpjhmhnicfdfaa.Rowed Go.Proofs.Ytbpjhmhnicfdfaa.Turn Go.Proofs.Ytbpjhmhnicfdfaa.Aid Go.Proofs.Ytbpjhmhnicfdfaa.GoP Go.Proofs.Ytbpjhmhnicfdfaa.GoM

def P (c : Go.Proofs.Ytbpjhmhnicfdfaa.GoC.Tape) : Option (Int × Go.Proofs.Ytbpjhmhnicfdfaa.GoC.Tape) :=
  letK ([0, 1, 2, 3, 4, 5, 6, 7, (-1), 8]) fun (t_2 : (List Int)) =>
  bind2 (Go.Proofs.Ytbpjhmhnicfdfaa.GsL1CurPick.P c 24) fun (t_4 : Int) (t_4_tp : Go.Proofs.Ytbpjhmhnicfdfaa.GoC.Tape) =>
  letK (IntKind.i64.wrap (Int.tdiv t_4 11)) fun (t_5 : Int) =>
  letK (IntKind.i64.wrap (8 + t_5)) fun (t_6 : Int) =>
  guardK ((0 : Int) ≤ t_6 ∧ (t_6 : Int) ≤ (t_2.length : Int)) <|
  letK (List.take (Int.toNat t_6) t_2) fun (t_7 : (List Int)) =>
  bind2 (Go.Proofs.Ytbpjhmhnicfdfaa.GsL1CurAmong.P t_4_tp t_7) fun (t_8 : Int) (t_8_tp : Go.Proofs.Ytbpjhmhnicfdfaa.GoC.Tape) =>
  some (t_8, t_8_tp)

set_option maxRecDepth 100000 in
set_option maxHeartbeats 2000000 in
theorem C (c : Go.Proofs.Ytbpjhmhnicfdfaa.GoC.Tape)   (g0 : Nat) (Ac0 : Option Addr) (cc0 : Nat) (bc0 : Nat) (w : World)   (K0 : Hid (Go.Proofs.Ytbpjhmhnicfdfaa.GoC.CurIs w bc0 g0 Ac0 cc0 c)) {r : Int} {t_ : Go.Proofs.Ytbpjhmhnicfdfaa.GoC.Tape} (H : Hid (P c = some (r, t_))) :
    Calls Try.prog 46 #[.pointer (some ⟨g0, 0, none⟩)] w (fun e w' => e = .returned (.int .i64 r) ∧ Go.Proofs.Ytbpjhmhnicfdfaa.GoC.CurIs w' bc0 g0 Ac0 cc0 t_ ∧ w.grownBy w' (Value.slice (some ⟨g0, 0, none⟩) 1 1).ownBlock) := by
  have HB := Lib.hid (Aid.grown_refl w (Value.slice (some ⟨g0, 0, none⟩) 1 1).ownBlock)
  unfold P at H
  have L0 : bc0 ≤ w.heap.size := by have := Go.Proofs.Ytbpjhmhnicfdfaa.GoC.cur_lt K0.out; omega
  obtain ⟨i0_3, hi_3, hz0_3, hz1_3, hz2_3⟩ := Aid.info_parts (P := Try.prog) (T := 3) (z := .int .i64 0) (s := 1) (b := 8) (by kernel_rfl)
  go_enter Try.func46, Try.ntmps46
  replace H := let_hid H
  obtain ⟨t_2, ht_2, H⟩ := H
  obtain ⟨w_t_2, hw_t_2⟩ : ∃ x, w.alloc (.cells #[.int .i64 0, .int .i64 1, .int .i64 2, .int .i64 3, .int .i64 4, .int .i64 5, .int .i64 6, .int .i64 7, .int .i64 (-1), .int .i64 8] 3) = x := ⟨_, rfl⟩
  have bw_t_2 : Below w.heap.size w w_t_2 := by rw [← hw_t_2]; exact (Below.refl _ _).alloc (Nat.le_refl _) _
  have hs_t_2 := HB.out.size
  have nt_2 : t_2.length = 10 := by rw [← ht_2]; rfl
  have Ot_2 : Hid (w_t_2.ownsRow w.heap.size 3 1 (.slice (some ⟨w.heap.size, 0, none⟩) 10 10) 10 (Go.Proofs.Ytbpjhmhnicfdfaa.HelpInt.iv t_2)) := by
    rw [← hw_t_2, ← ht_2]
    have e_ : ([.int .i64 0, .int .i64 1, .int .i64 2, .int .i64 3, .int .i64 4, .int .i64 5, .int .i64 6, .int .i64 7, .int .i64 (-1), .int .i64 8] : List Value) = (Go.Proofs.Ytbpjhmhnicfdfaa.HelpInt.iv ([0, 1, 2, 3, 4, 5, 6, 7, (-1), 8] : List Int)) := rfl
    exact Lib.hid (own_laid (n := 10) hs_t_2 e_ rfl (by unfold maxLen; omega))
  clear hs_t_2
  have hht_2 := Lib.hid ht_2
  clear ht_2
  replace nt_2 := Lib.hid nt_2
  have Dt_2_c0 := Lib.hid (Go.Proofs.Ytbpjhmhnicfdfaa.GoC.apart_cur K0.out)
  have HBw_t_2 := Lib.hid (grown_below HB.out bw_t_2)
  replace K0 := Lib.hid (Go.Proofs.Ytbpjhmhnicfdfaa.GoC.cur_below K0.out bw_t_2)
  clear bw_t_2
  replace H := bind2_hid H
  obtain ⟨t_4, t_4_tp, qt_4, H⟩ := H
  go_wp2_with fail
  go_at_call 43
  refine (Go.Proofs.Ytbpjhmhnicfdfaa.GsL1CurPick.C (c) (24) (g0) (Ac0) (cc0) (bc0) _   K0 qt_4).mono ?_
  rintro e_t_4 wt_4 ⟨rfl, kt_4, gt_4⟩
  have Kt_4 := Lib.hid kt_4
  have Gt_4 : Hid (w_t_2.grownBy wt_4 (Value.slice (some ⟨g0, 0, none⟩) 1 1).ownBlock) := Lib.hid gt_4
  clear kt_4 gt_4
  have HBwt_4 := Lib.hid (Aid.grown_tr HBw_t_2.out Gt_4.out)
  replace Ot_2 := Lib.hid (own_other Ot_2.out Gt_4.out (Apart.symm Dt_2_c0.out))
  clear K0 Gt_4
  replace H := let_hid H
  obtain ⟨t_5, ht_5, H⟩ := H
  replace H := let_hid H
  obtain ⟨t_6, ht_6, H⟩ := H
  replace H := guard_hid H
  obtain ⟨hl_t_7, H⟩ := H
  replace H := let_hid H
  obtain ⟨t_7, ht_7, H⟩ := H
  have dt_7 : ((Go.Proofs.Ytbpjhmhnicfdfaa.HelpInt.iv t_2)).take (Int.toNat t_6 * 1) = (Go.Proofs.Ytbpjhmhnicfdfaa.HelpInt.iv t_7) := by
    rw [← ht_7]
    simp [Go.Proofs.Ytbpjhmhnicfdfaa.HelpInt.iv, List.map_take]
  have nt_7 : Int.toNat t_6 = t_7.length := by rw [← ht_7, List.length_take]; have h_ := nt_2.out; omega
  replace hl_t_7 : (0 : Int) ≤ t_6 ∧ (t_6 : Int) ≤ ((10 : Nat) : Int) := by have h_ := nt_2.out; omega
  obtain ⟨rt_7, Ot_7⟩ := slice_head (P := Try.prog) (t := 24) (e := 3) (k := .i64) (by kernel_rfl) (by kernel_rfl) hi_3 hz1_3 Ot_2.out hl_t_7 nt_7 dt_7
  replace Ot_7 := Lib.hid Ot_7
  clear dt_7 nt_7 hl_t_7
  have hht_7 := Lib.hid ht_7
  clear ht_7
  replace H := bind2_hid H
  obtain ⟨t_8, t_8_tp, qt_8, H⟩ := H
  go_wp2_with fail
  go_at_call 42
  refine (Go.Proofs.Ytbpjhmhnicfdfaa.GsL1CurAmong.C (t_4_tp) (t_7) (some ⟨w.heap.size, 0, none⟩) 10 (g0) (Ac0) (cc0) (bc0) _   (Lib.hid (own_cells Ot_7.out)) (Lib.hid (own_max Ot_7.out)) Kt_4 (Lib.hid (fun _ => Dt_2_c0.out)) qt_8).mono ?_
  rintro e_t_8 wt_8 ⟨rfl, kt_8, gt_8⟩
  have Kt_8 := Lib.hid kt_8
  have Gt_8 : Hid (wt_4.grownBy wt_8 (Value.slice (some ⟨g0, 0, none⟩) 1 1).ownBlock) := Lib.hid gt_8
  clear kt_8 gt_8
  have HBwt_8 := Lib.hid (Aid.grown_tr HBwt_4.out Gt_8.out)
  replace Ot_7 := Lib.hid (own_other Ot_7.out Gt_8.out (Apart.symm Dt_2_c0.out))
  clear Kt_4 Gt_8
  cases ret_hid H
  go_wp2_with fail
  go_ret
  exact ⟨rfl, Kt_8.out, HBwt_8.out⟩
end Go.Proofs.Ytbpjhmhnicfdfaa.GsL1CurPosition3
