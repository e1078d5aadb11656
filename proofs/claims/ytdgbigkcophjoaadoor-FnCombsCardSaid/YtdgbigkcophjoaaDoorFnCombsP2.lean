/- The texts on which the proof of FnCombs stands, one behind the other (2 of 5). No condition of their own. -/
import Derived.Test.YtdgbigkcophjoaaDoorChecked
import Derived.Test.YtdgbigkcophjoaaDoorFnCombsP1
import Derived.WalkKit
import Derived.WalkSpells
import Derived.WalkLawsBesides
import Derived.BigQuiet
import Derived.OwnWalk
import Derived.Deep.LoopGhost
import Derived.Deep.QuietTactic
import Derived.IntWalk
import Derived.Lib.QuietBelow
/- (*loop.example/g01062/spec.l1Cur).comb5 as a plain function, and the contract of the program's: where the plain one has an answer, the program has it. Conditions: slices read as lists. -/
namespace Go.Proofs.YtdgbigkcophjoaaDoor.GsL1CurComb5
set_option linter.unusedVariables false
set_option linter.unusedSimpArgs false
open Go.RowKit
open Go.Proofs.YtdgbigkcophjoaaDoor.Rowed Go.Proofs.YtdgbigkcophjoaaDoor.Turn Go.Proofs.YtdgbigkcophjoaaDoor.Aid Go.Proofs.YtdgbigkcophjoaaDoor.GoP Go.Proofs.YtdgbigkcophjoaaDoor.GoM

def j0 (t_12_tp : Go.Proofs.YtdgbigkcophjoaaDoor.GoC.Tape) (s : Int × Int × Int × Bool) : Option (Go.Proofs.YtdgbigkcophjoaaDoor.PComb.Comb × Go.Proofs.YtdgbigkcophjoaaDoor.GoC.Tape) :=
  unp4 s fun x_9_c0j0 x_9_c1j0 x_9_c2j0 x_9_c3j0 =>
  bind2 (Go.Proofs.YtdgbigkcophjoaaDoor.GsL1CurPick.P t_12_tp 80) fun (t_18 : Int) (t_18_tp : Go.Proofs.YtdgbigkcophjoaaDoor.GoC.Tape) =>
  letK (t_18 == 0) fun (t_19 : Bool) =>
  iteK t_19
  (letK ([0, 99, 100]) fun (t_22 : (List Int)) =>
  bind2 (Go.Proofs.YtdgbigkcophjoaaDoor.GsL1CurAmong.P t_18_tp t_22) fun (t_23 : Int) (t_23_tp : Go.Proofs.YtdgbigkcophjoaaDoor.GoC.Tape) =>
  some ((Go.Proofs.YtdgbigkcophjoaaDoor.PComb.Comb.mk t_23 x_9_c1j0 x_9_c2j0 x_9_c3j0), t_23_tp))
  (letK (t_18 == 1) fun (t_26 : Bool) =>
  iteK t_26
  (letK ([499, 2001]) fun (t_29 : (List Int)) =>
  bind2 (Go.Proofs.YtdgbigkcophjoaaDoor.GsL1CurAmong.P t_18_tp t_29) fun (t_30 : Int) (t_30_tp : Go.Proofs.YtdgbigkcophjoaaDoor.GoC.Tape) =>
  some ((Go.Proofs.YtdgbigkcophjoaaDoor.PComb.Comb.mk x_9_c0j0 t_30 x_9_c2j0 x_9_c3j0), t_30_tp))
  (letK (t_18 == 2) fun (t_33 : Bool) =>
  iteK t_33
  (letK ([499, 2001]) fun (t_36 : (List Int)) =>
  bind2 (Go.Proofs.YtdgbigkcophjoaaDoor.GsL1CurAmong.P t_18_tp t_36) fun (t_37 : Int) (t_37_tp : Go.Proofs.YtdgbigkcophjoaaDoor.GoC.Tape) =>
  some ((Go.Proofs.YtdgbigkcophjoaaDoor.PComb.Comb.mk x_9_c0j0 x_9_c1j0 t_37 x_9_c3j0), t_37_tp))
  (some ((Go.Proofs.YtdgbigkcophjoaaDoor.PComb.Comb.mk x_9_c0j0 x_9_c1j0 x_9_c2j0 x_9_c3j0), t_18_tp))))

def P (c : Go.Proofs.YtdgbigkcophjoaaDoor.GoC.Tape) (id : Int) : Option (Go.Proofs.YtdgbigkcophjoaaDoor.PComb.Comb × Go.Proofs.YtdgbigkcophjoaaDoor.GoC.Tape) :=
  bind2 (Go.Proofs.YtdgbigkcophjoaaDoor.GsL1CurGauge5.P c) fun (t_3 : Int) (t_3_tp : Go.Proofs.YtdgbigkcophjoaaDoor.GoC.Tape) =>
  bind2 (Go.Proofs.YtdgbigkcophjoaaDoor.GsL1CurGauge5.P t_3_tp) fun (t_5 : Int) (t_5_tp : Go.Proofs.YtdgbigkcophjoaaDoor.GoC.Tape) =>
  bind2 (Go.Proofs.YtdgbigkcophjoaaDoor.GsL1CurOne.P t_5_tp 3) fun (t_7 : Bool) (t_7_tp : Go.Proofs.YtdgbigkcophjoaaDoor.GoC.Tape) =>
  bind2 (Go.Proofs.YtdgbigkcophjoaaDoor.GsL1CurOne.P t_7_tp 3) fun (t_12 : Bool) (t_12_tp : Go.Proofs.YtdgbigkcophjoaaDoor.GoC.Tape) =>
  iteK t_12
  (j0 t_12_tp (id, t_3, t_3, t_7))
  (j0 t_12_tp (id, t_3, t_5, t_7))

set_option maxRecDepth 100000 in
set_option maxHeartbeats 2000000 in
theorem C (c : Go.Proofs.YtdgbigkcophjoaaDoor.GoC.Tape) (id : Int)   (g0 : Nat) (Ac0 : Option Addr) (cc0 : Nat) (bc0 : Nat) (w : World)   (K0 : Hid (Go.Proofs.YtdgbigkcophjoaaDoor.GoC.CurIs w bc0 g0 Ac0 cc0 c)) {r : Go.Proofs.YtdgbigkcophjoaaDoor.PComb.Comb} {t_ : Go.Proofs.YtdgbigkcophjoaaDoor.GoC.Tape} (H : Hid (P c id = some (r, t_))) :
    Calls Tryd.prog 45 #[.pointer (some ⟨g0, 0, none⟩), .int .i64 id] w (fun e w' => e = .returned ((Go.Proofs.YtdgbigkcophjoaaDoor.PComb.Comb.val r)) ∧ Go.Proofs.YtdgbigkcophjoaaDoor.GoC.CurIs w' bc0 g0 Ac0 cc0 t_ ∧ w.grownBy w' (Value.slice (some ⟨g0, 0, none⟩) 1 1).ownBlock) := by
  have HB := Lib.hid (Aid.grown_refl w (Value.slice (some ⟨g0, 0, none⟩) 1 1).ownBlock)
  unfold P at H
  have L0 : bc0 ≤ w.heap.size := by have := Go.Proofs.YtdgbigkcophjoaaDoor.GoC.cur_lt K0.out; omega
  go_enter Tryd.func45, Tryd.ntmps45
  obtain ⟨w_t_0, hw_t_0⟩ : ∃ x, w.alloc (.cells #[.int .i64 0, .int .i64 0, .int .i64 0, .bool false] 32) = x := ⟨_, rfl⟩
  have bw_t_0 : Below w.heap.size w w_t_0 := by rw [← hw_t_0]; exact (Below.refl _ _).alloc (Nat.le_refl _) _
  have Dt_0_c0 := Lib.hid (Go.Proofs.YtdgbigkcophjoaaDoor.GoC.apart_cur K0.out)
  have HBw_t_0 := Lib.hid (grown_below HB.out bw_t_0)
  replace K0 := Lib.hid (Go.Proofs.YtdgbigkcophjoaaDoor.GoC.cur_below K0.out bw_t_0)
  clear bw_t_0
  have kt_0_0 : w_t_0.cell? ⟨w.heap.size, 0, none⟩ = some (.int .i64 0) := by rw [← hw_t_0]; exact box_new _ _ _ 0 _ rfl
  have kt_0_1 : w_t_0.cell? ⟨w.heap.size, 1, none⟩ = some (.int .i64 0) := by rw [← hw_t_0]; exact box_new _ _ _ 1 _ rfl
  have kt_0_2 : w_t_0.cell? ⟨w.heap.size, 2, none⟩ = some (.int .i64 0) := by rw [← hw_t_0]; exact box_new _ _ _ 2 _ rfl
  have kt_0_3 : w_t_0.cell? ⟨w.heap.size, 3, none⟩ = some (.bool false) := by rw [← hw_t_0]; exact box_new _ _ _ 3 _ rfl
  have Ot_0 : Hid (w_t_0.ownsRow w.heap.size 32 4 (.slice (some ⟨w.heap.size, 0, none⟩) 1 1) 1 [.int .i64 0, .int .i64 0, .int .i64 0, .bool false]) := Lib.hid (by rw [← hw_t_0]; exact own_laid (n := 1) HB.out.size rfl rfl (by unfold maxLen; omega))
  replace H := bind2_hid H
  obtain ⟨t_3, t_3_tp, qt_3, H⟩ := H
  go_wp2_with fail
  go_at_call 52
  refine (Go.Proofs.YtdgbigkcophjoaaDoor.GsL1CurGauge5.C (c) (g0) (Ac0) (cc0) (bc0) _   K0 qt_3).mono ?_
  rintro e_t_3 wt_3 ⟨rfl, kt_3, gt_3⟩
  have Kt_3 := Lib.hid kt_3
  have Gt_3 : Hid (w_t_0.grownBy wt_3 (Value.slice (some ⟨g0, 0, none⟩) 1 1).ownBlock) := Lib.hid gt_3
  clear kt_3 gt_3
  have HBwt_3 := Lib.hid (Aid.grown_tr HBw_t_0.out Gt_3.out)
  replace kt_0_0 := cell_other kt_0_0 Gt_3.out (Apart.symm Dt_0_c0.out)
  replace kt_0_1 := cell_other kt_0_1 Gt_3.out (Apart.symm Dt_0_c0.out)
  replace kt_0_2 := cell_other kt_0_2 Gt_3.out (Apart.symm Dt_0_c0.out)
  replace kt_0_3 := cell_other kt_0_3 Gt_3.out (Apart.symm Dt_0_c0.out)
  replace Ot_0 := Lib.hid (own_other Ot_0.out Gt_3.out (Apart.symm Dt_0_c0.out))
  clear K0 Gt_3
  replace H := bind2_hid H
  obtain ⟨t_5, t_5_tp, qt_5, H⟩ := H
  go_wp2_with fail
  go_at_call 52
  refine (Go.Proofs.YtdgbigkcophjoaaDoor.GsL1CurGauge5.C (t_3_tp) (g0) (Ac0) (cc0) (bc0) _   Kt_3 qt_5).mono ?_
  rintro e_t_5 wt_5 ⟨rfl, kt_5, gt_5⟩
  have Kt_5 := Lib.hid kt_5
  have Gt_5 : Hid (wt_3.grownBy wt_5 (Value.slice (some ⟨g0, 0, none⟩) 1 1).ownBlock) := Lib.hid gt_5
  clear kt_5 gt_5
  have HBwt_5 := Lib.hid (Aid.grown_tr HBwt_3.out Gt_5.out)
  replace kt_0_0 := cell_other kt_0_0 Gt_5.out (Apart.symm Dt_0_c0.out)
  replace kt_0_1 := cell_other kt_0_1 Gt_5.out (Apart.symm Dt_0_c0.out)
  replace kt_0_2 := cell_other kt_0_2 Gt_5.out (Apart.symm Dt_0_c0.out)
  replace kt_0_3 := cell_other kt_0_3 Gt_5.out (Apart.symm Dt_0_c0.out)
  replace Ot_0 := Lib.hid (own_other Ot_0.out Gt_5.out (Apart.symm Dt_0_c0.out))
  clear Kt_3 Gt_5
  replace H := bind2_hid H
  obtain ⟨t_7, t_7_tp, qt_7, H⟩ := H
  go_wp2_with fail
  go_at_call 26
  refine (Go.Proofs.YtdgbigkcophjoaaDoor.GsL1CurOne.C (t_5_tp) (3) (g0) (Ac0) (cc0) (bc0) _   Kt_5 qt_7).mono ?_
  rintro e_t_7 wt_7 ⟨rfl, kt_7, gt_7⟩
  have Kt_7 := Lib.hid kt_7
  have Gt_7 : Hid (wt_5.grownBy wt_7 (Value.slice (some ⟨g0, 0, none⟩) 1 1).ownBlock) := Lib.hid gt_7
  clear kt_7 gt_7
  have HBwt_7 := Lib.hid (Aid.grown_tr HBwt_5.out Gt_7.out)
  replace kt_0_0 := cell_other kt_0_0 Gt_7.out (Apart.symm Dt_0_c0.out)
  replace kt_0_1 := cell_other kt_0_1 Gt_7.out (Apart.symm Dt_0_c0.out)
  replace kt_0_2 := cell_other kt_0_2 Gt_7.out (Apart.symm Dt_0_c0.out)
  replace kt_0_3 := cell_other kt_0_3 Gt_7.out (Apart.symm Dt_0_c0.out)
  replace Ot_0 := Lib.hid (own_other Ot_0.out Gt_7.out (Apart.symm Dt_0_c0.out))
  clear Kt_5 Gt_7
  obtain ⟨w_x_9, hw_x_9⟩ : ∃ x, wt_7.alloc (.cells #[.int .i64 id, .int .i64 t_3, .int .i64 t_5, .bool t_7] 32) = x := ⟨_, rfl⟩
  have bw_x_9 : Below wt_7.heap.size wt_7 w_x_9 := by rw [← hw_x_9]; exact (Below.refl _ _).alloc (Nat.le_refl _) _
  have Dx_9_c0 := Lib.hid (Go.Proofs.YtdgbigkcophjoaaDoor.GoC.apart_cur Kt_7.out)
  have Dx_9_t_0 := Lib.hid (apart_box kt_0_0)
  have HBw_x_9 := Lib.hid (grown_below HBwt_7.out bw_x_9)
  have kt_0_0__1 := cell_below bw_x_9 kt_0_0
  have kt_0_1__2 := cell_below bw_x_9 kt_0_1
  have kt_0_2__3 := cell_below bw_x_9 kt_0_2
  have kt_0_3__4 := cell_below bw_x_9 kt_0_3
  replace Kt_7 := Lib.hid (Go.Proofs.YtdgbigkcophjoaaDoor.GoC.cur_below Kt_7.out bw_x_9)
  replace Ot_0 := Lib.hid (own_below Ot_0.out bw_x_9)
  clear bw_x_9
  have kx_9_0 : w_x_9.cell? ⟨wt_7.heap.size, 0, none⟩ = some (.int .i64 id) := by rw [← hw_x_9]; exact box_new _ _ _ 0 _ rfl
  have kx_9_1 : w_x_9.cell? ⟨wt_7.heap.size, 1, none⟩ = some (.int .i64 t_3) := by rw [← hw_x_9]; exact box_new _ _ _ 1 _ rfl
  have kx_9_2 : w_x_9.cell? ⟨wt_7.heap.size, 2, none⟩ = some (.int .i64 t_5) := by rw [← hw_x_9]; exact box_new _ _ _ 2 _ rfl
  have kx_9_3 : w_x_9.cell? ⟨wt_7.heap.size, 3, none⟩ = some (.bool t_7) := by rw [← hw_x_9]; exact box_new _ _ _ 3 _ rfl
  have Ox_9 : Hid (w_x_9.ownsRow w.heap.size 32 4 (.slice (some ⟨wt_7.heap.size, 0, none⟩) 1 1) 1 [.int .i64 id, .int .i64 t_3, .int .i64 t_5, .bool t_7]) := Lib.hid (by rw [← hw_x_9]; exact own_laid (n := 1) HBwt_7.out.size rfl rfl (by unfold maxLen; omega))
  replace H := bind2_hid H
  obtain ⟨t_12, t_12_tp, qt_12, H⟩ := H
  go_wp2_with fail
  clear kt_0_0 kt_0_1 kt_0_2 kt_0_3
  go_at_call 26
  refine (Go.Proofs.YtdgbigkcophjoaaDoor.GsL1CurOne.C (t_7_tp) (3) (g0) (Ac0) (cc0) (bc0) _   Kt_7 qt_12).mono ?_
  rintro e_t_12 wt_12 ⟨rfl, kt_12, gt_12⟩
  have Kt_12 := Lib.hid kt_12
  have Gt_12 : Hid (w_x_9.grownBy wt_12 (Value.slice (some ⟨g0, 0, none⟩) 1 1).ownBlock) := Lib.hid gt_12
  clear kt_12 gt_12
  have HBwt_12 := Lib.hid (Aid.grown_tr HBw_x_9.out Gt_12.out)
  replace kt_0_0__1 := cell_other kt_0_0__1 Gt_12.out (Apart.symm Dt_0_c0.out)
  replace kt_0_1__2 := cell_other kt_0_1__2 Gt_12.out (Apart.symm Dt_0_c0.out)
  replace kt_0_2__3 := cell_other kt_0_2__3 Gt_12.out (Apart.symm Dt_0_c0.out)
  replace kt_0_3__4 := cell_other kt_0_3__4 Gt_12.out (Apart.symm Dt_0_c0.out)
  replace kx_9_0 := cell_other kx_9_0 Gt_12.out (Apart.symm Dx_9_c0.out)
  replace kx_9_1 := cell_other kx_9_1 Gt_12.out (Apart.symm Dx_9_c0.out)
  replace kx_9_2 := cell_other kx_9_2 Gt_12.out (Apart.symm Dx_9_c0.out)
  replace kx_9_3 := cell_other kx_9_3 Gt_12.out (Apart.symm Dx_9_c0.out)
  replace Ot_0 := Lib.hid (own_other Ot_0.out Gt_12.out (Apart.symm Dt_0_c0.out))
  replace Ox_9 := Lib.hid (own_other Ox_9.out Gt_12.out (Apart.symm Dx_9_c0.out))
  clear Kt_7 Gt_12
  cases t_12 with
  | false =>
    replace H := ite_f H
    unfold j0 at H
    replace H := unp4_hid H
    replace H := bind2_hid H
    obtain ⟨t_18, t_18_tp, qt_18, H⟩ := H
    go_wp2_with fail
    go_at_call 25
    refine (Go.Proofs.YtdgbigkcophjoaaDoor.GsL1CurPick.C (t_12_tp) (80) (g0) (Ac0) (cc0) (bc0) _   Kt_12 qt_18).mono ?_
    rintro e_t_18 wt_18 ⟨rfl, kt_18, gt_18⟩
    have Kt_18 := Lib.hid kt_18
    have Gt_18 : Hid (wt_12.grownBy wt_18 (Value.slice (some ⟨g0, 0, none⟩) 1 1).ownBlock) := Lib.hid gt_18
    clear kt_18 gt_18
    have HBwt_18 := Lib.hid (Aid.grown_tr HBwt_12.out Gt_18.out)
    replace kt_0_0__1 := cell_other kt_0_0__1 Gt_18.out (Apart.symm Dt_0_c0.out)
    replace kt_0_1__2 := cell_other kt_0_1__2 Gt_18.out (Apart.symm Dt_0_c0.out)
    replace kt_0_2__3 := cell_other kt_0_2__3 Gt_18.out (Apart.symm Dt_0_c0.out)
    replace kt_0_3__4 := cell_other kt_0_3__4 Gt_18.out (Apart.symm Dt_0_c0.out)
    replace kx_9_0 := cell_other kx_9_0 Gt_18.out (Apart.symm Dx_9_c0.out)
    replace kx_9_1 := cell_other kx_9_1 Gt_18.out (Apart.symm Dx_9_c0.out)
    replace kx_9_2 := cell_other kx_9_2 Gt_18.out (Apart.symm Dx_9_c0.out)
    replace kx_9_3 := cell_other kx_9_3 Gt_18.out (Apart.symm Dx_9_c0.out)
    replace Ot_0 := Lib.hid (own_other Ot_0.out Gt_18.out (Apart.symm Dt_0_c0.out))
    replace Ox_9 := Lib.hid (own_other Ox_9.out Gt_18.out (Apart.symm Dx_9_c0.out))
    clear Kt_12 Gt_18
    replace H := let_hid H
    obtain ⟨t_19, ht_19, H⟩ := H
    cases t_19 with
    | false =>
      replace H := ite_f H
      replace H := let_hid H
      obtain ⟨t_26, ht_26, H⟩ := H
      cases t_26 with
      | false =>
        replace H := ite_f H
        replace H := let_hid H
        obtain ⟨t_33, ht_33, H⟩ := H
        cases t_33 with
        | false =>
          replace H := ite_f H
          obtain ⟨wb41_41, hwb41_41⟩ : ∃ x, ((((wt_18).setCell ⟨w.heap.size, 0, none⟩ (.int .i64 id)).setCell ⟨w.heap.size, 1, none⟩ (.int .i64 t_3)).setCell ⟨w.heap.size, 2, none⟩ (.int .i64 t_5)).setCell ⟨w.heap.size, 3, none⟩ (.bool t_7) = x := ⟨_, rfl⟩
          have z0b41_41 := Ot_0.out.frozenAt 0
          have z1b41_41 := Ot_0.out.frozenAt 1
          have z2b41_41 := Ot_0.out.frozenAt 2
          have z3b41_41 := Ot_0.out.frozenAt 3
          have Sb41_41 := Lib.hid (own_stores [(0, .int .i64 id), (1, .int .i64 t_3), (2, .int .i64 t_5), (3, .bool t_7)] Ot_0.out)
          have Pb41_41 : Hid (wb41_41.ownsRow w.heap.size 32 4 (.slice (some ⟨w.heap.size, 0, none⟩) 1 1) 1 [.int .i64 id, .int .i64 t_3, .int .i64 t_5, .bool t_7]) := Lib.hid (by rw [← hwb41_41]; exact Sb41_41.out.1)
          have Gb41_41 : Hid (wt_18.grownBy wb41_41 (Value.slice (some ⟨w.heap.size, 0, none⟩) 1 1).ownBlock) := Lib.hid (by rw [← hwb41_41]; exact Sb41_41.out.2)
          have HBwb41_41 := Lib.hid (Go.Proofs.YtdgbigkcophjoaaDoor.GoC.grown_new HBwt_18.out Gb41_41.out (Go.Proofs.YtdgbigkcophjoaaDoor.GoC.own_ge Ot_0.out))
          clear Sb41_41
          have kx_9_0__5 := cell_other kx_9_0 Gb41_41.out (Apart.symm Dx_9_t_0.out)
          have kx_9_1__6 := cell_other kx_9_1 Gb41_41.out (Apart.symm Dx_9_t_0.out)
          have kx_9_2__7 := cell_other kx_9_2 Gb41_41.out (Apart.symm Dx_9_t_0.out)
          have kx_9_3__8 := cell_other kx_9_3 Gb41_41.out (Apart.symm Dx_9_t_0.out)
          replace Ox_9 := Lib.hid (own_other Ox_9.out Gb41_41.out (Apart.symm Dx_9_t_0.out))
          replace Kt_18 := Lib.hid (Go.Proofs.YtdgbigkcophjoaaDoor.GoC.cur_otherO Kt_18.out Gb41_41.out Dt_0_c0.out L0 Ot_0.out)
          clear Ot_0 Gb41_41
          have kt_0_0__9 : wb41_41.cell? ⟨w.heap.size, 0, none⟩ = some (.int .i64 id) := Pb41_41.out.cells rfl 0 _ rfl
          have kt_0_1__10 : wb41_41.cell? ⟨w.heap.size, 1, none⟩ = some (.int .i64 t_3) := Pb41_41.out.cells rfl 1 _ rfl
          have kt_0_2__11 : wb41_41.cell? ⟨w.heap.size, 2, none⟩ = some (.int .i64 t_5) := Pb41_41.out.cells rfl 2 _ rfl
          have kt_0_3__12 : wb41_41.cell? ⟨w.heap.size, 3, none⟩ = some (.bool t_7) := Pb41_41.out.cells rfl 3 _ rfl
          cases ret_hid H
          go_wp2_with fail
          (try simp only [Exit.inBlock, Exit.then])
          refine bodyPost_ret (v := .agg #[.int .i64 id, .int .i64 t_3, .int .i64 t_5, .bool t_7]) ?hr_ ?hd_ ?_
          case hd_ => rfl
          case hr_ => simp [results, Tryd.results45, kt_0_0__9, kt_0_1__10, kt_0_2__11, kt_0_3__12, go_sem]
          exact ⟨rfl, Kt_18.out, HBwb41_41.out⟩
        | true =>
          replace H := ite_t H
          replace H := let_hid H
          obtain ⟨t_36, ht_36, H⟩ := H
          obtain ⟨w_t_36, hw_t_36⟩ : ∃ x, wt_18.alloc (.cells #[.int .i64 499, .int .i64 2001] 3) = x := ⟨_, rfl⟩
          have bw_t_36 : Below wt_18.heap.size wt_18 w_t_36 := by rw [← hw_t_36]; exact (Below.refl _ _).alloc (Nat.le_refl _) _
          have hs_t_36 := HBwt_18.out.size
          have nt_36 : t_36.length = 2 := by rw [← ht_36]; rfl
          have Ot_36 : Hid (w_t_36.ownsRow w.heap.size 3 1 (.slice (some ⟨wt_18.heap.size, 0, none⟩) 2 2) 2 (Go.Proofs.YtdgbigkcophjoaaDoor.HelpInt.iv t_36)) := by
            rw [← hw_t_36, ← ht_36]
            have e_ : ([.int .i64 499, .int .i64 2001] : List Value) = (Go.Proofs.YtdgbigkcophjoaaDoor.HelpInt.iv ([499, 2001] : List Int)) := rfl
            exact Lib.hid (own_laid (n := 2) hs_t_36 e_ rfl (by unfold maxLen; omega))
          clear hs_t_36
          have hht_36 := Lib.hid ht_36
          clear ht_36
          replace nt_36 := Lib.hid nt_36
          have Dt_36_c0 := Lib.hid (Go.Proofs.YtdgbigkcophjoaaDoor.GoC.apart_cur Kt_18.out)
          have Dt_36_t_0 := Lib.hid (apart_box kt_0_0__1)
          have Dt_36_x_9 := Lib.hid (apart_box kx_9_0)
          have HBw_t_36 := Lib.hid (grown_below HBwt_18.out bw_t_36)
          have kt_0_0__13 := cell_below bw_t_36 kt_0_0__1
          have kt_0_1__14 := cell_below bw_t_36 kt_0_1__2
          have kt_0_2__15 := cell_below bw_t_36 kt_0_2__3
          have kt_0_3__16 := cell_below bw_t_36 kt_0_3__4
          have kx_9_0__17 := cell_below bw_t_36 kx_9_0
          have kx_9_1__18 := cell_below bw_t_36 kx_9_1
          have kx_9_2__19 := cell_below bw_t_36 kx_9_2
          have kx_9_3__20 := cell_below bw_t_36 kx_9_3
          replace Kt_18 := Lib.hid (Go.Proofs.YtdgbigkcophjoaaDoor.GoC.cur_below Kt_18.out bw_t_36)
          replace Ot_0 := Lib.hid (own_below Ot_0.out bw_t_36)
          replace Ox_9 := Lib.hid (own_below Ox_9.out bw_t_36)
          clear bw_t_36
          replace H := bind2_hid H
          obtain ⟨t_37, t_37_tp, qt_37, H⟩ := H
          go_wp2_with fail
          clear kt_0_0__1 kt_0_1__2 kt_0_2__3 kt_0_3__4 kx_9_0 kx_9_1 kx_9_2 kx_9_3
          have hc_ := nt_36.out
          have hv_ : (Value.slice (some ⟨wt_18.heap.size, 0, none⟩) 2 2 : Value) = Value.slice (some ⟨wt_18.heap.size, 0, none⟩) t_36.length 2 := by rw [hc_]
          try rw [hv_]
          replace Ot_36 := Lib.hid (own_len hc_ Ot_36.out)
          clear hc_ hv_
          go_wp2_with fail
          go_at_call 24
          refine (Go.Proofs.YtdgbigkcophjoaaDoor.GsL1CurAmong.C (t_18_tp) (t_36) (some ⟨wt_18.heap.size, 0, none⟩) 2 (g0) (Ac0) (cc0) (bc0) _   (Lib.hid (own_cells Ot_36.out)) (Lib.hid (own_max Ot_36.out)) Kt_18 (Lib.hid (fun _ => Dt_36_c0.out)) qt_37).mono ?_
          rintro e_t_37 wt_37 ⟨rfl, kt_37, gt_37⟩
          have Kt_37 := Lib.hid kt_37
          have Gt_37 : Hid (w_t_36.grownBy wt_37 (Value.slice (some ⟨g0, 0, none⟩) 1 1).ownBlock) := Lib.hid gt_37
          clear kt_37 gt_37
          have HBwt_37 := Lib.hid (Aid.grown_tr HBw_t_36.out Gt_37.out)
          replace kt_0_0__13 := cell_other kt_0_0__13 Gt_37.out (Apart.symm Dt_0_c0.out)
          replace kt_0_1__14 := cell_other kt_0_1__14 Gt_37.out (Apart.symm Dt_0_c0.out)
          replace kt_0_2__15 := cell_other kt_0_2__15 Gt_37.out (Apart.symm Dt_0_c0.out)
          replace kt_0_3__16 := cell_other kt_0_3__16 Gt_37.out (Apart.symm Dt_0_c0.out)
          replace kx_9_0__17 := cell_other kx_9_0__17 Gt_37.out (Apart.symm Dx_9_c0.out)
          replace kx_9_1__18 := cell_other kx_9_1__18 Gt_37.out (Apart.symm Dx_9_c0.out)
          replace kx_9_2__19 := cell_other kx_9_2__19 Gt_37.out (Apart.symm Dx_9_c0.out)
          replace kx_9_3__20 := cell_other kx_9_3__20 Gt_37.out (Apart.symm Dx_9_c0.out)
          replace Ot_0 := Lib.hid (own_other Ot_0.out Gt_37.out (Apart.symm Dt_0_c0.out))
          replace Ox_9 := Lib.hid (own_other Ox_9.out Gt_37.out (Apart.symm Dx_9_c0.out))
          replace Ot_36 := Lib.hid (own_other Ot_36.out Gt_37.out (Apart.symm Dt_36_c0.out))
          clear Kt_18 Gt_37
          obtain ⟨wb39_39, hwb39_39⟩ : ∃ x, (wt_37).setCell ⟨wt_7.heap.size, 2, none⟩ (.int .i64 t_37) = x := ⟨_, rfl⟩
          have z0b39_39 := Ox_9.out.frozenAt 2
          have Sb39_39 := Lib.hid (own_stores [(2, .int .i64 t_37)] Ox_9.out)
          have Pb39_39 : Hid (wb39_39.ownsRow w.heap.size 32 4 (.slice (some ⟨wt_7.heap.size, 0, none⟩) 1 1) 1 [.int .i64 id, .int .i64 t_3, .int .i64 t_37, .bool t_7]) := Lib.hid (by rw [← hwb39_39]; exact Sb39_39.out.1)
          have Gb39_39 : Hid (wt_37.grownBy wb39_39 (Value.slice (some ⟨wt_7.heap.size, 0, none⟩) 1 1).ownBlock) := Lib.hid (by rw [← hwb39_39]; exact Sb39_39.out.2)
          have HBwb39_39 := Lib.hid (Go.Proofs.YtdgbigkcophjoaaDoor.GoC.grown_new HBwt_37.out Gb39_39.out (Go.Proofs.YtdgbigkcophjoaaDoor.GoC.own_ge Ox_9.out))
          clear Sb39_39
          have kt_0_0__21 := cell_other kt_0_0__13 Gb39_39.out Dx_9_t_0.out
          have kt_0_1__22 := cell_other kt_0_1__14 Gb39_39.out Dx_9_t_0.out
          have kt_0_2__23 := cell_other kt_0_2__15 Gb39_39.out Dx_9_t_0.out
          have kt_0_3__24 := cell_other kt_0_3__16 Gb39_39.out Dx_9_t_0.out
          replace Ot_0 := Lib.hid (own_other Ot_0.out Gb39_39.out Dx_9_t_0.out)
          replace Ot_36 := Lib.hid (own_other Ot_36.out Gb39_39.out (Apart.symm Dt_36_x_9.out))
          replace Kt_37 := Lib.hid (Go.Proofs.YtdgbigkcophjoaaDoor.GoC.cur_otherO Kt_37.out Gb39_39.out Dx_9_c0.out L0 Ox_9.out)
          clear Ox_9 Gb39_39
          have kx_9_0__25 : wb39_39.cell? ⟨wt_7.heap.size, 0, none⟩ = some (.int .i64 id) := Pb39_39.out.cells rfl 0 _ rfl
          have kx_9_1__26 : wb39_39.cell? ⟨wt_7.heap.size, 1, none⟩ = some (.int .i64 t_3) := Pb39_39.out.cells rfl 1 _ rfl
          have kx_9_2__27 : wb39_39.cell? ⟨wt_7.heap.size, 2, none⟩ = some (.int .i64 t_37) := Pb39_39.out.cells rfl 2 _ rfl
          have kx_9_3__28 : wb39_39.cell? ⟨wt_7.heap.size, 3, none⟩ = some (.bool t_7) := Pb39_39.out.cells rfl 3 _ rfl
          obtain ⟨wb41_41, hwb41_41⟩ : ∃ x, ((((wb39_39).setCell ⟨w.heap.size, 0, none⟩ (.int .i64 id)).setCell ⟨w.heap.size, 1, none⟩ (.int .i64 t_3)).setCell ⟨w.heap.size, 2, none⟩ (.int .i64 t_37)).setCell ⟨w.heap.size, 3, none⟩ (.bool t_7) = x := ⟨_, rfl⟩
          have z0b41_41 := Ot_0.out.frozenAt 0
          have z1b41_41 := Ot_0.out.frozenAt 1
          have z2b41_41 := Ot_0.out.frozenAt 2
          have z3b41_41 := Ot_0.out.frozenAt 3
          have Sb41_41 := Lib.hid (own_stores [(0, .int .i64 id), (1, .int .i64 t_3), (2, .int .i64 t_37), (3, .bool t_7)] Ot_0.out)
          have Pb41_41 : Hid (wb41_41.ownsRow w.heap.size 32 4 (.slice (some ⟨w.heap.size, 0, none⟩) 1 1) 1 [.int .i64 id, .int .i64 t_3, .int .i64 t_37, .bool t_7]) := Lib.hid (by rw [← hwb41_41]; exact Sb41_41.out.1)
          have Gb41_41 : Hid (wb39_39.grownBy wb41_41 (Value.slice (some ⟨w.heap.size, 0, none⟩) 1 1).ownBlock) := Lib.hid (by rw [← hwb41_41]; exact Sb41_41.out.2)
          have HBwb41_41 := Lib.hid (Go.Proofs.YtdgbigkcophjoaaDoor.GoC.grown_new HBwb39_39.out Gb41_41.out (Go.Proofs.YtdgbigkcophjoaaDoor.GoC.own_ge Ot_0.out))
          clear Sb41_41
          have kx_9_0__29 := cell_other kx_9_0__25 Gb41_41.out (Apart.symm Dx_9_t_0.out)
          have kx_9_1__30 := cell_other kx_9_1__26 Gb41_41.out (Apart.symm Dx_9_t_0.out)
          have kx_9_2__31 := cell_other kx_9_2__27 Gb41_41.out (Apart.symm Dx_9_t_0.out)
          have kx_9_3__32 := cell_other kx_9_3__28 Gb41_41.out (Apart.symm Dx_9_t_0.out)
          replace Pb39_39 := Lib.hid (own_other Pb39_39.out Gb41_41.out (Apart.symm Dx_9_t_0.out))
          replace Ot_36 := Lib.hid (own_other Ot_36.out Gb41_41.out (Apart.symm Dt_36_t_0.out))
          replace Kt_37 := Lib.hid (Go.Proofs.YtdgbigkcophjoaaDoor.GoC.cur_otherO Kt_37.out Gb41_41.out Dt_0_c0.out L0 Ot_0.out)
          clear Ot_0 Gb41_41
          have kt_0_0__33 : wb41_41.cell? ⟨w.heap.size, 0, none⟩ = some (.int .i64 id) := Pb41_41.out.cells rfl 0 _ rfl
          have kt_0_1__34 : wb41_41.cell? ⟨w.heap.size, 1, none⟩ = some (.int .i64 t_3) := Pb41_41.out.cells rfl 1 _ rfl
          have kt_0_2__35 : wb41_41.cell? ⟨w.heap.size, 2, none⟩ = some (.int .i64 t_37) := Pb41_41.out.cells rfl 2 _ rfl
          have kt_0_3__36 : wb41_41.cell? ⟨w.heap.size, 3, none⟩ = some (.bool t_7) := Pb41_41.out.cells rfl 3 _ rfl
          cases ret_hid H
          go_wp2_with fail
          (try simp only [Exit.inBlock, Exit.then])
          refine bodyPost_ret (v := .agg #[.int .i64 id, .int .i64 t_3, .int .i64 t_37, .bool t_7]) ?hr_ ?hd_ ?_
          case hd_ => rfl
          case hr_ => simp [results, Tryd.results45, kt_0_0__33, kt_0_1__34, kt_0_2__35, kt_0_3__36, go_sem]
          exact ⟨rfl, Kt_37.out, HBwb41_41.out⟩
      | true =>
        replace H := ite_t H
        replace H := let_hid H
        obtain ⟨t_29, ht_29, H⟩ := H
        obtain ⟨w_t_29, hw_t_29⟩ : ∃ x, wt_18.alloc (.cells #[.int .i64 499, .int .i64 2001] 3) = x := ⟨_, rfl⟩
        have bw_t_29 : Below wt_18.heap.size wt_18 w_t_29 := by rw [← hw_t_29]; exact (Below.refl _ _).alloc (Nat.le_refl _) _
        have hs_t_29 := HBwt_18.out.size
        have nt_29 : t_29.length = 2 := by rw [← ht_29]; rfl
        have Ot_29 : Hid (w_t_29.ownsRow w.heap.size 3 1 (.slice (some ⟨wt_18.heap.size, 0, none⟩) 2 2) 2 (Go.Proofs.YtdgbigkcophjoaaDoor.HelpInt.iv t_29)) := by
          rw [← hw_t_29, ← ht_29]
          have e_ : ([.int .i64 499, .int .i64 2001] : List Value) = (Go.Proofs.YtdgbigkcophjoaaDoor.HelpInt.iv ([499, 2001] : List Int)) := rfl
          exact Lib.hid (own_laid (n := 2) hs_t_29 e_ rfl (by unfold maxLen; omega))
        clear hs_t_29
        have hht_29 := Lib.hid ht_29
        clear ht_29
        replace nt_29 := Lib.hid nt_29
        have Dt_29_c0 := Lib.hid (Go.Proofs.YtdgbigkcophjoaaDoor.GoC.apart_cur Kt_18.out)
        have Dt_29_t_0 := Lib.hid (apart_box kt_0_0__1)
        have Dt_29_x_9 := Lib.hid (apart_box kx_9_0)
        have HBw_t_29 := Lib.hid (grown_below HBwt_18.out bw_t_29)
        have kt_0_0__37 := cell_below bw_t_29 kt_0_0__1
        have kt_0_1__38 := cell_below bw_t_29 kt_0_1__2
        have kt_0_2__39 := cell_below bw_t_29 kt_0_2__3
        have kt_0_3__40 := cell_below bw_t_29 kt_0_3__4
        have kx_9_0__41 := cell_below bw_t_29 kx_9_0
        have kx_9_1__42 := cell_below bw_t_29 kx_9_1
        have kx_9_2__43 := cell_below bw_t_29 kx_9_2
        have kx_9_3__44 := cell_below bw_t_29 kx_9_3
        replace Kt_18 := Lib.hid (Go.Proofs.YtdgbigkcophjoaaDoor.GoC.cur_below Kt_18.out bw_t_29)
        replace Ot_0 := Lib.hid (own_below Ot_0.out bw_t_29)
        replace Ox_9 := Lib.hid (own_below Ox_9.out bw_t_29)
        clear bw_t_29
        replace H := bind2_hid H
        obtain ⟨t_30, t_30_tp, qt_30, H⟩ := H
        go_wp2_with fail
        clear kt_0_0__1 kt_0_1__2 kt_0_2__3 kt_0_3__4 kx_9_0 kx_9_1 kx_9_2 kx_9_3
        have hc_ := nt_29.out
        have hv_ : (Value.slice (some ⟨wt_18.heap.size, 0, none⟩) 2 2 : Value) = Value.slice (some ⟨wt_18.heap.size, 0, none⟩) t_29.length 2 := by rw [hc_]
        try rw [hv_]
        replace Ot_29 := Lib.hid (own_len hc_ Ot_29.out)
        clear hc_ hv_
        go_wp2_with fail
        go_at_call 24
        refine (Go.Proofs.YtdgbigkcophjoaaDoor.GsL1CurAmong.C (t_18_tp) (t_29) (some ⟨wt_18.heap.size, 0, none⟩) 2 (g0) (Ac0) (cc0) (bc0) _   (Lib.hid (own_cells Ot_29.out)) (Lib.hid (own_max Ot_29.out)) Kt_18 (Lib.hid (fun _ => Dt_29_c0.out)) qt_30).mono ?_
        rintro e_t_30 wt_30 ⟨rfl, kt_30, gt_30⟩
        have Kt_30 := Lib.hid kt_30
        have Gt_30 : Hid (w_t_29.grownBy wt_30 (Value.slice (some ⟨g0, 0, none⟩) 1 1).ownBlock) := Lib.hid gt_30
        clear kt_30 gt_30
        have HBwt_30 := Lib.hid (Aid.grown_tr HBw_t_29.out Gt_30.out)
        replace kt_0_0__37 := cell_other kt_0_0__37 Gt_30.out (Apart.symm Dt_0_c0.out)
        replace kt_0_1__38 := cell_other kt_0_1__38 Gt_30.out (Apart.symm Dt_0_c0.out)
        replace kt_0_2__39 := cell_other kt_0_2__39 Gt_30.out (Apart.symm Dt_0_c0.out)
        replace kt_0_3__40 := cell_other kt_0_3__40 Gt_30.out (Apart.symm Dt_0_c0.out)
        replace kx_9_0__41 := cell_other kx_9_0__41 Gt_30.out (Apart.symm Dx_9_c0.out)
        replace kx_9_1__42 := cell_other kx_9_1__42 Gt_30.out (Apart.symm Dx_9_c0.out)
        replace kx_9_2__43 := cell_other kx_9_2__43 Gt_30.out (Apart.symm Dx_9_c0.out)
        replace kx_9_3__44 := cell_other kx_9_3__44 Gt_30.out (Apart.symm Dx_9_c0.out)
        replace Ot_0 := Lib.hid (own_other Ot_0.out Gt_30.out (Apart.symm Dt_0_c0.out))
        replace Ox_9 := Lib.hid (own_other Ox_9.out Gt_30.out (Apart.symm Dx_9_c0.out))
        replace Ot_29 := Lib.hid (own_other Ot_29.out Gt_30.out (Apart.symm Dt_29_c0.out))
        clear Kt_18 Gt_30
        obtain ⟨wb32_32, hwb32_32⟩ : ∃ x, (wt_30).setCell ⟨wt_7.heap.size, 1, none⟩ (.int .i64 t_30) = x := ⟨_, rfl⟩
        have z0b32_32 := Ox_9.out.frozenAt 1
        have Sb32_32 := Lib.hid (own_stores [(1, .int .i64 t_30)] Ox_9.out)
        have Pb32_32 : Hid (wb32_32.ownsRow w.heap.size 32 4 (.slice (some ⟨wt_7.heap.size, 0, none⟩) 1 1) 1 [.int .i64 id, .int .i64 t_30, .int .i64 t_5, .bool t_7]) := Lib.hid (by rw [← hwb32_32]; exact Sb32_32.out.1)
        have Gb32_32 : Hid (wt_30.grownBy wb32_32 (Value.slice (some ⟨wt_7.heap.size, 0, none⟩) 1 1).ownBlock) := Lib.hid (by rw [← hwb32_32]; exact Sb32_32.out.2)
        have HBwb32_32 := Lib.hid (Go.Proofs.YtdgbigkcophjoaaDoor.GoC.grown_new HBwt_30.out Gb32_32.out (Go.Proofs.YtdgbigkcophjoaaDoor.GoC.own_ge Ox_9.out))
        clear Sb32_32
        have kt_0_0__45 := cell_other kt_0_0__37 Gb32_32.out Dx_9_t_0.out
        have kt_0_1__46 := cell_other kt_0_1__38 Gb32_32.out Dx_9_t_0.out
        have kt_0_2__47 := cell_other kt_0_2__39 Gb32_32.out Dx_9_t_0.out
        have kt_0_3__48 := cell_other kt_0_3__40 Gb32_32.out Dx_9_t_0.out
        replace Ot_0 := Lib.hid (own_other Ot_0.out Gb32_32.out Dx_9_t_0.out)
        replace Ot_29 := Lib.hid (own_other Ot_29.out Gb32_32.out (Apart.symm Dt_29_x_9.out))
        replace Kt_30 := Lib.hid (Go.Proofs.YtdgbigkcophjoaaDoor.GoC.cur_otherO Kt_30.out Gb32_32.out Dx_9_c0.out L0 Ox_9.out)
        clear Ox_9 Gb32_32
        have kx_9_0__49 : wb32_32.cell? ⟨wt_7.heap.size, 0, none⟩ = some (.int .i64 id) := Pb32_32.out.cells rfl 0 _ rfl
        have kx_9_1__50 : wb32_32.cell? ⟨wt_7.heap.size, 1, none⟩ = some (.int .i64 t_30) := Pb32_32.out.cells rfl 1 _ rfl
        have kx_9_2__51 : wb32_32.cell? ⟨wt_7.heap.size, 2, none⟩ = some (.int .i64 t_5) := Pb32_32.out.cells rfl 2 _ rfl
        have kx_9_3__52 : wb32_32.cell? ⟨wt_7.heap.size, 3, none⟩ = some (.bool t_7) := Pb32_32.out.cells rfl 3 _ rfl
        obtain ⟨wb41_41, hwb41_41⟩ : ∃ x, ((((wb32_32).setCell ⟨w.heap.size, 0, none⟩ (.int .i64 id)).setCell ⟨w.heap.size, 1, none⟩ (.int .i64 t_30)).setCell ⟨w.heap.size, 2, none⟩ (.int .i64 t_5)).setCell ⟨w.heap.size, 3, none⟩ (.bool t_7) = x := ⟨_, rfl⟩
        have z0b41_41 := Ot_0.out.frozenAt 0
        have z1b41_41 := Ot_0.out.frozenAt 1
        have z2b41_41 := Ot_0.out.frozenAt 2
        have z3b41_41 := Ot_0.out.frozenAt 3
        have Sb41_41 := Lib.hid (own_stores [(0, .int .i64 id), (1, .int .i64 t_30), (2, .int .i64 t_5), (3, .bool t_7)] Ot_0.out)
        have Pb41_41 : Hid (wb41_41.ownsRow w.heap.size 32 4 (.slice (some ⟨w.heap.size, 0, none⟩) 1 1) 1 [.int .i64 id, .int .i64 t_30, .int .i64 t_5, .bool t_7]) := Lib.hid (by rw [← hwb41_41]; exact Sb41_41.out.1)
        have Gb41_41 : Hid (wb32_32.grownBy wb41_41 (Value.slice (some ⟨w.heap.size, 0, none⟩) 1 1).ownBlock) := Lib.hid (by rw [← hwb41_41]; exact Sb41_41.out.2)
        have HBwb41_41 := Lib.hid (Go.Proofs.YtdgbigkcophjoaaDoor.GoC.grown_new HBwb32_32.out Gb41_41.out (Go.Proofs.YtdgbigkcophjoaaDoor.GoC.own_ge Ot_0.out))
        clear Sb41_41
        have kx_9_0__53 := cell_other kx_9_0__49 Gb41_41.out (Apart.symm Dx_9_t_0.out)
        have kx_9_1__54 := cell_other kx_9_1__50 Gb41_41.out (Apart.symm Dx_9_t_0.out)
        have kx_9_2__55 := cell_other kx_9_2__51 Gb41_41.out (Apart.symm Dx_9_t_0.out)
        have kx_9_3__56 := cell_other kx_9_3__52 Gb41_41.out (Apart.symm Dx_9_t_0.out)
        replace Pb32_32 := Lib.hid (own_other Pb32_32.out Gb41_41.out (Apart.symm Dx_9_t_0.out))
        replace Ot_29 := Lib.hid (own_other Ot_29.out Gb41_41.out (Apart.symm Dt_29_t_0.out))
        replace Kt_30 := Lib.hid (Go.Proofs.YtdgbigkcophjoaaDoor.GoC.cur_otherO Kt_30.out Gb41_41.out Dt_0_c0.out L0 Ot_0.out)
        clear Ot_0 Gb41_41
        have kt_0_0__57 : wb41_41.cell? ⟨w.heap.size, 0, none⟩ = some (.int .i64 id) := Pb41_41.out.cells rfl 0 _ rfl
        have kt_0_1__58 : wb41_41.cell? ⟨w.heap.size, 1, none⟩ = some (.int .i64 t_30) := Pb41_41.out.cells rfl 1 _ rfl
        have kt_0_2__59 : wb41_41.cell? ⟨w.heap.size, 2, none⟩ = some (.int .i64 t_5) := Pb41_41.out.cells rfl 2 _ rfl
        have kt_0_3__60 : wb41_41.cell? ⟨w.heap.size, 3, none⟩ = some (.bool t_7) := Pb41_41.out.cells rfl 3 _ rfl
        cases ret_hid H
        go_wp2_with fail
        (try simp only [Exit.inBlock, Exit.then])
        refine bodyPost_ret (v := .agg #[.int .i64 id, .int .i64 t_30, .int .i64 t_5, .bool t_7]) ?hr_ ?hd_ ?_
        case hd_ => rfl
        case hr_ => simp [results, Tryd.results45, kt_0_0__57, kt_0_1__58, kt_0_2__59, kt_0_3__60, go_sem]
        exact ⟨rfl, Kt_30.out, HBwb41_41.out⟩
    | true =>
      replace H := ite_t H
      replace H := let_hid H
      obtain ⟨t_22, ht_22, H⟩ := H
      obtain ⟨w_t_22, hw_t_22⟩ : ∃ x, wt_18.alloc (.cells #[.int .i64 0, .int .i64 99, .int .i64 100] 3) = x := ⟨_, rfl⟩
      have bw_t_22 : Below wt_18.heap.size wt_18 w_t_22 := by rw [← hw_t_22]; exact (Below.refl _ _).alloc (Nat.le_refl _) _
      have hs_t_22 := HBwt_18.out.size
      have nt_22 : t_22.length = 3 := by rw [← ht_22]; rfl
      have Ot_22 : Hid (w_t_22.ownsRow w.heap.size 3 1 (.slice (some ⟨wt_18.heap.size, 0, none⟩) 3 3) 3 (Go.Proofs.YtdgbigkcophjoaaDoor.HelpInt.iv t_22)) := by
        rw [← hw_t_22, ← ht_22]
        have e_ : ([.int .i64 0, .int .i64 99, .int .i64 100] : List Value) = (Go.Proofs.YtdgbigkcophjoaaDoor.HelpInt.iv ([0, 99, 100] : List Int)) := rfl
        exact Lib.hid (own_laid (n := 3) hs_t_22 e_ rfl (by unfold maxLen; omega))
      clear hs_t_22
      have hht_22 := Lib.hid ht_22
      clear ht_22
      replace nt_22 := Lib.hid nt_22
      have Dt_22_c0 := Lib.hid (Go.Proofs.YtdgbigkcophjoaaDoor.GoC.apart_cur Kt_18.out)
      have Dt_22_t_0 := Lib.hid (apart_box kt_0_0__1)
      have Dt_22_x_9 := Lib.hid (apart_box kx_9_0)
      have HBw_t_22 := Lib.hid (grown_below HBwt_18.out bw_t_22)
      have kt_0_0__61 := cell_below bw_t_22 kt_0_0__1
      have kt_0_1__62 := cell_below bw_t_22 kt_0_1__2
      have kt_0_2__63 := cell_below bw_t_22 kt_0_2__3
      have kt_0_3__64 := cell_below bw_t_22 kt_0_3__4
      have kx_9_0__65 := cell_below bw_t_22 kx_9_0
      have kx_9_1__66 := cell_below bw_t_22 kx_9_1
      have kx_9_2__67 := cell_below bw_t_22 kx_9_2
      have kx_9_3__68 := cell_below bw_t_22 kx_9_3
      replace Kt_18 := Lib.hid (Go.Proofs.YtdgbigkcophjoaaDoor.GoC.cur_below Kt_18.out bw_t_22)
      replace Ot_0 := Lib.hid (own_below Ot_0.out bw_t_22)
      replace Ox_9 := Lib.hid (own_below Ox_9.out bw_t_22)
      clear bw_t_22
      replace H := bind2_hid H
      obtain ⟨t_23, t_23_tp, qt_23, H⟩ := H
      go_wp2_with fail
      clear kt_0_0__1 kt_0_1__2 kt_0_2__3 kt_0_3__4 kx_9_0 kx_9_1 kx_9_2 kx_9_3
      have hc_ := nt_22.out
      have hv_ : (Value.slice (some ⟨wt_18.heap.size, 0, none⟩) 3 3 : Value) = Value.slice (some ⟨wt_18.heap.size, 0, none⟩) t_22.length 3 := by rw [hc_]
      try rw [hv_]
      replace Ot_22 := Lib.hid (own_len hc_ Ot_22.out)
      clear hc_ hv_
      go_wp2_with fail
      go_at_call 24
      refine (Go.Proofs.YtdgbigkcophjoaaDoor.GsL1CurAmong.C (t_18_tp) (t_22) (some ⟨wt_18.heap.size, 0, none⟩) 3 (g0) (Ac0) (cc0) (bc0) _   (Lib.hid (own_cells Ot_22.out)) (Lib.hid (own_max Ot_22.out)) Kt_18 (Lib.hid (fun _ => Dt_22_c0.out)) qt_23).mono ?_
      rintro e_t_23 wt_23 ⟨rfl, kt_23, gt_23⟩
      have Kt_23 := Lib.hid kt_23
      have Gt_23 : Hid (w_t_22.grownBy wt_23 (Value.slice (some ⟨g0, 0, none⟩) 1 1).ownBlock) := Lib.hid gt_23
      clear kt_23 gt_23
      have HBwt_23 := Lib.hid (Aid.grown_tr HBw_t_22.out Gt_23.out)
      replace kt_0_0__61 := cell_other kt_0_0__61 Gt_23.out (Apart.symm Dt_0_c0.out)
      replace kt_0_1__62 := cell_other kt_0_1__62 Gt_23.out (Apart.symm Dt_0_c0.out)
      replace kt_0_2__63 := cell_other kt_0_2__63 Gt_23.out (Apart.symm Dt_0_c0.out)
      replace kt_0_3__64 := cell_other kt_0_3__64 Gt_23.out (Apart.symm Dt_0_c0.out)
      replace kx_9_0__65 := cell_other kx_9_0__65 Gt_23.out (Apart.symm Dx_9_c0.out)
      replace kx_9_1__66 := cell_other kx_9_1__66 Gt_23.out (Apart.symm Dx_9_c0.out)
      replace kx_9_2__67 := cell_other kx_9_2__67 Gt_23.out (Apart.symm Dx_9_c0.out)
      replace kx_9_3__68 := cell_other kx_9_3__68 Gt_23.out (Apart.symm Dx_9_c0.out)
      replace Ot_0 := Lib.hid (own_other Ot_0.out Gt_23.out (Apart.symm Dt_0_c0.out))
      replace Ox_9 := Lib.hid (own_other Ox_9.out Gt_23.out (Apart.symm Dx_9_c0.out))
      replace Ot_22 := Lib.hid (own_other Ot_22.out Gt_23.out (Apart.symm Dt_22_c0.out))
      clear Kt_18 Gt_23
      obtain ⟨wb25_25, hwb25_25⟩ : ∃ x, (wt_23).setCell ⟨wt_7.heap.size, 0, none⟩ (.int .i64 t_23) = x := ⟨_, rfl⟩
      have z0b25_25 := Ox_9.out.frozenAt 0
      have Sb25_25 := Lib.hid (own_stores [(0, .int .i64 t_23)] Ox_9.out)
      have Pb25_25 : Hid (wb25_25.ownsRow w.heap.size 32 4 (.slice (some ⟨wt_7.heap.size, 0, none⟩) 1 1) 1 [.int .i64 t_23, .int .i64 t_3, .int .i64 t_5, .bool t_7]) := Lib.hid (by rw [← hwb25_25]; exact Sb25_25.out.1)
      have Gb25_25 : Hid (wt_23.grownBy wb25_25 (Value.slice (some ⟨wt_7.heap.size, 0, none⟩) 1 1).ownBlock) := Lib.hid (by rw [← hwb25_25]; exact Sb25_25.out.2)
      have HBwb25_25 := Lib.hid (Go.Proofs.YtdgbigkcophjoaaDoor.GoC.grown_new HBwt_23.out Gb25_25.out (Go.Proofs.YtdgbigkcophjoaaDoor.GoC.own_ge Ox_9.out))
      clear Sb25_25
      have kt_0_0__69 := cell_other kt_0_0__61 Gb25_25.out Dx_9_t_0.out
      have kt_0_1__70 := cell_other kt_0_1__62 Gb25_25.out Dx_9_t_0.out
      have kt_0_2__71 := cell_other kt_0_2__63 Gb25_25.out Dx_9_t_0.out
      have kt_0_3__72 := cell_other kt_0_3__64 Gb25_25.out Dx_9_t_0.out
      replace Ot_0 := Lib.hid (own_other Ot_0.out Gb25_25.out Dx_9_t_0.out)
      replace Ot_22 := Lib.hid (own_other Ot_22.out Gb25_25.out (Apart.symm Dt_22_x_9.out))
      replace Kt_23 := Lib.hid (Go.Proofs.YtdgbigkcophjoaaDoor.GoC.cur_otherO Kt_23.out Gb25_25.out Dx_9_c0.out L0 Ox_9.out)
      clear Ox_9 Gb25_25
      have kx_9_0__73 : wb25_25.cell? ⟨wt_7.heap.size, 0, none⟩ = some (.int .i64 t_23) := Pb25_25.out.cells rfl 0 _ rfl
      have kx_9_1__74 : wb25_25.cell? ⟨wt_7.heap.size, 1, none⟩ = some (.int .i64 t_3) := Pb25_25.out.cells rfl 1 _ rfl
      have kx_9_2__75 : wb25_25.cell? ⟨wt_7.heap.size, 2, none⟩ = some (.int .i64 t_5) := Pb25_25.out.cells rfl 2 _ rfl
      have kx_9_3__76 : wb25_25.cell? ⟨wt_7.heap.size, 3, none⟩ = some (.bool t_7) := Pb25_25.out.cells rfl 3 _ rfl
      obtain ⟨wb41_41, hwb41_41⟩ : ∃ x, ((((wb25_25).setCell ⟨w.heap.size, 0, none⟩ (.int .i64 t_23)).setCell ⟨w.heap.size, 1, none⟩ (.int .i64 t_3)).setCell ⟨w.heap.size, 2, none⟩ (.int .i64 t_5)).setCell ⟨w.heap.size, 3, none⟩ (.bool t_7) = x := ⟨_, rfl⟩
      have z0b41_41 := Ot_0.out.frozenAt 0
      have z1b41_41 := Ot_0.out.frozenAt 1
      have z2b41_41 := Ot_0.out.frozenAt 2
      have z3b41_41 := Ot_0.out.frozenAt 3
      have Sb41_41 := Lib.hid (own_stores [(0, .int .i64 t_23), (1, .int .i64 t_3), (2, .int .i64 t_5), (3, .bool t_7)] Ot_0.out)
      have Pb41_41 : Hid (wb41_41.ownsRow w.heap.size 32 4 (.slice (some ⟨w.heap.size, 0, none⟩) 1 1) 1 [.int .i64 t_23, .int .i64 t_3, .int .i64 t_5, .bool t_7]) := Lib.hid (by rw [← hwb41_41]; exact Sb41_41.out.1)
      have Gb41_41 : Hid (wb25_25.grownBy wb41_41 (Value.slice (some ⟨w.heap.size, 0, none⟩) 1 1).ownBlock) := Lib.hid (by rw [← hwb41_41]; exact Sb41_41.out.2)
      have HBwb41_41 := Lib.hid (Go.Proofs.YtdgbigkcophjoaaDoor.GoC.grown_new HBwb25_25.out Gb41_41.out (Go.Proofs.YtdgbigkcophjoaaDoor.GoC.own_ge Ot_0.out))
      clear Sb41_41
      have kx_9_0__77 := cell_other kx_9_0__73 Gb41_41.out (Apart.symm Dx_9_t_0.out)
      have kx_9_1__78 := cell_other kx_9_1__74 Gb41_41.out (Apart.symm Dx_9_t_0.out)
      have kx_9_2__79 := cell_other kx_9_2__75 Gb41_41.out (Apart.symm Dx_9_t_0.out)
      have kx_9_3__80 := cell_other kx_9_3__76 Gb41_41.out (Apart.symm Dx_9_t_0.out)
      replace Pb25_25 := Lib.hid (own_other Pb25_25.out Gb41_41.out (Apart.symm Dx_9_t_0.out))
      replace Ot_22 := Lib.hid (own_other Ot_22.out Gb41_41.out (Apart.symm Dt_22_t_0.out))
      replace Kt_23 := Lib.hid (Go.Proofs.YtdgbigkcophjoaaDoor.GoC.cur_otherO Kt_23.out Gb41_41.out Dt_0_c0.out L0 Ot_0.out)
      clear Ot_0 Gb41_41
      have kt_0_0__81 : wb41_41.cell? ⟨w.heap.size, 0, none⟩ = some (.int .i64 t_23) := Pb41_41.out.cells rfl 0 _ rfl
      have kt_0_1__82 : wb41_41.cell? ⟨w.heap.size, 1, none⟩ = some (.int .i64 t_3) := Pb41_41.out.cells rfl 1 _ rfl
      have kt_0_2__83 : wb41_41.cell? ⟨w.heap.size, 2, none⟩ = some (.int .i64 t_5) := Pb41_41.out.cells rfl 2 _ rfl
      have kt_0_3__84 : wb41_41.cell? ⟨w.heap.size, 3, none⟩ = some (.bool t_7) := Pb41_41.out.cells rfl 3 _ rfl
      cases ret_hid H
      go_wp2_with fail
      (try simp only [Exit.inBlock, Exit.then])
      refine bodyPost_ret (v := .agg #[.int .i64 t_23, .int .i64 t_3, .int .i64 t_5, .bool t_7]) ?hr_ ?hd_ ?_
      case hd_ => rfl
      case hr_ => simp [results, Tryd.results45, kt_0_0__81, kt_0_1__82, kt_0_2__83, kt_0_3__84, go_sem]
      exact ⟨rfl, Kt_23.out, HBwb41_41.out⟩
  | true =>
    replace H := ite_t H
    obtain ⟨wb16_16, hwb16_16⟩ : ∃ x, (wt_12).setCell ⟨wt_7.heap.size, 2, none⟩ (.int .i64 t_3) = x := ⟨_, rfl⟩
    have z0b16_16 := Ox_9.out.frozenAt 2
    have Sb16_16 := Lib.hid (own_stores [(2, .int .i64 t_3)] Ox_9.out)
    have Pb16_16 : Hid (wb16_16.ownsRow w.heap.size 32 4 (.slice (some ⟨wt_7.heap.size, 0, none⟩) 1 1) 1 [.int .i64 id, .int .i64 t_3, .int .i64 t_3, .bool t_7]) := Lib.hid (by rw [← hwb16_16]; exact Sb16_16.out.1)
    have Gb16_16 : Hid (wt_12.grownBy wb16_16 (Value.slice (some ⟨wt_7.heap.size, 0, none⟩) 1 1).ownBlock) := Lib.hid (by rw [← hwb16_16]; exact Sb16_16.out.2)
    have HBwb16_16 := Lib.hid (Go.Proofs.YtdgbigkcophjoaaDoor.GoC.grown_new HBwt_12.out Gb16_16.out (Go.Proofs.YtdgbigkcophjoaaDoor.GoC.own_ge Ox_9.out))
    clear Sb16_16
    have kt_0_0__85 := cell_other kt_0_0__1 Gb16_16.out Dx_9_t_0.out
    have kt_0_1__86 := cell_other kt_0_1__2 Gb16_16.out Dx_9_t_0.out
    have kt_0_2__87 := cell_other kt_0_2__3 Gb16_16.out Dx_9_t_0.out
    have kt_0_3__88 := cell_other kt_0_3__4 Gb16_16.out Dx_9_t_0.out
    replace Ot_0 := Lib.hid (own_other Ot_0.out Gb16_16.out Dx_9_t_0.out)
    replace Kt_12 := Lib.hid (Go.Proofs.YtdgbigkcophjoaaDoor.GoC.cur_otherO Kt_12.out Gb16_16.out Dx_9_c0.out L0 Ox_9.out)
    clear Ox_9 Gb16_16
    have kx_9_0__89 : wb16_16.cell? ⟨wt_7.heap.size, 0, none⟩ = some (.int .i64 id) := Pb16_16.out.cells rfl 0 _ rfl
    have kx_9_1__90 : wb16_16.cell? ⟨wt_7.heap.size, 1, none⟩ = some (.int .i64 t_3) := Pb16_16.out.cells rfl 1 _ rfl
    have kx_9_2__91 : wb16_16.cell? ⟨wt_7.heap.size, 2, none⟩ = some (.int .i64 t_3) := Pb16_16.out.cells rfl 2 _ rfl
    have kx_9_3__92 : wb16_16.cell? ⟨wt_7.heap.size, 3, none⟩ = some (.bool t_7) := Pb16_16.out.cells rfl 3 _ rfl
    unfold j0 at H
    replace H := unp4_hid H
    replace H := bind2_hid H
    obtain ⟨t_18, t_18_tp, qt_18, H⟩ := H
    go_wp2_with fail
    clear z0b16_16 kt_0_0__1 kt_0_1__2 kt_0_2__3 kt_0_3__4 kx_9_0 kx_9_1 kx_9_2 kx_9_3
    go_at_call 25
    refine (Go.Proofs.YtdgbigkcophjoaaDoor.GsL1CurPick.C (t_12_tp) (80) (g0) (Ac0) (cc0) (bc0) _   Kt_12 qt_18).mono ?_
    rintro e_t_18 wt_18 ⟨rfl, kt_18, gt_18⟩
    have Kt_18 := Lib.hid kt_18
    have Gt_18 : Hid (wb16_16.grownBy wt_18 (Value.slice (some ⟨g0, 0, none⟩) 1 1).ownBlock) := Lib.hid gt_18
    clear kt_18 gt_18
    have HBwt_18 := Lib.hid (Aid.grown_tr HBwb16_16.out Gt_18.out)
    replace kt_0_0__85 := cell_other kt_0_0__85 Gt_18.out (Apart.symm Dt_0_c0.out)
    replace kt_0_1__86 := cell_other kt_0_1__86 Gt_18.out (Apart.symm Dt_0_c0.out)
    replace kt_0_2__87 := cell_other kt_0_2__87 Gt_18.out (Apart.symm Dt_0_c0.out)
    replace kt_0_3__88 := cell_other kt_0_3__88 Gt_18.out (Apart.symm Dt_0_c0.out)
    replace kx_9_0__89 := cell_other kx_9_0__89 Gt_18.out (Apart.symm Dx_9_c0.out)
    replace kx_9_1__90 := cell_other kx_9_1__90 Gt_18.out (Apart.symm Dx_9_c0.out)
    replace kx_9_2__91 := cell_other kx_9_2__91 Gt_18.out (Apart.symm Dx_9_c0.out)
    replace kx_9_3__92 := cell_other kx_9_3__92 Gt_18.out (Apart.symm Dx_9_c0.out)
    replace Ot_0 := Lib.hid (own_other Ot_0.out Gt_18.out (Apart.symm Dt_0_c0.out))
    replace Pb16_16 := Lib.hid (own_other Pb16_16.out Gt_18.out (Apart.symm Dx_9_c0.out))
    clear Kt_12 Gt_18
    replace H := let_hid H
    obtain ⟨t_19, ht_19, H⟩ := H
    cases t_19 with
    | false =>
      replace H := ite_f H
      replace H := let_hid H
      obtain ⟨t_26, ht_26, H⟩ := H
      cases t_26 with
      | false =>
        replace H := ite_f H
        replace H := let_hid H
        obtain ⟨t_33, ht_33, H⟩ := H
        cases t_33 with
        | false =>
          replace H := ite_f H
          obtain ⟨wb41_41, hwb41_41⟩ : ∃ x, ((((wt_18).setCell ⟨w.heap.size, 0, none⟩ (.int .i64 id)).setCell ⟨w.heap.size, 1, none⟩ (.int .i64 t_3)).setCell ⟨w.heap.size, 2, none⟩ (.int .i64 t_3)).setCell ⟨w.heap.size, 3, none⟩ (.bool t_7) = x := ⟨_, rfl⟩
          have z0b41_41 := Ot_0.out.frozenAt 0
          have z1b41_41 := Ot_0.out.frozenAt 1
          have z2b41_41 := Ot_0.out.frozenAt 2
          have z3b41_41 := Ot_0.out.frozenAt 3
          have Sb41_41 := Lib.hid (own_stores [(0, .int .i64 id), (1, .int .i64 t_3), (2, .int .i64 t_3), (3, .bool t_7)] Ot_0.out)
          have Pb41_41 : Hid (wb41_41.ownsRow w.heap.size 32 4 (.slice (some ⟨w.heap.size, 0, none⟩) 1 1) 1 [.int .i64 id, .int .i64 t_3, .int .i64 t_3, .bool t_7]) := Lib.hid (by rw [← hwb41_41]; exact Sb41_41.out.1)
          have Gb41_41 : Hid (wt_18.grownBy wb41_41 (Value.slice (some ⟨w.heap.size, 0, none⟩) 1 1).ownBlock) := Lib.hid (by rw [← hwb41_41]; exact Sb41_41.out.2)
          have HBwb41_41 := Lib.hid (Go.Proofs.YtdgbigkcophjoaaDoor.GoC.grown_new HBwt_18.out Gb41_41.out (Go.Proofs.YtdgbigkcophjoaaDoor.GoC.own_ge Ot_0.out))
          clear Sb41_41
          have kx_9_0__93 := cell_other kx_9_0__89 Gb41_41.out (Apart.symm Dx_9_t_0.out)
          have kx_9_1__94 := cell_other kx_9_1__90 Gb41_41.out (Apart.symm Dx_9_t_0.out)
          have kx_9_2__95 := cell_other kx_9_2__91 Gb41_41.out (Apart.symm Dx_9_t_0.out)
          have kx_9_3__96 := cell_other kx_9_3__92 Gb41_41.out (Apart.symm Dx_9_t_0.out)
          replace Pb16_16 := Lib.hid (own_other Pb16_16.out Gb41_41.out (Apart.symm Dx_9_t_0.out))
          replace Kt_18 := Lib.hid (Go.Proofs.YtdgbigkcophjoaaDoor.GoC.cur_otherO Kt_18.out Gb41_41.out Dt_0_c0.out L0 Ot_0.out)
          clear Ot_0 Gb41_41
          have kt_0_0__97 : wb41_41.cell? ⟨w.heap.size, 0, none⟩ = some (.int .i64 id) := Pb41_41.out.cells rfl 0 _ rfl
          have kt_0_1__98 : wb41_41.cell? ⟨w.heap.size, 1, none⟩ = some (.int .i64 t_3) := Pb41_41.out.cells rfl 1 _ rfl
          have kt_0_2__99 : wb41_41.cell? ⟨w.heap.size, 2, none⟩ = some (.int .i64 t_3) := Pb41_41.out.cells rfl 2 _ rfl
          have kt_0_3__100 : wb41_41.cell? ⟨w.heap.size, 3, none⟩ = some (.bool t_7) := Pb41_41.out.cells rfl 3 _ rfl
          cases ret_hid H
          go_wp2_with fail
          (try simp only [Exit.inBlock, Exit.then])
          refine bodyPost_ret (v := .agg #[.int .i64 id, .int .i64 t_3, .int .i64 t_3, .bool t_7]) ?hr_ ?hd_ ?_
          case hd_ => rfl
          case hr_ => simp [results, Tryd.results45, kt_0_0__97, kt_0_1__98, kt_0_2__99, kt_0_3__100, go_sem]
          exact ⟨rfl, Kt_18.out, HBwb41_41.out⟩
        | true =>
          replace H := ite_t H
          replace H := let_hid H
          obtain ⟨t_36, ht_36, H⟩ := H
          obtain ⟨w_t_36, hw_t_36⟩ : ∃ x, wt_18.alloc (.cells #[.int .i64 499, .int .i64 2001] 3) = x := ⟨_, rfl⟩
          have bw_t_36 : Below wt_18.heap.size wt_18 w_t_36 := by rw [← hw_t_36]; exact (Below.refl _ _).alloc (Nat.le_refl _) _
          have hs_t_36 := HBwt_18.out.size
          have nt_36 : t_36.length = 2 := by rw [← ht_36]; rfl
          have Ot_36 : Hid (w_t_36.ownsRow w.heap.size 3 1 (.slice (some ⟨wt_18.heap.size, 0, none⟩) 2 2) 2 (Go.Proofs.YtdgbigkcophjoaaDoor.HelpInt.iv t_36)) := by
            rw [← hw_t_36, ← ht_36]
            have e_ : ([.int .i64 499, .int .i64 2001] : List Value) = (Go.Proofs.YtdgbigkcophjoaaDoor.HelpInt.iv ([499, 2001] : List Int)) := rfl
            exact Lib.hid (own_laid (n := 2) hs_t_36 e_ rfl (by unfold maxLen; omega))
          clear hs_t_36
          have hht_36 := Lib.hid ht_36
          clear ht_36
          replace nt_36 := Lib.hid nt_36
          have Dt_36_c0 := Lib.hid (Go.Proofs.YtdgbigkcophjoaaDoor.GoC.apart_cur Kt_18.out)
          have Dt_36_t_0 := Lib.hid (apart_box kt_0_0__85)
          have Dt_36_x_9 := Lib.hid (apart_box kx_9_0__89)
          have HBw_t_36 := Lib.hid (grown_below HBwt_18.out bw_t_36)
          have kt_0_0__101 := cell_below bw_t_36 kt_0_0__85
          have kt_0_1__102 := cell_below bw_t_36 kt_0_1__86
          have kt_0_2__103 := cell_below bw_t_36 kt_0_2__87
          have kt_0_3__104 := cell_below bw_t_36 kt_0_3__88
          have kx_9_0__105 := cell_below bw_t_36 kx_9_0__89
          have kx_9_1__106 := cell_below bw_t_36 kx_9_1__90
          have kx_9_2__107 := cell_below bw_t_36 kx_9_2__91
          have kx_9_3__108 := cell_below bw_t_36 kx_9_3__92
          replace Kt_18 := Lib.hid (Go.Proofs.YtdgbigkcophjoaaDoor.GoC.cur_below Kt_18.out bw_t_36)
          replace Ot_0 := Lib.hid (own_below Ot_0.out bw_t_36)
          replace Pb16_16 := Lib.hid (own_below Pb16_16.out bw_t_36)
          clear bw_t_36
          replace H := bind2_hid H
          obtain ⟨t_37, t_37_tp, qt_37, H⟩ := H
          go_wp2_with fail
          clear kt_0_0__85 kt_0_1__86 kt_0_2__87 kt_0_3__88 kx_9_0__89 kx_9_1__90 kx_9_2__91 kx_9_3__92
          have hc_ := nt_36.out
          have hv_ : (Value.slice (some ⟨wt_18.heap.size, 0, none⟩) 2 2 : Value) = Value.slice (some ⟨wt_18.heap.size, 0, none⟩) t_36.length 2 := by rw [hc_]
          try rw [hv_]
          replace Ot_36 := Lib.hid (own_len hc_ Ot_36.out)
          clear hc_ hv_
          go_wp2_with fail
          go_at_call 24
          refine (Go.Proofs.YtdgbigkcophjoaaDoor.GsL1CurAmong.C (t_18_tp) (t_36) (some ⟨wt_18.heap.size, 0, none⟩) 2 (g0) (Ac0) (cc0) (bc0) _   (Lib.hid (own_cells Ot_36.out)) (Lib.hid (own_max Ot_36.out)) Kt_18 (Lib.hid (fun _ => Dt_36_c0.out)) qt_37).mono ?_
          rintro e_t_37 wt_37 ⟨rfl, kt_37, gt_37⟩
          have Kt_37 := Lib.hid kt_37
          have Gt_37 : Hid (w_t_36.grownBy wt_37 (Value.slice (some ⟨g0, 0, none⟩) 1 1).ownBlock) := Lib.hid gt_37
          clear kt_37 gt_37
          have HBwt_37 := Lib.hid (Aid.grown_tr HBw_t_36.out Gt_37.out)
          replace kt_0_0__101 := cell_other kt_0_0__101 Gt_37.out (Apart.symm Dt_0_c0.out)
          replace kt_0_1__102 := cell_other kt_0_1__102 Gt_37.out (Apart.symm Dt_0_c0.out)
          replace kt_0_2__103 := cell_other kt_0_2__103 Gt_37.out (Apart.symm Dt_0_c0.out)
          replace kt_0_3__104 := cell_other kt_0_3__104 Gt_37.out (Apart.symm Dt_0_c0.out)
          replace kx_9_0__105 := cell_other kx_9_0__105 Gt_37.out (Apart.symm Dx_9_c0.out)
          replace kx_9_1__106 := cell_other kx_9_1__106 Gt_37.out (Apart.symm Dx_9_c0.out)
          replace kx_9_2__107 := cell_other kx_9_2__107 Gt_37.out (Apart.symm Dx_9_c0.out)
          replace kx_9_3__108 := cell_other kx_9_3__108 Gt_37.out (Apart.symm Dx_9_c0.out)
          replace Ot_0 := Lib.hid (own_other Ot_0.out Gt_37.out (Apart.symm Dt_0_c0.out))
          replace Pb16_16 := Lib.hid (own_other Pb16_16.out Gt_37.out (Apart.symm Dx_9_c0.out))
          replace Ot_36 := Lib.hid (own_other Ot_36.out Gt_37.out (Apart.symm Dt_36_c0.out))
          clear Kt_18 Gt_37
          obtain ⟨wb39_39, hwb39_39⟩ : ∃ x, (wt_37).setCell ⟨wt_7.heap.size, 2, none⟩ (.int .i64 t_37) = x := ⟨_, rfl⟩
          have z0b39_39 := Pb16_16.out.frozenAt 2
          have Sb39_39 := Lib.hid (own_stores [(2, .int .i64 t_37)] Pb16_16.out)
          have Pb39_39 : Hid (wb39_39.ownsRow w.heap.size 32 4 (.slice (some ⟨wt_7.heap.size, 0, none⟩) 1 1) 1 [.int .i64 id, .int .i64 t_3, .int .i64 t_37, .bool t_7]) := Lib.hid (by rw [← hwb39_39]; exact Sb39_39.out.1)
          have Gb39_39 : Hid (wt_37.grownBy wb39_39 (Value.slice (some ⟨wt_7.heap.size, 0, none⟩) 1 1).ownBlock) := Lib.hid (by rw [← hwb39_39]; exact Sb39_39.out.2)
          have HBwb39_39 := Lib.hid (Go.Proofs.YtdgbigkcophjoaaDoor.GoC.grown_new HBwt_37.out Gb39_39.out (Go.Proofs.YtdgbigkcophjoaaDoor.GoC.own_ge Pb16_16.out))
          clear Sb39_39
          have kt_0_0__109 := cell_other kt_0_0__101 Gb39_39.out Dx_9_t_0.out
          have kt_0_1__110 := cell_other kt_0_1__102 Gb39_39.out Dx_9_t_0.out
          have kt_0_2__111 := cell_other kt_0_2__103 Gb39_39.out Dx_9_t_0.out
          have kt_0_3__112 := cell_other kt_0_3__104 Gb39_39.out Dx_9_t_0.out
          replace Ot_0 := Lib.hid (own_other Ot_0.out Gb39_39.out Dx_9_t_0.out)
          replace Ot_36 := Lib.hid (own_other Ot_36.out Gb39_39.out (Apart.symm Dt_36_x_9.out))
          replace Kt_37 := Lib.hid (Go.Proofs.YtdgbigkcophjoaaDoor.GoC.cur_otherO Kt_37.out Gb39_39.out Dx_9_c0.out L0 Pb16_16.out)
          clear Pb16_16 Gb39_39
          have kx_9_0__113 : wb39_39.cell? ⟨wt_7.heap.size, 0, none⟩ = some (.int .i64 id) := Pb39_39.out.cells rfl 0 _ rfl
          have kx_9_1__114 : wb39_39.cell? ⟨wt_7.heap.size, 1, none⟩ = some (.int .i64 t_3) := Pb39_39.out.cells rfl 1 _ rfl
          have kx_9_2__115 : wb39_39.cell? ⟨wt_7.heap.size, 2, none⟩ = some (.int .i64 t_37) := Pb39_39.out.cells rfl 2 _ rfl
          have kx_9_3__116 : wb39_39.cell? ⟨wt_7.heap.size, 3, none⟩ = some (.bool t_7) := Pb39_39.out.cells rfl 3 _ rfl
          obtain ⟨wb41_41, hwb41_41⟩ : ∃ x, ((((wb39_39).setCell ⟨w.heap.size, 0, none⟩ (.int .i64 id)).setCell ⟨w.heap.size, 1, none⟩ (.int .i64 t_3)).setCell ⟨w.heap.size, 2, none⟩ (.int .i64 t_37)).setCell ⟨w.heap.size, 3, none⟩ (.bool t_7) = x := ⟨_, rfl⟩
          have z0b41_41 := Ot_0.out.frozenAt 0
          have z1b41_41 := Ot_0.out.frozenAt 1
          have z2b41_41 := Ot_0.out.frozenAt 2
          have z3b41_41 := Ot_0.out.frozenAt 3
          have Sb41_41 := Lib.hid (own_stores [(0, .int .i64 id), (1, .int .i64 t_3), (2, .int .i64 t_37), (3, .bool t_7)] Ot_0.out)
          have Pb41_41 : Hid (wb41_41.ownsRow w.heap.size 32 4 (.slice (some ⟨w.heap.size, 0, none⟩) 1 1) 1 [.int .i64 id, .int .i64 t_3, .int .i64 t_37, .bool t_7]) := Lib.hid (by rw [← hwb41_41]; exact Sb41_41.out.1)
          have Gb41_41 : Hid (wb39_39.grownBy wb41_41 (Value.slice (some ⟨w.heap.size, 0, none⟩) 1 1).ownBlock) := Lib.hid (by rw [← hwb41_41]; exact Sb41_41.out.2)
          have HBwb41_41 := Lib.hid (Go.Proofs.YtdgbigkcophjoaaDoor.GoC.grown_new HBwb39_39.out Gb41_41.out (Go.Proofs.YtdgbigkcophjoaaDoor.GoC.own_ge Ot_0.out))
          clear Sb41_41
          have kx_9_0__117 := cell_other kx_9_0__113 Gb41_41.out (Apart.symm Dx_9_t_0.out)
          have kx_9_1__118 := cell_other kx_9_1__114 Gb41_41.out (Apart.symm Dx_9_t_0.out)
          have kx_9_2__119 := cell_other kx_9_2__115 Gb41_41.out (Apart.symm Dx_9_t_0.out)
          have kx_9_3__120 := cell_other kx_9_3__116 Gb41_41.out (Apart.symm Dx_9_t_0.out)
          replace Pb39_39 := Lib.hid (own_other Pb39_39.out Gb41_41.out (Apart.symm Dx_9_t_0.out))
          replace Ot_36 := Lib.hid (own_other Ot_36.out Gb41_41.out (Apart.symm Dt_36_t_0.out))
          replace Kt_37 := Lib.hid (Go.Proofs.YtdgbigkcophjoaaDoor.GoC.cur_otherO Kt_37.out Gb41_41.out Dt_0_c0.out L0 Ot_0.out)
          clear Ot_0 Gb41_41
          have kt_0_0__121 : wb41_41.cell? ⟨w.heap.size, 0, none⟩ = some (.int .i64 id) := Pb41_41.out.cells rfl 0 _ rfl
          have kt_0_1__122 : wb41_41.cell? ⟨w.heap.size, 1, none⟩ = some (.int .i64 t_3) := Pb41_41.out.cells rfl 1 _ rfl
          have kt_0_2__123 : wb41_41.cell? ⟨w.heap.size, 2, none⟩ = some (.int .i64 t_37) := Pb41_41.out.cells rfl 2 _ rfl
          have kt_0_3__124 : wb41_41.cell? ⟨w.heap.size, 3, none⟩ = some (.bool t_7) := Pb41_41.out.cells rfl 3 _ rfl
          cases ret_hid H
          go_wp2_with fail
          (try simp only [Exit.inBlock, Exit.then])
          refine bodyPost_ret (v := .agg #[.int .i64 id, .int .i64 t_3, .int .i64 t_37, .bool t_7]) ?hr_ ?hd_ ?_
          case hd_ => rfl
          case hr_ => simp [results, Tryd.results45, kt_0_0__121, kt_0_1__122, kt_0_2__123, kt_0_3__124, go_sem]
          exact ⟨rfl, Kt_37.out, HBwb41_41.out⟩
      | true =>
        replace H := ite_t H
        replace H := let_hid H
        obtain ⟨t_29, ht_29, H⟩ := H
        obtain ⟨w_t_29, hw_t_29⟩ : ∃ x, wt_18.alloc (.cells #[.int .i64 499, .int .i64 2001] 3) = x := ⟨_, rfl⟩
        have bw_t_29 : Below wt_18.heap.size wt_18 w_t_29 := by rw [← hw_t_29]; exact (Below.refl _ _).alloc (Nat.le_refl _) _
        have hs_t_29 := HBwt_18.out.size
        have nt_29 : t_29.length = 2 := by rw [← ht_29]; rfl
        have Ot_29 : Hid (w_t_29.ownsRow w.heap.size 3 1 (.slice (some ⟨wt_18.heap.size, 0, none⟩) 2 2) 2 (Go.Proofs.YtdgbigkcophjoaaDoor.HelpInt.iv t_29)) := by
          rw [← hw_t_29, ← ht_29]
          have e_ : ([.int .i64 499, .int .i64 2001] : List Value) = (Go.Proofs.YtdgbigkcophjoaaDoor.HelpInt.iv ([499, 2001] : List Int)) := rfl
          exact Lib.hid (own_laid (n := 2) hs_t_29 e_ rfl (by unfold maxLen; omega))
        clear hs_t_29
        have hht_29 := Lib.hid ht_29
        clear ht_29
        replace nt_29 := Lib.hid nt_29
        have Dt_29_c0 := Lib.hid (Go.Proofs.YtdgbigkcophjoaaDoor.GoC.apart_cur Kt_18.out)
        have Dt_29_t_0 := Lib.hid (apart_box kt_0_0__85)
        have Dt_29_x_9 := Lib.hid (apart_box kx_9_0__89)
        have HBw_t_29 := Lib.hid (grown_below HBwt_18.out bw_t_29)
        have kt_0_0__125 := cell_below bw_t_29 kt_0_0__85
        have kt_0_1__126 := cell_below bw_t_29 kt_0_1__86
        have kt_0_2__127 := cell_below bw_t_29 kt_0_2__87
        have kt_0_3__128 := cell_below bw_t_29 kt_0_3__88
        have kx_9_0__129 := cell_below bw_t_29 kx_9_0__89
        have kx_9_1__130 := cell_below bw_t_29 kx_9_1__90
        have kx_9_2__131 := cell_below bw_t_29 kx_9_2__91
        have kx_9_3__132 := cell_below bw_t_29 kx_9_3__92
        replace Kt_18 := Lib.hid (Go.Proofs.YtdgbigkcophjoaaDoor.GoC.cur_below Kt_18.out bw_t_29)
        replace Ot_0 := Lib.hid (own_below Ot_0.out bw_t_29)
        replace Pb16_16 := Lib.hid (own_below Pb16_16.out bw_t_29)
        clear bw_t_29
        replace H := bind2_hid H
        obtain ⟨t_30, t_30_tp, qt_30, H⟩ := H
        go_wp2_with fail
        clear kt_0_0__85 kt_0_1__86 kt_0_2__87 kt_0_3__88 kx_9_0__89 kx_9_1__90 kx_9_2__91 kx_9_3__92
        have hc_ := nt_29.out
        have hv_ : (Value.slice (some ⟨wt_18.heap.size, 0, none⟩) 2 2 : Value) = Value.slice (some ⟨wt_18.heap.size, 0, none⟩) t_29.length 2 := by rw [hc_]
        try rw [hv_]
        replace Ot_29 := Lib.hid (own_len hc_ Ot_29.out)
        clear hc_ hv_
        go_wp2_with fail
        go_at_call 24
        refine (Go.Proofs.YtdgbigkcophjoaaDoor.GsL1CurAmong.C (t_18_tp) (t_29) (some ⟨wt_18.heap.size, 0, none⟩) 2 (g0) (Ac0) (cc0) (bc0) _   (Lib.hid (own_cells Ot_29.out)) (Lib.hid (own_max Ot_29.out)) Kt_18 (Lib.hid (fun _ => Dt_29_c0.out)) qt_30).mono ?_
        rintro e_t_30 wt_30 ⟨rfl, kt_30, gt_30⟩
        have Kt_30 := Lib.hid kt_30
        have Gt_30 : Hid (w_t_29.grownBy wt_30 (Value.slice (some ⟨g0, 0, none⟩) 1 1).ownBlock) := Lib.hid gt_30
        clear kt_30 gt_30
        have HBwt_30 := Lib.hid (Aid.grown_tr HBw_t_29.out Gt_30.out)
        replace kt_0_0__125 := cell_other kt_0_0__125 Gt_30.out (Apart.symm Dt_0_c0.out)
        replace kt_0_1__126 := cell_other kt_0_1__126 Gt_30.out (Apart.symm Dt_0_c0.out)
        replace kt_0_2__127 := cell_other kt_0_2__127 Gt_30.out (Apart.symm Dt_0_c0.out)
        replace kt_0_3__128 := cell_other kt_0_3__128 Gt_30.out (Apart.symm Dt_0_c0.out)
        replace kx_9_0__129 := cell_other kx_9_0__129 Gt_30.out (Apart.symm Dx_9_c0.out)
        replace kx_9_1__130 := cell_other kx_9_1__130 Gt_30.out (Apart.symm Dx_9_c0.out)
        replace kx_9_2__131 := cell_other kx_9_2__131 Gt_30.out (Apart.symm Dx_9_c0.out)
        replace kx_9_3__132 := cell_other kx_9_3__132 Gt_30.out (Apart.symm Dx_9_c0.out)
        replace Ot_0 := Lib.hid (own_other Ot_0.out Gt_30.out (Apart.symm Dt_0_c0.out))
        replace Pb16_16 := Lib.hid (own_other Pb16_16.out Gt_30.out (Apart.symm Dx_9_c0.out))
        replace Ot_29 := Lib.hid (own_other Ot_29.out Gt_30.out (Apart.symm Dt_29_c0.out))
        clear Kt_18 Gt_30
        obtain ⟨wb32_32, hwb32_32⟩ : ∃ x, (wt_30).setCell ⟨wt_7.heap.size, 1, none⟩ (.int .i64 t_30) = x := ⟨_, rfl⟩
        have z0b32_32 := Pb16_16.out.frozenAt 1
        have Sb32_32 := Lib.hid (own_stores [(1, .int .i64 t_30)] Pb16_16.out)
        have Pb32_32 : Hid (wb32_32.ownsRow w.heap.size 32 4 (.slice (some ⟨wt_7.heap.size, 0, none⟩) 1 1) 1 [.int .i64 id, .int .i64 t_30, .int .i64 t_3, .bool t_7]) := Lib.hid (by rw [← hwb32_32]; exact Sb32_32.out.1)
        have Gb32_32 : Hid (wt_30.grownBy wb32_32 (Value.slice (some ⟨wt_7.heap.size, 0, none⟩) 1 1).ownBlock) := Lib.hid (by rw [← hwb32_32]; exact Sb32_32.out.2)
        have HBwb32_32 := Lib.hid (Go.Proofs.YtdgbigkcophjoaaDoor.GoC.grown_new HBwt_30.out Gb32_32.out (Go.Proofs.YtdgbigkcophjoaaDoor.GoC.own_ge Pb16_16.out))
        clear Sb32_32
        have kt_0_0__133 := cell_other kt_0_0__125 Gb32_32.out Dx_9_t_0.out
        have kt_0_1__134 := cell_other kt_0_1__126 Gb32_32.out Dx_9_t_0.out
        have kt_0_2__135 := cell_other kt_0_2__127 Gb32_32.out Dx_9_t_0.out
        have kt_0_3__136 := cell_other kt_0_3__128 Gb32_32.out Dx_9_t_0.out
        replace Ot_0 := Lib.hid (own_other Ot_0.out Gb32_32.out Dx_9_t_0.out)
        replace Ot_29 := Lib.hid (own_other Ot_29.out Gb32_32.out (Apart.symm Dt_29_x_9.out))
        replace Kt_30 := Lib.hid (Go.Proofs.YtdgbigkcophjoaaDoor.GoC.cur_otherO Kt_30.out Gb32_32.out Dx_9_c0.out L0 Pb16_16.out)
        clear Pb16_16 Gb32_32
        have kx_9_0__137 : wb32_32.cell? ⟨wt_7.heap.size, 0, none⟩ = some (.int .i64 id) := Pb32_32.out.cells rfl 0 _ rfl
        have kx_9_1__138 : wb32_32.cell? ⟨wt_7.heap.size, 1, none⟩ = some (.int .i64 t_30) := Pb32_32.out.cells rfl 1 _ rfl
        have kx_9_2__139 : wb32_32.cell? ⟨wt_7.heap.size, 2, none⟩ = some (.int .i64 t_3) := Pb32_32.out.cells rfl 2 _ rfl
        have kx_9_3__140 : wb32_32.cell? ⟨wt_7.heap.size, 3, none⟩ = some (.bool t_7) := Pb32_32.out.cells rfl 3 _ rfl
        obtain ⟨wb41_41, hwb41_41⟩ : ∃ x, ((((wb32_32).setCell ⟨w.heap.size, 0, none⟩ (.int .i64 id)).setCell ⟨w.heap.size, 1, none⟩ (.int .i64 t_30)).setCell ⟨w.heap.size, 2, none⟩ (.int .i64 t_3)).setCell ⟨w.heap.size, 3, none⟩ (.bool t_7) = x := ⟨_, rfl⟩
        have z0b41_41 := Ot_0.out.frozenAt 0
        have z1b41_41 := Ot_0.out.frozenAt 1
        have z2b41_41 := Ot_0.out.frozenAt 2
        have z3b41_41 := Ot_0.out.frozenAt 3
        have Sb41_41 := Lib.hid (own_stores [(0, .int .i64 id), (1, .int .i64 t_30), (2, .int .i64 t_3), (3, .bool t_7)] Ot_0.out)
        have Pb41_41 : Hid (wb41_41.ownsRow w.heap.size 32 4 (.slice (some ⟨w.heap.size, 0, none⟩) 1 1) 1 [.int .i64 id, .int .i64 t_30, .int .i64 t_3, .bool t_7]) := Lib.hid (by rw [← hwb41_41]; exact Sb41_41.out.1)
        have Gb41_41 : Hid (wb32_32.grownBy wb41_41 (Value.slice (some ⟨w.heap.size, 0, none⟩) 1 1).ownBlock) := Lib.hid (by rw [← hwb41_41]; exact Sb41_41.out.2)
        have HBwb41_41 := Lib.hid (Go.Proofs.YtdgbigkcophjoaaDoor.GoC.grown_new HBwb32_32.out Gb41_41.out (Go.Proofs.YtdgbigkcophjoaaDoor.GoC.own_ge Ot_0.out))
        clear Sb41_41
        have kx_9_0__141 := cell_other kx_9_0__137 Gb41_41.out (Apart.symm Dx_9_t_0.out)
        have kx_9_1__142 := cell_other kx_9_1__138 Gb41_41.out (Apart.symm Dx_9_t_0.out)
        have kx_9_2__143 := cell_other kx_9_2__139 Gb41_41.out (Apart.symm Dx_9_t_0.out)
        have kx_9_3__144 := cell_other kx_9_3__140 Gb41_41.out (Apart.symm Dx_9_t_0.out)
        replace Pb32_32 := Lib.hid (own_other Pb32_32.out Gb41_41.out (Apart.symm Dx_9_t_0.out))
        replace Ot_29 := Lib.hid (own_other Ot_29.out Gb41_41.out (Apart.symm Dt_29_t_0.out))
        replace Kt_30 := Lib.hid (Go.Proofs.YtdgbigkcophjoaaDoor.GoC.cur_otherO Kt_30.out Gb41_41.out Dt_0_c0.out L0 Ot_0.out)
        clear Ot_0 Gb41_41
        have kt_0_0__145 : wb41_41.cell? ⟨w.heap.size, 0, none⟩ = some (.int .i64 id) := Pb41_41.out.cells rfl 0 _ rfl
        have kt_0_1__146 : wb41_41.cell? ⟨w.heap.size, 1, none⟩ = some (.int .i64 t_30) := Pb41_41.out.cells rfl 1 _ rfl
        have kt_0_2__147 : wb41_41.cell? ⟨w.heap.size, 2, none⟩ = some (.int .i64 t_3) := Pb41_41.out.cells rfl 2 _ rfl
        have kt_0_3__148 : wb41_41.cell? ⟨w.heap.size, 3, none⟩ = some (.bool t_7) := Pb41_41.out.cells rfl 3 _ rfl
        cases ret_hid H
        go_wp2_with fail
        (try simp only [Exit.inBlock, Exit.then])
        refine bodyPost_ret (v := .agg #[.int .i64 id, .int .i64 t_30, .int .i64 t_3, .bool t_7]) ?hr_ ?hd_ ?_
        case hd_ => rfl
        case hr_ => simp [results, Tryd.results45, kt_0_0__145, kt_0_1__146, kt_0_2__147, kt_0_3__148, go_sem]
        exact ⟨rfl, Kt_30.out, HBwb41_41.out⟩
    | true =>
      replace H := ite_t H
      replace H := let_hid H
      obtain ⟨t_22, ht_22, H⟩ := H
      obtain ⟨w_t_22, hw_t_22⟩ : ∃ x, wt_18.alloc (.cells #[.int .i64 0, .int .i64 99, .int .i64 100] 3) = x := ⟨_, rfl⟩
      have bw_t_22 : Below wt_18.heap.size wt_18 w_t_22 := by rw [← hw_t_22]; exact (Below.refl _ _).alloc (Nat.le_refl _) _
      have hs_t_22 := HBwt_18.out.size
      have nt_22 : t_22.length = 3 := by rw [← ht_22]; rfl
      have Ot_22 : Hid (w_t_22.ownsRow w.heap.size 3 1 (.slice (some ⟨wt_18.heap.size, 0, none⟩) 3 3) 3 (Go.Proofs.YtdgbigkcophjoaaDoor.HelpInt.iv t_22)) := by
        rw [← hw_t_22, ← ht_22]
        have e_ : ([.int .i64 0, .int .i64 99, .int .i64 100] : List Value) = (Go.Proofs.YtdgbigkcophjoaaDoor.HelpInt.iv ([0, 99, 100] : List Int)) := rfl
        exact Lib.hid (own_laid (n := 3) hs_t_22 e_ rfl (by unfold maxLen; omega))
      clear hs_t_22
      have hht_22 := Lib.hid ht_22
      clear ht_22
      replace nt_22 := Lib.hid nt_22
      have Dt_22_c0 := Lib.hid (Go.Proofs.YtdgbigkcophjoaaDoor.GoC.apart_cur Kt_18.out)
      have Dt_22_t_0 := Lib.hid (apart_box kt_0_0__85)
      have Dt_22_x_9 := Lib.hid (apart_box kx_9_0__89)
      have HBw_t_22 := Lib.hid (grown_below HBwt_18.out bw_t_22)
      have kt_0_0__149 := cell_below bw_t_22 kt_0_0__85
      have kt_0_1__150 := cell_below bw_t_22 kt_0_1__86
      have kt_0_2__151 := cell_below bw_t_22 kt_0_2__87
      have kt_0_3__152 := cell_below bw_t_22 kt_0_3__88
      have kx_9_0__153 := cell_below bw_t_22 kx_9_0__89
      have kx_9_1__154 := cell_below bw_t_22 kx_9_1__90
      have kx_9_2__155 := cell_below bw_t_22 kx_9_2__91
      have kx_9_3__156 := cell_below bw_t_22 kx_9_3__92
      replace Kt_18 := Lib.hid (Go.Proofs.YtdgbigkcophjoaaDoor.GoC.cur_below Kt_18.out bw_t_22)
      replace Ot_0 := Lib.hid (own_below Ot_0.out bw_t_22)
      replace Pb16_16 := Lib.hid (own_below Pb16_16.out bw_t_22)
      clear bw_t_22
      replace H := bind2_hid H
      obtain ⟨t_23, t_23_tp, qt_23, H⟩ := H
      go_wp2_with fail
      clear kt_0_0__85 kt_0_1__86 kt_0_2__87 kt_0_3__88 kx_9_0__89 kx_9_1__90 kx_9_2__91 kx_9_3__92
      have hc_ := nt_22.out
      have hv_ : (Value.slice (some ⟨wt_18.heap.size, 0, none⟩) 3 3 : Value) = Value.slice (some ⟨wt_18.heap.size, 0, none⟩) t_22.length 3 := by rw [hc_]
      try rw [hv_]
      replace Ot_22 := Lib.hid (own_len hc_ Ot_22.out)
      clear hc_ hv_
      go_wp2_with fail
      go_at_call 24
      refine (Go.Proofs.YtdgbigkcophjoaaDoor.GsL1CurAmong.C (t_18_tp) (t_22) (some ⟨wt_18.heap.size, 0, none⟩) 3 (g0) (Ac0) (cc0) (bc0) _   (Lib.hid (own_cells Ot_22.out)) (Lib.hid (own_max Ot_22.out)) Kt_18 (Lib.hid (fun _ => Dt_22_c0.out)) qt_23).mono ?_
      rintro e_t_23 wt_23 ⟨rfl, kt_23, gt_23⟩
      have Kt_23 := Lib.hid kt_23
      have Gt_23 : Hid (w_t_22.grownBy wt_23 (Value.slice (some ⟨g0, 0, none⟩) 1 1).ownBlock) := Lib.hid gt_23
      clear kt_23 gt_23
      have HBwt_23 := Lib.hid (Aid.grown_tr HBw_t_22.out Gt_23.out)
      replace kt_0_0__149 := cell_other kt_0_0__149 Gt_23.out (Apart.symm Dt_0_c0.out)
      replace kt_0_1__150 := cell_other kt_0_1__150 Gt_23.out (Apart.symm Dt_0_c0.out)
      replace kt_0_2__151 := cell_other kt_0_2__151 Gt_23.out (Apart.symm Dt_0_c0.out)
      replace kt_0_3__152 := cell_other kt_0_3__152 Gt_23.out (Apart.symm Dt_0_c0.out)
      replace kx_9_0__153 := cell_other kx_9_0__153 Gt_23.out (Apart.symm Dx_9_c0.out)
      replace kx_9_1__154 := cell_other kx_9_1__154 Gt_23.out (Apart.symm Dx_9_c0.out)
      replace kx_9_2__155 := cell_other kx_9_2__155 Gt_23.out (Apart.symm Dx_9_c0.out)
      replace kx_9_3__156 := cell_other kx_9_3__156 Gt_23.out (Apart.symm Dx_9_c0.out)
      replace Ot_0 := Lib.hid (own_other Ot_0.out Gt_23.out (Apart.symm Dt_0_c0.out))
      replace Pb16_16 := Lib.hid (own_other Pb16_16.out Gt_23.out (Apart.symm Dx_9_c0.out))
      replace Ot_22 := Lib.hid (own_other Ot_22.out Gt_23.out (Apart.symm Dt_22_c0.out))
      clear Kt_18 Gt_23
      obtain ⟨wb25_25, hwb25_25⟩ : ∃ x, (wt_23).setCell ⟨wt_7.heap.size, 0, none⟩ (.int .i64 t_23) = x := ⟨_, rfl⟩
      have z0b25_25 := Pb16_16.out.frozenAt 0
      have Sb25_25 := Lib.hid (own_stores [(0, .int .i64 t_23)] Pb16_16.out)
      have Pb25_25 : Hid (wb25_25.ownsRow w.heap.size 32 4 (.slice (some ⟨wt_7.heap.size, 0, none⟩) 1 1) 1 [.int .i64 t_23, .int .i64 t_3, .int .i64 t_3, .bool t_7]) := Lib.hid (by rw [← hwb25_25]; exact Sb25_25.out.1)
      have Gb25_25 : Hid (wt_23.grownBy wb25_25 (Value.slice (some ⟨wt_7.heap.size, 0, none⟩) 1 1).ownBlock) := Lib.hid (by rw [← hwb25_25]; exact Sb25_25.out.2)
      have HBwb25_25 := Lib.hid (Go.Proofs.YtdgbigkcophjoaaDoor.GoC.grown_new HBwt_23.out Gb25_25.out (Go.Proofs.YtdgbigkcophjoaaDoor.GoC.own_ge Pb16_16.out))
      clear Sb25_25
      have kt_0_0__157 := cell_other kt_0_0__149 Gb25_25.out Dx_9_t_0.out
      have kt_0_1__158 := cell_other kt_0_1__150 Gb25_25.out Dx_9_t_0.out
      have kt_0_2__159 := cell_other kt_0_2__151 Gb25_25.out Dx_9_t_0.out
      have kt_0_3__160 := cell_other kt_0_3__152 Gb25_25.out Dx_9_t_0.out
      replace Ot_0 := Lib.hid (own_other Ot_0.out Gb25_25.out Dx_9_t_0.out)
      replace Ot_22 := Lib.hid (own_other Ot_22.out Gb25_25.out (Apart.symm Dt_22_x_9.out))
      replace Kt_23 := Lib.hid (Go.Proofs.YtdgbigkcophjoaaDoor.GoC.cur_otherO Kt_23.out Gb25_25.out Dx_9_c0.out L0 Pb16_16.out)
      clear Pb16_16 Gb25_25
      have kx_9_0__161 : wb25_25.cell? ⟨wt_7.heap.size, 0, none⟩ = some (.int .i64 t_23) := Pb25_25.out.cells rfl 0 _ rfl
      have kx_9_1__162 : wb25_25.cell? ⟨wt_7.heap.size, 1, none⟩ = some (.int .i64 t_3) := Pb25_25.out.cells rfl 1 _ rfl
      have kx_9_2__163 : wb25_25.cell? ⟨wt_7.heap.size, 2, none⟩ = some (.int .i64 t_3) := Pb25_25.out.cells rfl 2 _ rfl
      have kx_9_3__164 : wb25_25.cell? ⟨wt_7.heap.size, 3, none⟩ = some (.bool t_7) := Pb25_25.out.cells rfl 3 _ rfl
      obtain ⟨wb41_41, hwb41_41⟩ : ∃ x, ((((wb25_25).setCell ⟨w.heap.size, 0, none⟩ (.int .i64 t_23)).setCell ⟨w.heap.size, 1, none⟩ (.int .i64 t_3)).setCell ⟨w.heap.size, 2, none⟩ (.int .i64 t_3)).setCell ⟨w.heap.size, 3, none⟩ (.bool t_7) = x := ⟨_, rfl⟩
      have z0b41_41 := Ot_0.out.frozenAt 0
      have z1b41_41 := Ot_0.out.frozenAt 1
      have z2b41_41 := Ot_0.out.frozenAt 2
      have z3b41_41 := Ot_0.out.frozenAt 3
      have Sb41_41 := Lib.hid (own_stores [(0, .int .i64 t_23), (1, .int .i64 t_3), (2, .int .i64 t_3), (3, .bool t_7)] Ot_0.out)
      have Pb41_41 : Hid (wb41_41.ownsRow w.heap.size 32 4 (.slice (some ⟨w.heap.size, 0, none⟩) 1 1) 1 [.int .i64 t_23, .int .i64 t_3, .int .i64 t_3, .bool t_7]) := Lib.hid (by rw [← hwb41_41]; exact Sb41_41.out.1)
      have Gb41_41 : Hid (wb25_25.grownBy wb41_41 (Value.slice (some ⟨w.heap.size, 0, none⟩) 1 1).ownBlock) := Lib.hid (by rw [← hwb41_41]; exact Sb41_41.out.2)
      have HBwb41_41 := Lib.hid (Go.Proofs.YtdgbigkcophjoaaDoor.GoC.grown_new HBwb25_25.out Gb41_41.out (Go.Proofs.YtdgbigkcophjoaaDoor.GoC.own_ge Ot_0.out))
      clear Sb41_41
      have kx_9_0__165 := cell_other kx_9_0__161 Gb41_41.out (Apart.symm Dx_9_t_0.out)
      have kx_9_1__166 := cell_other kx_9_1__162 Gb41_41.out (Apart.symm Dx_9_t_0.out)
      have kx_9_2__167 := cell_other kx_9_2__163 Gb41_41.out (Apart.symm Dx_9_t_0.out)
      have kx_9_3__168 := cell_other kx_9_3__164 Gb41_41.out (Apart.symm Dx_9_t_0.out)
      replace Pb25_25 := Lib.hid (own_other Pb25_25.out Gb41_41.out (Apart.symm Dx_9_t_0.out))
      replace Ot_22 := Lib.hid (own_other Ot_22.out Gb41_41.out (Apart.symm Dt_22_t_0.out))
      replace Kt_23 := Lib.hid (Go.Proofs.YtdgbigkcophjoaaDoor.GoC.cur_otherO Kt_23.out Gb41_41.out Dt_0_c0.out L0 Ot_0.out)
      clear Ot_0 Gb41_41
      have kt_0_0__169 : wb41_41.cell? ⟨w.heap.size, 0, none⟩ = some (.int .i64 t_23) := Pb41_41.out.cells rfl 0 _ rfl
      have kt_0_1__170 : wb41_41.cell? ⟨w.heap.size, 1, none⟩ = some (.int .i64 t_3) := Pb41_41.out.cells rfl 1 _ rfl
      have kt_0_2__171 : wb41_41.cell? ⟨w.heap.size, 2, none⟩ = some (.int .i64 t_3) := Pb41_41.out.cells rfl 2 _ rfl
      have kt_0_3__172 : wb41_41.cell? ⟨w.heap.size, 3, none⟩ = some (.bool t_7) := Pb41_41.out.cells rfl 3 _ rfl
      cases ret_hid H
      go_wp2_with fail
      (try simp only [Exit.inBlock, Exit.then])
      refine bodyPost_ret (v := .agg #[.int .i64 t_23, .int .i64 t_3, .int .i64 t_3, .bool t_7]) ?hr_ ?hd_ ?_
      case hd_ => rfl
      case hr_ => simp [results, Tryd.results45, kt_0_0__169, kt_0_1__170, kt_0_2__171, kt_0_3__172, go_sem]
      exact ⟨rfl, Kt_23.out, HBwb41_41.out⟩
end Go.Proofs.YtdgbigkcophjoaaDoor.GsL1CurComb5

/- (*loop.example/g01062/spec.l1Cur).combs5 as a plain function, and the contract of the program's: where the plain one has an answer, the program has it. Conditions: slices read as lists. -/
namespace Go.Proofs.YtdgbigkcophjoaaDoor.GsL1CurCombs5
set_option linter.unusedVariables false
set_option linter.unusedSimpArgs false
open Go.RowKit
open Go.Proofs.YtdgbigkcophjoaaDoor.Rowed Go.Proofs.YtdgbigkcophjoaaDoor.Turn Go.Proofs.YtdgbigkcophjoaaDoor.Aid Go.Proofs.YtdgbigkcophjoaaDoor.GoP Go.Proofs.YtdgbigkcophjoaaDoor.GoM

def l0  (s : (List Go.Proofs.YtdgbigkcophjoaaDoor.PComb.Comb) × Int × Int × Go.Proofs.YtdgbigkcophjoaaDoor.GoC.Tape) (nx0 bk0 : (List Go.Proofs.YtdgbigkcophjoaaDoor.PComb.Comb) × Int × Int × Go.Proofs.YtdgbigkcophjoaaDoor.GoC.Tape → Option ((List Go.Proofs.YtdgbigkcophjoaaDoor.PComb.Comb) × Go.Proofs.YtdgbigkcophjoaaDoor.GoC.Tape)) : Option ((List Go.Proofs.YtdgbigkcophjoaaDoor.PComb.Comb) × Go.Proofs.YtdgbigkcophjoaaDoor.GoC.Tape) :=
  unp4 s fun out_3l0 id_4l0 n_5l0 c0_c0l0 =>
  letK (decide (0 < n_5l0)) fun (t_8 : Bool) =>
  iteK t_8
  (letK (IntKind.i64.wrap (id_4l0 + 1)) fun (t_10 : Int) =>
  bind2 (Go.Proofs.YtdgbigkcophjoaaDoor.GsL1CurPick.P c0_c0l0 3) fun (t_12 : Int) (t_12_tp : Go.Proofs.YtdgbigkcophjoaaDoor.GoC.Tape) =>
  letK (IntKind.i64.wrap (t_10 + t_12)) fun (t_13 : Int) =>
  bind2 (Go.Proofs.YtdgbigkcophjoaaDoor.GsL1CurPick.P t_12_tp 150) fun (t_15 : Int) (t_15_tp : Go.Proofs.YtdgbigkcophjoaaDoor.GoC.Tape) =>
  letK (IntKind.i64.wrap (Int.tdiv t_15 149)) fun (t_16 : Int) =>
  letK (IntKind.i64.wrap (t_13 - t_16)) fun (t_17 : Int) =>
  bind2 (Go.Proofs.YtdgbigkcophjoaaDoor.GsL1CurComb5.P t_15_tp t_17) fun (t_22 : Go.Proofs.YtdgbigkcophjoaaDoor.PComb.Comb) (t_22_tp : Go.Proofs.YtdgbigkcophjoaaDoor.GoC.Tape) =>
  unComb t_22 fun (t_22_id : Int) (t_22_wide : Int) (t_22_high : Int) (t_22_line : Bool) =>
  guardK (out_3l0.length ≤ 1099511627776) <|
  letK (out_3l0 ++ [(Go.Proofs.YtdgbigkcophjoaaDoor.PComb.Comb.mk t_22_id t_22_wide t_22_high t_22_line)]) fun (t_24 : (List Go.Proofs.YtdgbigkcophjoaaDoor.PComb.Comb)) =>
  letK (IntKind.i64.wrap (n_5l0 - 1)) fun (t_27 : Int) =>
  appK nx0 (t_24, t_17, t_27, t_22_tp))
  (appK bk0 (out_3l0, id_4l0, n_5l0, c0_c0l0))

def j0  (s : (List Go.Proofs.YtdgbigkcophjoaaDoor.PComb.Comb) × Go.Proofs.YtdgbigkcophjoaaDoor.GoC.Tape) : Option ((List Go.Proofs.YtdgbigkcophjoaaDoor.PComb.Comb) × Go.Proofs.YtdgbigkcophjoaaDoor.GoC.Tape) :=
  unp2 s fun out_3j0 c0_c0j0 =>
  some (out_3j0, c0_c0j0)

def l1  (s : (List Go.Proofs.YtdgbigkcophjoaaDoor.PComb.Comb) × Int × Go.Proofs.YtdgbigkcophjoaaDoor.GoC.Tape) (nx1 bk1 : (List Go.Proofs.YtdgbigkcophjoaaDoor.PComb.Comb) × Int × Go.Proofs.YtdgbigkcophjoaaDoor.GoC.Tape → Option ((List Go.Proofs.YtdgbigkcophjoaaDoor.PComb.Comb) × Go.Proofs.YtdgbigkcophjoaaDoor.GoC.Tape)) : Option ((List Go.Proofs.YtdgbigkcophjoaaDoor.PComb.Comb) × Go.Proofs.YtdgbigkcophjoaaDoor.GoC.Tape) :=
  unp3 s fun out_3l1 n_6l1 c0_c0l1 =>
  bind2 (Go.Proofs.YtdgbigkcophjoaaDoor.GsL1CurPick.P c0_c0l1 2) fun (t_36 : Int) (t_36_tp : Go.Proofs.YtdgbigkcophjoaaDoor.GoC.Tape) =>
  letK (IntKind.i64.wrap (10 + t_36)) fun (t_37 : Int) =>
  letK (decide (n_6l1 < t_37)) fun (t_38 : Bool) =>
  iteK t_38
  (letK (IntKind.i64.wrap (n_6l1 + 1)) fun (t_41 : Int) =>
  letK (Int.tmod n_6l1 3) fun (t_43 : Int) =>
  letK (IntKind.i64.wrap (50 * t_43)) fun (t_44 : Int) =>
  letK (IntKind.i64.wrap (1100 + t_44)) fun (t_45 : Int) =>
  guardK (out_3l1.length ≤ 1099511627776) <|
  letK (out_3l1 ++ [(Go.Proofs.YtdgbigkcophjoaaDoor.PComb.Comb.mk t_41 t_45 1200 false)]) fun (t_48 : (List Go.Proofs.YtdgbigkcophjoaaDoor.PComb.Comb)) =>
  letK (IntKind.i64.wrap (n_6l1 + 1)) fun (t_51 : Int) =>
  appK nx1 (t_48, t_51, t_36_tp))
  (appK bk1 (out_3l1, n_6l1, t_36_tp))

def e1 (c : Go.Proofs.YtdgbigkcophjoaaDoor.GoC.Tape) (t_5 : Int) (t_5_tp : Go.Proofs.YtdgbigkcophjoaaDoor.GoC.Tape) (out_3l0 : (List Go.Proofs.YtdgbigkcophjoaaDoor.PComb.Comb)) (id_4l0 : Int) (n_5l0 : Int) (c0_c0l0 : Go.Proofs.YtdgbigkcophjoaaDoor.GoC.Tape) (t_30 : Bool) (t_30_tp : Go.Proofs.YtdgbigkcophjoaaDoor.GoC.Tape) (s : (List Go.Proofs.YtdgbigkcophjoaaDoor.PComb.Comb) × Int × Go.Proofs.YtdgbigkcophjoaaDoor.GoC.Tape) : Option ((List Go.Proofs.YtdgbigkcophjoaaDoor.PComb.Comb) × Go.Proofs.YtdgbigkcophjoaaDoor.GoC.Tape) :=
  unp3 s fun out_3l1 n_6l1 c0_c0l1 =>
  j0  (out_3l1, c0_c0l1)

def e0 (c : Go.Proofs.YtdgbigkcophjoaaDoor.GoC.Tape) (fuel : Nat) (t_5 : Int) (t_5_tp : Go.Proofs.YtdgbigkcophjoaaDoor.GoC.Tape) (s : (List Go.Proofs.YtdgbigkcophjoaaDoor.PComb.Comb) × Int × Int × Go.Proofs.YtdgbigkcophjoaaDoor.GoC.Tape) : Option ((List Go.Proofs.YtdgbigkcophjoaaDoor.PComb.Comb) × Go.Proofs.YtdgbigkcophjoaaDoor.GoC.Tape) :=
  unp4 s fun out_3l0 id_4l0 n_5l0 c0_c0l0 =>
  bind2 (Go.Proofs.YtdgbigkcophjoaaDoor.GsL1CurOne.P c0_c0l0 24) fun (t_30 : Bool) (t_30_tp : Go.Proofs.YtdgbigkcophjoaaDoor.GoC.Tape) =>
  iteK t_30
  (loopK (l1 ) fuel (([] : List Go.Proofs.YtdgbigkcophjoaaDoor.PComb.Comb), 0, t_30_tp) (e1 c t_5 t_5_tp out_3l0 id_4l0 n_5l0 c0_c0l0 t_30 t_30_tp))
  (j0  (out_3l0, t_30_tp))

def P (fuel : Nat) (c : Go.Proofs.YtdgbigkcophjoaaDoor.GoC.Tape) : Option ((List Go.Proofs.YtdgbigkcophjoaaDoor.PComb.Comb) × Go.Proofs.YtdgbigkcophjoaaDoor.GoC.Tape) :=
  bind2 (Go.Proofs.YtdgbigkcophjoaaDoor.GsL1CurPick.P c 7) fun (t_5 : Int) (t_5_tp : Go.Proofs.YtdgbigkcophjoaaDoor.GoC.Tape) =>
  loopK (l0 ) fuel (([] : List Go.Proofs.YtdgbigkcophjoaaDoor.PComb.Comb), 0, t_5, t_5_tp) (e0 c fuel t_5 t_5_tp)

set_option maxRecDepth 100000 in
set_option maxHeartbeats 2000000 in
theorem C (fuel : Nat) (c : Go.Proofs.YtdgbigkcophjoaaDoor.GoC.Tape)   (g0 : Nat) (Ac0 : Option Addr) (cc0 : Nat) (bc0 : Nat) (w : World)   (K0 : Hid (Go.Proofs.YtdgbigkcophjoaaDoor.GoC.CurIs w bc0 g0 Ac0 cc0 c)) {r : (List Go.Proofs.YtdgbigkcophjoaaDoor.PComb.Comb)} {t_ : Go.Proofs.YtdgbigkcophjoaaDoor.GoC.Tape} (H : Hid (P fuel c = some (r, t_))) :
    Calls Tryd.prog 23 #[.pointer (some ⟨g0, 0, none⟩)] w (fun e w' => ∃ A_r c_r, e = .returned (.slice A_r r.length c_r) ∧ w'.ownsRow w.heap.size 32 4 (.slice A_r r.length c_r) r.length (Go.Proofs.YtdgbigkcophjoaaDoor.PComb.flat r) ∧ Go.Proofs.YtdgbigkcophjoaaDoor.GoC.CurIs w' bc0 g0 Ac0 cc0 t_ ∧ w.grownBy w' (Value.slice (some ⟨g0, 0, none⟩) 1 1).ownBlock) := by
  have HB := Lib.hid (Aid.grown_refl w (Value.slice (some ⟨g0, 0, none⟩) 1 1).ownBlock)
  unfold P at H
  have L0 : bc0 ≤ w.heap.size := by have := Go.Proofs.YtdgbigkcophjoaaDoor.GoC.cur_lt K0.out; omega
  obtain ⟨i0_32, hi_32, hz0_32, hz1_32, hz2_32⟩ := Aid.info_parts (P := Tryd.prog) (T := 32) (z := .agg #[.int .i64 0, .int .i64 0, .int .i64 0, .bool false]) (s := 4) (b := 32) (by kernel_rfl)
  go_enter Tryd.func23, Tryd.ntmps23
  obtain ⟨w_t_1, hw_t_1⟩ : ∃ x, w.alloc (.cells #[] 32) = x := ⟨_, rfl⟩
  have bw_t_1 : Below w.heap.size w w_t_1 := by rw [← hw_t_1]; exact (Below.refl _ _).alloc (Nat.le_refl _) _
  have Ot_1 : Hid (w_t_1.ownsRow w.heap.size 32 4 (.slice (some ⟨w.heap.size, 0, none⟩) 0 0) 0 []) := Lib.hid (by rw [← hw_t_1]; exact own_empty HB.out.size)
  have Dt_1_c0 := Lib.hid (Go.Proofs.YtdgbigkcophjoaaDoor.GoC.apart_cur K0.out)
  have HBw_t_1 := Lib.hid (grown_below HB.out bw_t_1)
  replace K0 := Lib.hid (Go.Proofs.YtdgbigkcophjoaaDoor.GoC.cur_below K0.out bw_t_1)
  clear bw_t_1
  replace H := bind2_hid H
  obtain ⟨t_5, t_5_tp, qt_5, H⟩ := H
  go_wp2_with fail
  go_at_call 25
  refine (Go.Proofs.YtdgbigkcophjoaaDoor.GsL1CurPick.C (c) (7) (g0) (Ac0) (cc0) (bc0) _   K0 qt_5).mono ?_
  rintro e_t_5 wt_5 ⟨rfl, kt_5, gt_5⟩
  have Kt_5 := Lib.hid kt_5
  have Gt_5 : Hid (w_t_1.grownBy wt_5 (Value.slice (some ⟨g0, 0, none⟩) 1 1).ownBlock) := Lib.hid gt_5
  clear kt_5 gt_5
  have HBwt_5 := Lib.hid (Aid.grown_tr HBw_t_1.out Gt_5.out)
  replace Ot_1 := Lib.hid (own_other Ot_1.out Gt_5.out (Apart.symm Dt_1_c0.out))
  clear K0 Gt_5
  go_wp2_with fail
  go_loopg [3, 4, 5] (fuel) (fun m_ v3_ v4_ v5_ wr => ∃ (out_3l0 : (List Go.Proofs.YtdgbigkcophjoaaDoor.PComb.Comb)) (id_4l0 : Int) (n_5l0 : Int) (c0_c0l0 : Go.Proofs.YtdgbigkcophjoaaDoor.GoC.Tape) (Aout_3l0 : Option Addr) (cout_3l0 : Nat), v3_ = .slice Aout_3l0 out_3l0.length cout_3l0 ∧ v4_ = .int .i64 id_4l0 ∧ v5_ = .int .i64 n_5l0 ∧ Hid (loopK (l0 ) m_ (out_3l0, id_4l0, n_5l0, c0_c0l0) (e0 c fuel t_5 t_5_tp) = some (r, t_)) ∧ Hid (w.grownBy wr (Value.slice (some ⟨g0, 0, none⟩) 1 1).ownBlock) ∧ Hid (wr.ownsRow w.heap.size 32 4 (.slice Aout_3l0 out_3l0.length cout_3l0) out_3l0.length (Go.Proofs.YtdgbigkcophjoaaDoor.PComb.flat out_3l0)) ∧ Hid (Apart Aout_3l0 (some ⟨g0, 0, none⟩)) ∧ Hid (Go.Proofs.YtdgbigkcophjoaaDoor.GoC.CurIs wr bc0 g0 Ac0 cc0 c0_c0l0))
  case atStart => exact ⟨_, _, _, _, _, _, rfl, rfl, rfl, H, HBwt_5, Ot_1, Lib.hid Dt_1_c0.out, Kt_5⟩
  case round =>
    obtain ⟨out_3l0, id_4l0, n_5l0, c0_c0l0, Aout_3l0, cout_3l0, rfl, rfl, rfl, H, HBwr0, Oout_3l0, Dout_3l0_c0, Kl0_0⟩ := hrel
    rename World => wr0
    cases gk with
    | zero => exact (loop_zero H).elim
    | succ m0 =>
      replace H := loop_succ H
      unfold l0 at H
      replace H := unp4_hid H
      replace H := let_hid H
      obtain ⟨t_8, ht_8, H⟩ := H
      cases t_8 with
      | false =>
        replace H := ite_f H
        replace H := app_hid H
        unfold e0 at H
        replace H := unp4_hid H
        replace H := bind2_hid H
        obtain ⟨t_30, t_30_tp, qt_30, H⟩ := H
        go_wp2_with fail
        go_at_call 26
        refine (Go.Proofs.YtdgbigkcophjoaaDoor.GsL1CurOne.C (c0_c0l0) (24) (g0) (Ac0) (cc0) (bc0) _   Kl0_0 qt_30).mono ?_
        rintro e_t_30 wt_30 ⟨rfl, kt_30, gt_30⟩
        have Kt_30 := Lib.hid kt_30
        have Gt_30 : Hid (wr0.grownBy wt_30 (Value.slice (some ⟨g0, 0, none⟩) 1 1).ownBlock) := Lib.hid gt_30
        clear kt_30 gt_30
        have HBwt_30 := Lib.hid (Aid.grown_tr HBwr0.out Gt_30.out)
        replace Oout_3l0 := Lib.hid (own_other Oout_3l0.out Gt_30.out (Apart.symm Dout_3l0_c0.out))
        clear Kl0_0 Gt_30
        cases t_30 with
        | false =>
          replace H := ite_f H
          unfold j0 at H
          replace H := unp2_hid H
          cases ret_hid H
          go_wp2_with fail
          go_ret
          exact ⟨Aout_3l0, cout_3l0, rfl, Oout_3l0.out, Kt_30.out, HBwt_30.out⟩
        | true =>
          replace H := ite_t H
          obtain ⟨w_t_31, hw_t_31⟩ : ∃ x, wt_30.alloc (.cells #[] 32) = x := ⟨_, rfl⟩
          have bw_t_31 : Below wt_30.heap.size wt_30 w_t_31 := by rw [← hw_t_31]; exact (Below.refl _ _).alloc (Nat.le_refl _) _
          have Ot_31 : Hid (w_t_31.ownsRow w.heap.size 32 4 (.slice (some ⟨wt_30.heap.size, 0, none⟩) 0 0) 0 []) := Lib.hid (by rw [← hw_t_31]; exact own_empty HBwt_30.out.size)
          have Dt_31_out_3l0 := Lib.hid (apart_fresh Oout_3l0.out)
          have Dt_31_c0 := Lib.hid (Go.Proofs.YtdgbigkcophjoaaDoor.GoC.apart_cur Kt_30.out)
          have HBw_t_31 := Lib.hid (grown_below HBwt_30.out bw_t_31)
          replace Oout_3l0 := Lib.hid (own_below Oout_3l0.out bw_t_31)
          replace Kt_30 := Lib.hid (Go.Proofs.YtdgbigkcophjoaaDoor.GoC.cur_below Kt_30.out bw_t_31)
          clear bw_t_31
          go_wp2_with fail
          go_loopg [3, 6] (fuel) (fun m_ v3_ v6_ wr => ∃ (out_3l1 : (List Go.Proofs.YtdgbigkcophjoaaDoor.PComb.Comb)) (n_6l1 : Int) (c0_c0l1 : Go.Proofs.YtdgbigkcophjoaaDoor.GoC.Tape) (Aout_3l1 : Option Addr) (cout_3l1 : Nat), v3_ = .slice Aout_3l1 out_3l1.length cout_3l1 ∧ v6_ = .int .i64 n_6l1 ∧ Hid (loopK (l1 ) m_ (out_3l1, n_6l1, c0_c0l1) (e1 c t_5 t_5_tp out_3l0 id_4l0 n_5l0 c0_c0l0 true t_30_tp) = some (r, t_)) ∧ Hid (w.grownBy wr (Value.slice (some ⟨g0, 0, none⟩) 1 1).ownBlock) ∧ Hid (wr.ownsRow w.heap.size 32 4 (.slice Aout_3l1 out_3l1.length cout_3l1) out_3l1.length (Go.Proofs.YtdgbigkcophjoaaDoor.PComb.flat out_3l1)) ∧ Hid (Apart Aout_3l1 (some ⟨g0, 0, none⟩)) ∧ Hid (Go.Proofs.YtdgbigkcophjoaaDoor.GoC.CurIs wr bc0 g0 Ac0 cc0 c0_c0l1))
          case atStart => exact ⟨_, _, _, _, _, rfl, rfl, H, HBw_t_31, Ot_31, Lib.hid Dt_31_c0.out, Kt_30⟩
          case round =>
            obtain ⟨out_3l1, n_6l1, c0_c0l1, Aout_3l1, cout_3l1, rfl, rfl, H, HBwr1, Oout_3l1, Dout_3l1_c0, Kl1_0⟩ := hrel
            rename World => wr1
            cases gk with
            | zero => exact (loop_zero H).elim
            | succ m1 =>
              replace H := loop_succ H
              unfold l1 at H
              replace H := unp3_hid H
              replace H := bind2_hid H
              obtain ⟨t_36, t_36_tp, qt_36, H⟩ := H
              go_wp2_with fail
              go_at_call 25
              refine (Go.Proofs.YtdgbigkcophjoaaDoor.GsL1CurPick.C (c0_c0l1) (2) (g0) (Ac0) (cc0) (bc0) _   Kl1_0 qt_36).mono ?_
              rintro e_t_36 wt_36 ⟨rfl, kt_36, gt_36⟩
              have Kt_36 := Lib.hid kt_36
              have Gt_36 : Hid (wr1.grownBy wt_36 (Value.slice (some ⟨g0, 0, none⟩) 1 1).ownBlock) := Lib.hid gt_36
              clear kt_36 gt_36
              have HBwt_36 := Lib.hid (Aid.grown_tr HBwr1.out Gt_36.out)
              replace Oout_3l1 := Lib.hid (own_other Oout_3l1.out Gt_36.out (Apart.symm Dout_3l1_c0.out))
              clear Kl1_0 Gt_36
              replace H := let_hid H
              obtain ⟨t_37, ht_37, H⟩ := H
              replace H := let_hid H
              obtain ⟨t_38, ht_38, H⟩ := H
              cases t_38 with
              | false =>
                replace H := ite_f H
                replace H := app_hid H
                unfold e1 at H
                replace H := unp3_hid H
                unfold j0 at H
                replace H := unp2_hid H
                cases ret_hid H
                go_wp2_with fail
                go_ret
                exact ⟨Aout_3l1, cout_3l1, rfl, Oout_3l1.out, Kt_36.out, HBwt_36.out⟩
              | true =>
                replace H := ite_t H
                replace H := let_hid H
                obtain ⟨t_41, ht_41, H⟩ := H
                replace H := let_hid H
                obtain ⟨t_43, ht_43, H⟩ := H
                replace H := let_hid H
                obtain ⟨t_44, ht_44, H⟩ := H
                replace H := let_hid H
                obtain ⟨t_45, ht_45, H⟩ := H
                obtain ⟨w_t_47, hw_t_47⟩ : ∃ x, wt_36.alloc (.cells #[.int .i64 t_41, .int .i64 t_45, .int .i64 1200, .bool false] 32) = x := ⟨_, rfl⟩
                have bw_t_47 : Below wt_36.heap.size wt_36 w_t_47 := by rw [← hw_t_47]; exact (Below.refl _ _).alloc (Nat.le_refl _) _
                have HBw_t_47 := Lib.hid (grown_below HBwt_36.out bw_t_47)
                replace Oout_3l1 := Lib.hid (own_below Oout_3l1.out bw_t_47)
                replace Kt_36 := Lib.hid (Go.Proofs.YtdgbigkcophjoaaDoor.GoC.cur_below Kt_36.out bw_t_47)
                clear bw_t_47
                replace H := guard_hid H
                obtain ⟨hlt_48, H⟩ := H
                replace H := let_hid H
                obtain ⟨t_48, ht_48, H⟩ := H
                have hht_48 := Lib.hid ht_48
                clear ht_48
                have hst_48 := HBw_t_47.out.size
                go_wp2_with (at_builtin; refine wpList_append_own_at _ rfl _ _ 24 rfl w.heap.size 32 i0_32 (.agg #[.int .i64 0, .int .i64 0, .int .i64 0, .bool false]) 4 32 Tryd.underlying24 hi_32 hz0_32 hz1_32 hz2_32 rfl (by decide) _ _ _ rfl Oout_3l1.out ⟨wt_36.heap.size, 0, none⟩ 1 1 [.int .i64 t_41, .int .i64 t_45, .int .i64 1200, .bool false] rfl rfl (news_new hw_t_47) (one_cells rfl) (by unfold maxLen; omega) (by omega) hst_48 ?_; intro vt_48 wt_48 ot_48 gt_48 zt_48 yt_48; clear zt_48; obtain ⟨qt_48, ct_48, rfl, pt_48⟩ := own_push hht_48.out (Go.Proofs.YtdgbigkcophjoaaDoor.PComb.flat_snoc _ _) rfl ot_48; have Pt_48 := Lib.hid pt_48; have Yt_48 := Lib.hid yt_48; have Gt_48 := Lib.hid gt_48; clear ot_48 gt_48 pt_48 yt_48; refine stop_in ?_)
                refine stop_out ?_
                have HBwt_48 := Lib.hid (Go.Proofs.YtdgbigkcophjoaaDoor.GoC.grown_new HBw_t_47.out Gt_48.out (Go.Proofs.YtdgbigkcophjoaaDoor.GoC.own_ge Oout_3l1.out))
                clear hst_48
                have Dt_48_c0 : Hid (Apart (some ⟨qt_48, 0, none⟩) _) := Lib.hid (apart_app Dout_3l1_c0.out (fun a_ ha_ => by cases ha_; exact (Go.Proofs.YtdgbigkcophjoaaDoor.GoC.cur_lt Kt_36.out).2) Yt_48.out)
                replace Kt_36 := Lib.hid (Go.Proofs.YtdgbigkcophjoaaDoor.GoC.cur_otherO Kt_36.out Gt_48.out Dout_3l1_c0.out L0 Oout_3l1.out)
                clear Oout_3l1 Yt_48 Gt_48
                replace H := let_hid H
                obtain ⟨t_51, ht_51, H⟩ := H
                obtain rfl := ht_41.symm.trans ht_51
                replace H := app_hid H
                go_wp2_with fail
                go_roundg m1
                case measure => omega
                case rel => exact ⟨_, _, _, _, _, rfl, rfl, H, HBwt_48, Pt_48, Lib.hid Dt_48_c0.out, Kt_36⟩
      | true =>
        replace H := ite_t H
        replace H := let_hid H
        obtain ⟨t_10, ht_10, H⟩ := H
        replace H := bind2_hid H
        obtain ⟨t_12, t_12_tp, qt_12, H⟩ := H
        go_wp2_with fail
        go_at_call 25
        refine (Go.Proofs.YtdgbigkcophjoaaDoor.GsL1CurPick.C (c0_c0l0) (3) (g0) (Ac0) (cc0) (bc0) _   Kl0_0 qt_12).mono ?_
        rintro e_t_12 wt_12 ⟨rfl, kt_12, gt_12⟩
        have Kt_12 := Lib.hid kt_12
        have Gt_12 : Hid (wr0.grownBy wt_12 (Value.slice (some ⟨g0, 0, none⟩) 1 1).ownBlock) := Lib.hid gt_12
        clear kt_12 gt_12
        have HBwt_12 := Lib.hid (Aid.grown_tr HBwr0.out Gt_12.out)
        replace Oout_3l0 := Lib.hid (own_other Oout_3l0.out Gt_12.out (Apart.symm Dout_3l0_c0.out))
        clear Kl0_0 Gt_12
        replace H := let_hid H
        obtain ⟨t_13, ht_13, H⟩ := H
        replace H := bind2_hid H
        obtain ⟨t_15, t_15_tp, qt_15, H⟩ := H
        go_wp2_with fail
        go_at_call 25
        refine (Go.Proofs.YtdgbigkcophjoaaDoor.GsL1CurPick.C (t_12_tp) (150) (g0) (Ac0) (cc0) (bc0) _   Kt_12 qt_15).mono ?_
        rintro e_t_15 wt_15 ⟨rfl, kt_15, gt_15⟩
        have Kt_15 := Lib.hid kt_15
        have Gt_15 : Hid (wt_12.grownBy wt_15 (Value.slice (some ⟨g0, 0, none⟩) 1 1).ownBlock) := Lib.hid gt_15
        clear kt_15 gt_15
        have HBwt_15 := Lib.hid (Aid.grown_tr HBwt_12.out Gt_15.out)
        replace Oout_3l0 := Lib.hid (own_other Oout_3l0.out Gt_15.out (Apart.symm Dout_3l0_c0.out))
        clear Kt_12 Gt_15
        replace H := let_hid H
        obtain ⟨t_16, ht_16, H⟩ := H
        replace H := let_hid H
        obtain ⟨t_17, ht_17, H⟩ := H
        replace H := bind2_hid H
        obtain ⟨t_22, t_22_tp, qt_22, H⟩ := H
        obtain ⟨t_22_id, t_22_wide, t_22_high, t_22_line⟩ := t_22
        replace H := unComb_hid H
        go_wp2_with fail
        go_at_call 45
        refine (Go.Proofs.YtdgbigkcophjoaaDoor.GsL1CurComb5.C (t_15_tp) (t_17) (g0) (Ac0) (cc0) (bc0) _   Kt_15 qt_22).mono ?_
        rintro e_t_22 wt_22 ⟨rfl, kt_22, gt_22⟩
        unfold Go.Proofs.YtdgbigkcophjoaaDoor.PComb.Comb.val
        have Kt_22 := Lib.hid kt_22
        have Gt_22 : Hid (wt_15.grownBy wt_22 (Value.slice (some ⟨g0, 0, none⟩) 1 1).ownBlock) := Lib.hid gt_22
        clear kt_22 gt_22
        have HBwt_22 := Lib.hid (Aid.grown_tr HBwt_15.out Gt_22.out)
        replace Oout_3l0 := Lib.hid (own_other Oout_3l0.out Gt_22.out (Apart.symm Dout_3l0_c0.out))
        clear Kt_15 Gt_22
        obtain ⟨w_t_23, hw_t_23⟩ : ∃ x, wt_22.alloc (.cells #[.int .i64 t_22_id, .int .i64 t_22_wide, .int .i64 t_22_high, .bool t_22_line] 32) = x := ⟨_, rfl⟩
        have bw_t_23 : Below wt_22.heap.size wt_22 w_t_23 := by rw [← hw_t_23]; exact (Below.refl _ _).alloc (Nat.le_refl _) _
        have HBw_t_23 := Lib.hid (grown_below HBwt_22.out bw_t_23)
        replace Oout_3l0 := Lib.hid (own_below Oout_3l0.out bw_t_23)
        replace Kt_22 := Lib.hid (Go.Proofs.YtdgbigkcophjoaaDoor.GoC.cur_below Kt_22.out bw_t_23)
        clear bw_t_23
        replace H := guard_hid H
        obtain ⟨hlt_24, H⟩ := H
        replace H := let_hid H
        obtain ⟨t_24, ht_24, H⟩ := H
        have hht_24 := Lib.hid ht_24
        clear ht_24
        have hst_24 := HBw_t_23.out.size
        go_wp2_with (at_builtin; refine wpList_append_own_at _ rfl _ _ 24 rfl w.heap.size 32 i0_32 (.agg #[.int .i64 0, .int .i64 0, .int .i64 0, .bool false]) 4 32 Tryd.underlying24 hi_32 hz0_32 hz1_32 hz2_32 rfl (by decide) _ _ _ rfl Oout_3l0.out ⟨wt_22.heap.size, 0, none⟩ 1 1 [.int .i64 t_22_id, .int .i64 t_22_wide, .int .i64 t_22_high, .bool t_22_line] rfl rfl (news_new hw_t_23) (one_cells rfl) (by unfold maxLen; omega) (by omega) hst_24 ?_; intro vt_24 wt_24 ot_24 gt_24 zt_24 yt_24; clear zt_24; obtain ⟨qt_24, ct_24, rfl, pt_24⟩ := own_push hht_24.out (Go.Proofs.YtdgbigkcophjoaaDoor.PComb.flat_snoc _ _) rfl ot_24; have Pt_24 := Lib.hid pt_24; have Yt_24 := Lib.hid yt_24; have Gt_24 := Lib.hid gt_24; clear ot_24 gt_24 pt_24 yt_24; refine stop_in ?_)
        refine stop_out ?_
        have HBwt_24 := Lib.hid (Go.Proofs.YtdgbigkcophjoaaDoor.GoC.grown_new HBw_t_23.out Gt_24.out (Go.Proofs.YtdgbigkcophjoaaDoor.GoC.own_ge Oout_3l0.out))
        clear hst_24
        have Dt_24_c0 : Hid (Apart (some ⟨qt_24, 0, none⟩) _) := Lib.hid (apart_app Dout_3l0_c0.out (fun a_ ha_ => by cases ha_; exact (Go.Proofs.YtdgbigkcophjoaaDoor.GoC.cur_lt Kt_22.out).2) Yt_24.out)
        replace Kt_22 := Lib.hid (Go.Proofs.YtdgbigkcophjoaaDoor.GoC.cur_otherO Kt_22.out Gt_24.out Dout_3l0_c0.out L0 Oout_3l0.out)
        clear Oout_3l0 Yt_24 Gt_24
        replace H := let_hid H
        obtain ⟨t_27, ht_27, H⟩ := H
        replace H := app_hid H
        go_wp2_with fail
        go_roundg m0
        case measure => omega
        case rel => exact ⟨_, _, _, _, _, _, rfl, rfl, rfl, H, HBwt_24, Pt_24, Lib.hid Dt_24_c0.out, Kt_22⟩
end Go.Proofs.YtdgbigkcophjoaaDoor.GsL1CurCombs5

/- (*loop.example/g01062/spec.l1Cur).ask5 as a plain function, and the contract of the program's: where the plain one has an answer, the program has it. Conditions: slices read as lists. -/
namespace Go.Proofs.YtdgbigkcophjoaaDoor.GsL1CurAsk5
set_option linter.unusedVariables false
set_option linter.unusedSimpArgs false
open Go.RowKit
open Go.Proofs.YtdgbigkcophjoaaDoor.Rowed Go.Proofs.YtdgbigkcophjoaaDoor.Turn Go.Proofs.YtdgbigkcophjoaaDoor.Aid Go.Proofs.YtdgbigkcophjoaaDoor.GoP Go.Proofs.YtdgbigkcophjoaaDoor.GoM

def P (c : Go.Proofs.YtdgbigkcophjoaaDoor.GoC.Tape) : Option (Int × Go.Proofs.YtdgbigkcophjoaaDoor.GoC.Tape) :=
  bind2 (Go.Proofs.YtdgbigkcophjoaaDoor.GsL1CurOne.P c 8) fun (t_2 : Bool) (t_2_tp : Go.Proofs.YtdgbigkcophjoaaDoor.GoC.Tape) =>
  iteK t_2
  (letK ([0, 0, 499, 2001]) fun (t_4 : (List Int)) =>
  bind2 (Go.Proofs.YtdgbigkcophjoaaDoor.GsL1CurAmong.P t_2_tp t_4) fun (t_5 : Int) (t_5_tp : Go.Proofs.YtdgbigkcophjoaaDoor.GoC.Tape) =>
  some (t_5, t_5_tp))
  (bind2 (Go.Proofs.YtdgbigkcophjoaaDoor.GsL1CurGauge5.P t_2_tp) fun (t_8 : Int) (t_8_tp : Go.Proofs.YtdgbigkcophjoaaDoor.GoC.Tape) =>
  letK ([0, 0, 10, 25, (-25)]) fun (t_10 : (List Int)) =>
  bind2 (Go.Proofs.YtdgbigkcophjoaaDoor.GsL1CurAmong.P t_8_tp t_10) fun (t_11 : Int) (t_11_tp : Go.Proofs.YtdgbigkcophjoaaDoor.GoC.Tape) =>
  letK (IntKind.i64.wrap (t_8 + t_11)) fun (t_12 : Int) =>
  some (t_12, t_11_tp))

set_option maxRecDepth 100000 in
set_option maxHeartbeats 2000000 in
theorem C (c : Go.Proofs.YtdgbigkcophjoaaDoor.GoC.Tape)   (g0 : Nat) (Ac0 : Option Addr) (cc0 : Nat) (bc0 : Nat) (w : World)   (K0 : Hid (Go.Proofs.YtdgbigkcophjoaaDoor.GoC.CurIs w bc0 g0 Ac0 cc0 c)) {r : Int} {t_ : Go.Proofs.YtdgbigkcophjoaaDoor.GoC.Tape} (H : Hid (P c = some (r, t_))) :
    Calls Tryd.prog 27 #[.pointer (some ⟨g0, 0, none⟩)] w (fun e w' => e = .returned (.int .i64 r) ∧ Go.Proofs.YtdgbigkcophjoaaDoor.GoC.CurIs w' bc0 g0 Ac0 cc0 t_ ∧ w.grownBy w' (Value.slice (some ⟨g0, 0, none⟩) 1 1).ownBlock) := by
  have HB := Lib.hid (Aid.grown_refl w (Value.slice (some ⟨g0, 0, none⟩) 1 1).ownBlock)
  unfold P at H
  have L0 : bc0 ≤ w.heap.size := by have := Go.Proofs.YtdgbigkcophjoaaDoor.GoC.cur_lt K0.out; omega
  go_enter Tryd.func27, Tryd.ntmps27
  replace H := bind2_hid H
  obtain ⟨t_2, t_2_tp, qt_2, H⟩ := H
  go_wp2_with fail
  go_at_call 26
  refine (Go.Proofs.YtdgbigkcophjoaaDoor.GsL1CurOne.C (c) (8) (g0) (Ac0) (cc0) (bc0) _   K0 qt_2).mono ?_
  rintro e_t_2 wt_2 ⟨rfl, kt_2, gt_2⟩
  have Kt_2 := Lib.hid kt_2
  have Gt_2 : Hid (w.grownBy wt_2 (Value.slice (some ⟨g0, 0, none⟩) 1 1).ownBlock) := Lib.hid gt_2
  clear kt_2 gt_2
  have HBwt_2 := Lib.hid (Aid.grown_tr HB.out Gt_2.out)
  clear K0 Gt_2
  cases t_2 with
  | false =>
    replace H := ite_f H
    replace H := bind2_hid H
    obtain ⟨t_8, t_8_tp, qt_8, H⟩ := H
    go_wp2_with fail
    go_at_call 52
    refine (Go.Proofs.YtdgbigkcophjoaaDoor.GsL1CurGauge5.C (t_2_tp) (g0) (Ac0) (cc0) (bc0) _   Kt_2 qt_8).mono ?_
    rintro e_t_8 wt_8 ⟨rfl, kt_8, gt_8⟩
    have Kt_8 := Lib.hid kt_8
    have Gt_8 : Hid (wt_2.grownBy wt_8 (Value.slice (some ⟨g0, 0, none⟩) 1 1).ownBlock) := Lib.hid gt_8
    clear kt_8 gt_8
    have HBwt_8 := Lib.hid (Aid.grown_tr HBwt_2.out Gt_8.out)
    clear Kt_2 Gt_8
    replace H := let_hid H
    obtain ⟨t_10, ht_10, H⟩ := H
    obtain ⟨w_t_10, hw_t_10⟩ : ∃ x, wt_8.alloc (.cells #[.int .i64 0, .int .i64 0, .int .i64 10, .int .i64 25, .int .i64 (-25)] 3) = x := ⟨_, rfl⟩
    have bw_t_10 : Below wt_8.heap.size wt_8 w_t_10 := by rw [← hw_t_10]; exact (Below.refl _ _).alloc (Nat.le_refl _) _
    have hs_t_10 := HBwt_8.out.size
    have nt_10 : t_10.length = 5 := by rw [← ht_10]; rfl
    have Ot_10 : Hid (w_t_10.ownsRow w.heap.size 3 1 (.slice (some ⟨wt_8.heap.size, 0, none⟩) 5 5) 5 (Go.Proofs.YtdgbigkcophjoaaDoor.HelpInt.iv t_10)) := by
      rw [← hw_t_10, ← ht_10]
      have e_ : ([.int .i64 0, .int .i64 0, .int .i64 10, .int .i64 25, .int .i64 (-25)] : List Value) = (Go.Proofs.YtdgbigkcophjoaaDoor.HelpInt.iv ([0, 0, 10, 25, (-25)] : List Int)) := rfl
      exact Lib.hid (own_laid (n := 5) hs_t_10 e_ rfl (by unfold maxLen; omega))
    clear hs_t_10
    have hht_10 := Lib.hid ht_10
    clear ht_10
    replace nt_10 := Lib.hid nt_10
    have Dt_10_c0 := Lib.hid (Go.Proofs.YtdgbigkcophjoaaDoor.GoC.apart_cur Kt_8.out)
    have HBw_t_10 := Lib.hid (grown_below HBwt_8.out bw_t_10)
    replace Kt_8 := Lib.hid (Go.Proofs.YtdgbigkcophjoaaDoor.GoC.cur_below Kt_8.out bw_t_10)
    clear bw_t_10
    replace H := bind2_hid H
    obtain ⟨t_11, t_11_tp, qt_11, H⟩ := H
    go_wp2_with fail
    have hc_ := nt_10.out
    have hv_ : (Value.slice (some ⟨wt_8.heap.size, 0, none⟩) 5 5 : Value) = Value.slice (some ⟨wt_8.heap.size, 0, none⟩) t_10.length 5 := by rw [hc_]
    try rw [hv_]
    replace Ot_10 := Lib.hid (own_len hc_ Ot_10.out)
    clear hc_ hv_
    go_wp2_with fail
    go_at_call 24
    refine (Go.Proofs.YtdgbigkcophjoaaDoor.GsL1CurAmong.C (t_8_tp) (t_10) (some ⟨wt_8.heap.size, 0, none⟩) 5 (g0) (Ac0) (cc0) (bc0) _   (Lib.hid (own_cells Ot_10.out)) (Lib.hid (own_max Ot_10.out)) Kt_8 (Lib.hid (fun _ => Dt_10_c0.out)) qt_11).mono ?_
    rintro e_t_11 wt_11 ⟨rfl, kt_11, gt_11⟩
    have Kt_11 := Lib.hid kt_11
    have Gt_11 : Hid (w_t_10.grownBy wt_11 (Value.slice (some ⟨g0, 0, none⟩) 1 1).ownBlock) := Lib.hid gt_11
    clear kt_11 gt_11
    have HBwt_11 := Lib.hid (Aid.grown_tr HBw_t_10.out Gt_11.out)
    replace Ot_10 := Lib.hid (own_other Ot_10.out Gt_11.out (Apart.symm Dt_10_c0.out))
    clear Kt_8 Gt_11
    replace H := let_hid H
    obtain ⟨t_12, ht_12, H⟩ := H
    cases ret_hid H
    go_wp2_with fail
    go_ret
    exact ⟨rfl, Kt_11.out, HBwt_11.out⟩
  | true =>
    replace H := ite_t H
    replace H := let_hid H
    obtain ⟨t_4, ht_4, H⟩ := H
    obtain ⟨w_t_4, hw_t_4⟩ : ∃ x, wt_2.alloc (.cells #[.int .i64 0, .int .i64 0, .int .i64 499, .int .i64 2001] 3) = x := ⟨_, rfl⟩
    have bw_t_4 : Below wt_2.heap.size wt_2 w_t_4 := by rw [← hw_t_4]; exact (Below.refl _ _).alloc (Nat.le_refl _) _
    have hs_t_4 := HBwt_2.out.size
    have nt_4 : t_4.length = 4 := by rw [← ht_4]; rfl
    have Ot_4 : Hid (w_t_4.ownsRow w.heap.size 3 1 (.slice (some ⟨wt_2.heap.size, 0, none⟩) 4 4) 4 (Go.Proofs.YtdgbigkcophjoaaDoor.HelpInt.iv t_4)) := by
      rw [← hw_t_4, ← ht_4]
      have e_ : ([.int .i64 0, .int .i64 0, .int .i64 499, .int .i64 2001] : List Value) = (Go.Proofs.YtdgbigkcophjoaaDoor.HelpInt.iv ([0, 0, 499, 2001] : List Int)) := rfl
      exact Lib.hid (own_laid (n := 4) hs_t_4 e_ rfl (by unfold maxLen; omega))
    clear hs_t_4
    have hht_4 := Lib.hid ht_4
    clear ht_4
    replace nt_4 := Lib.hid nt_4
    have Dt_4_c0 := Lib.hid (Go.Proofs.YtdgbigkcophjoaaDoor.GoC.apart_cur Kt_2.out)
    have HBw_t_4 := Lib.hid (grown_below HBwt_2.out bw_t_4)
    replace Kt_2 := Lib.hid (Go.Proofs.YtdgbigkcophjoaaDoor.GoC.cur_below Kt_2.out bw_t_4)
    clear bw_t_4
    replace H := bind2_hid H
    obtain ⟨t_5, t_5_tp, qt_5, H⟩ := H
    go_wp2_with fail
    have hc_ := nt_4.out
    have hv_ : (Value.slice (some ⟨wt_2.heap.size, 0, none⟩) 4 4 : Value) = Value.slice (some ⟨wt_2.heap.size, 0, none⟩) t_4.length 4 := by rw [hc_]
    try rw [hv_]
    replace Ot_4 := Lib.hid (own_len hc_ Ot_4.out)
    clear hc_ hv_
    go_wp2_with fail
    go_at_call 24
    refine (Go.Proofs.YtdgbigkcophjoaaDoor.GsL1CurAmong.C (t_2_tp) (t_4) (some ⟨wt_2.heap.size, 0, none⟩) 4 (g0) (Ac0) (cc0) (bc0) _   (Lib.hid (own_cells Ot_4.out)) (Lib.hid (own_max Ot_4.out)) Kt_2 (Lib.hid (fun _ => Dt_4_c0.out)) qt_5).mono ?_
    rintro e_t_5 wt_5 ⟨rfl, kt_5, gt_5⟩
    have Kt_5 := Lib.hid kt_5
    have Gt_5 : Hid (w_t_4.grownBy wt_5 (Value.slice (some ⟨g0, 0, none⟩) 1 1).ownBlock) := Lib.hid gt_5
    clear kt_5 gt_5
    have HBwt_5 := Lib.hid (Aid.grown_tr HBw_t_4.out Gt_5.out)
    replace Ot_4 := Lib.hid (own_other Ot_4.out Gt_5.out (Apart.symm Dt_4_c0.out))
    clear Kt_2 Gt_5
    cases ret_hid H
    go_wp2_with fail
    go_ret
    exact ⟨rfl, Kt_5.out, HBwt_5.out⟩
end Go.Proofs.YtdgbigkcophjoaaDoor.GsL1CurAsk5

/- loop.example/g01062/spec.DrawMatchCombs as a plain function, and the contract of the program's: where the plain one has an answer, the program has it. Conditions: slices read as lists. -/
namespace Go.Proofs.YtdgbigkcophjoaaDoor.GsDrawMatchCombs
set_option linter.unusedVariables false
set_option linter.unusedSimpArgs false
open Go.RowKit
open Go.Proofs.YtdgbigkcophjoaaDoor.Rowed Go.Proofs.YtdgbigkcophjoaaDoor.Turn Go.Proofs.YtdgbigkcophjoaaDoor.Aid Go.Proofs.YtdgbigkcophjoaaDoor.GoP Go.Proofs.YtdgbigkcophjoaaDoor.GoM

def P (fuel : Nat) (tapes : List Int → Go.Proofs.YtdgbigkcophjoaaDoor.GoC.Tape) (code : (List Int)) : Option ((List Go.Proofs.YtdgbigkcophjoaaDoor.PComb.Comb) × Int × Int × Int) :=
  letK (tapes code) fun (t_6 : Go.Proofs.YtdgbigkcophjoaaDoor.GoC.Tape) =>
  bind2 (Go.Proofs.YtdgbigkcophjoaaDoor.GsL1CurCombs5.P fuel t_6) fun (t_9 : (List Go.Proofs.YtdgbigkcophjoaaDoor.PComb.Comb)) (t_9_tp : Go.Proofs.YtdgbigkcophjoaaDoor.GoC.Tape) =>
  letK ([0, 10, 25, 100, (-1), 101]) fun (t_12 : (List Int)) =>
  bind2 (Go.Proofs.YtdgbigkcophjoaaDoor.GsL1CurPick.P t_9_tp 24) fun (t_14 : Int) (t_14_tp : Go.Proofs.YtdgbigkcophjoaaDoor.GoC.Tape) =>
  letK (IntKind.i64.wrap (Int.tdiv t_14 11)) fun (t_15 : Int) =>
  letK (IntKind.i64.wrap (4 + t_15)) fun (t_16 : Int) =>
  guardK ((0 : Int) ≤ t_16 ∧ (t_16 : Int) ≤ (t_12.length : Int)) <|
  letK (List.take (Int.toNat t_16) t_12) fun (t_17 : (List Int)) =>
  bind2 (Go.Proofs.YtdgbigkcophjoaaDoor.GsL1CurAmong.P t_14_tp t_17) fun (t_18 : Int) (t_18_tp : Go.Proofs.YtdgbigkcophjoaaDoor.GoC.Tape) =>
  letK (decide (0 < (t_9.length : Int))) fun (t_22 : Bool) =>
  joinK (fun (st_26 : Bool × Go.Proofs.YtdgbigkcophjoaaDoor.GoC.Tape) => unp2 st_26 fun t_26 t_26_tp =>
  iteK t_26
  (bind2 (Go.Proofs.YtdgbigkcophjoaaDoor.GsL1CurPick.P t_26_tp (t_9.length : Int)) fun (t_31 : Int) (t_31_tp : Go.Proofs.YtdgbigkcophjoaaDoor.GoC.Tape) =>
  Option.bind (idx t_9 t_31) fun (yt_32 : Go.Proofs.YtdgbigkcophjoaaDoor.PComb.Comb) =>
  unComb yt_32 fun (t_32_id : Int) (t_32_wide : Int) (t_32_high : Int) (t_32_line : Bool) =>
  bind2 (Go.Proofs.YtdgbigkcophjoaaDoor.GsL1CurOne.P t_31_tp 2) fun (t_37 : Bool) (t_37_tp : Go.Proofs.YtdgbigkcophjoaaDoor.GoC.Tape) =>
  iteK t_37
  (some (t_9, t_32_high, t_32_wide, t_18))
  (some (t_9, t_32_wide, t_32_high, t_18)))
  (bind2 (Go.Proofs.YtdgbigkcophjoaaDoor.GsL1CurAsk5.P t_26_tp) fun (t_60 : Int) (t_60_tp : Go.Proofs.YtdgbigkcophjoaaDoor.GoC.Tape) =>
  bind2 (Go.Proofs.YtdgbigkcophjoaaDoor.GsL1CurAsk5.P t_60_tp) fun (t_62 : Int) (t_62_tp : Go.Proofs.YtdgbigkcophjoaaDoor.GoC.Tape) =>
  some (t_9, t_60, t_62, t_18))) fun jt_26 => iteK t_22 (bind2 (Go.Proofs.YtdgbigkcophjoaaDoor.GsL1CurOne.P t_18_tp 2) fun (t_25 : Bool) (t_25_tp : Go.Proofs.YtdgbigkcophjoaaDoor.GoC.Tape) =>
  appK jt_26 (t_25, t_25_tp)) (appK jt_26 (false, t_18_tp))

set_option maxRecDepth 100000 in
set_option maxHeartbeats 2000000 in
theorem C (fuel : Nat) (tapes : List Int → Go.Proofs.YtdgbigkcophjoaaDoor.GoC.Tape) (code : (List Int)) (A0 : Option Addr) (c0 : Nat)  (w : World) (HE : Hid (Go.Proofs.YtdgbigkcophjoaaDoor.GoC.Tells tapes)) (M0 : Hid (Cells w 1 A0 code.length (Go.Proofs.YtdgbigkcophjoaaDoor.GoC.u8s code))) (N0 : Hid (code.length ≤ 9223372036854775807)) (V0 : Hid (∀ z ∈ code, 0 ≤ z ∧ z ≤ 255))  {r0 : (List Go.Proofs.YtdgbigkcophjoaaDoor.PComb.Comb)} {r1 : Int} {r2 : Int} {r3 : Int} (H : Hid (P fuel tapes code = some (r0, r1, r2, r3))) :
    Calls Tryd.prog 5 #[.slice A0 code.length c0] w (fun e w' => ∃ A_r0 c_r0, e = .returned (.tuple #[.slice A_r0 r0.length c_r0, .int .i64 r1, .int .i64 r2, .int .i64 r3]) ∧ w'.ownsRow w.heap.size 32 4 (.slice A_r0 r0.length c_r0) r0.length (Go.Proofs.YtdgbigkcophjoaaDoor.PComb.flat r0) ∧ Below w.heap.size w w') := by
  have HB := Lib.hid (Below.refl w.heap.size w)
  unfold P at H
  have N0o := N0.out
  obtain ⟨i0_3, hi_3, hz0_3, hz1_3, hz2_3⟩ := Aid.info_parts (P := Tryd.prog) (T := 3) (z := .int .i64 0) (s := 1) (b := 8) (by kernel_rfl)
  go_enter Tryd.func5, Tryd.ntmps5
  replace H := let_hid H
  obtain ⟨t_6, ht_6, H⟩ := H
  obtain ⟨w_t_6, hw_t_6⟩ : ∃ x, w.alloc (.cells #[.slice A0 code.length c0, .int .i64 0, .int .u64 0] 47) = x := ⟨_, rfl⟩
  have bw_t_6 : Below w.heap.size w w_t_6 := by rw [← hw_t_6]; exact (Below.refl _ _).alloc (Nat.le_refl _) _
  have Kt_6 : Hid (Go.Proofs.YtdgbigkcophjoaaDoor.GoC.CurIs w_t_6 w.heap.size w.heap.size A0 c0 t_6) := Lib.hid (by rw [← hw_t_6, ← ht_6]; exact Go.Proofs.YtdgbigkcophjoaaDoor.GoC.cur_new HB.out.size (Cells.below M0.out HB.out) (fun a_ ha_ h0_ => by subst ha_; exact Go.Proofs.YtdgbigkcophjoaaDoor.GoC.cells_lt M0.out (by unfold Go.Proofs.YtdgbigkcophjoaaDoor.GoC.u8s; rw [List.length_map]; exact h0_)) (HE.out.2.2 code V0.out N0.out))
  have hht_6 := Lib.hid ht_6
  clear ht_6
  have HBw_t_6 := Lib.hid (Below.step HB.out bw_t_6)
  clear bw_t_6
  replace H := bind2_hid H
  obtain ⟨t_9, t_9_tp, qt_9, H⟩ := H
  go_wp2_with fail
  go_at_call 23
  refine (Go.Proofs.YtdgbigkcophjoaaDoor.GsL1CurCombs5.C fuel (t_6) (w.heap.size) (A0) (c0) (w.heap.size) _   Kt_6 qt_9).mono ?_
  rintro e_t_9 wt_9 ⟨At_9, ct_9, rfl, ot_9, kt_9, gt_9⟩
  have Dt_9_t_6 := Lib.hid (Go.Proofs.YtdgbigkcophjoaaDoor.GoC.apart_callcur ot_9 Kt_6.out)
  have Ot_9 := Lib.hid (own_lower ot_9 HBw_t_6.out.size)
  clear ot_9
  have Kt_9 := Lib.hid kt_9
  have Gt_9 : Hid (w_t_6.grownBy wt_9 (Value.slice (some ⟨w.heap.size, 0, none⟩) 1 1).ownBlock) := Lib.hid gt_9
  clear kt_9 gt_9
  have HBwt_9 := Lib.hid (Go.Proofs.YtdgbigkcophjoaaDoor.GoC.below_cur HBw_t_6.out Gt_9.out HBw_t_6.out.size (Go.Proofs.YtdgbigkcophjoaaDoor.GoC.cur_lt Kt_6.out).1)
  clear Kt_6 Gt_9
  replace H := let_hid H
  obtain ⟨t_12, ht_12, H⟩ := H
  obtain ⟨w_t_12, hw_t_12⟩ : ∃ x, wt_9.alloc (.cells #[.int .i64 0, .int .i64 10, .int .i64 25, .int .i64 100, .int .i64 (-1), .int .i64 101] 3) = x := ⟨_, rfl⟩
  have bw_t_12 : Below wt_9.heap.size wt_9 w_t_12 := by rw [← hw_t_12]; exact (Below.refl _ _).alloc (Nat.le_refl _) _
  have hs_t_12 := HBwt_9.out.size
  have nt_12 : t_12.length = 6 := by rw [← ht_12]; rfl
  have Ot_12 : Hid (w_t_12.ownsRow w.heap.size 3 1 (.slice (some ⟨wt_9.heap.size, 0, none⟩) 6 6) 6 (Go.Proofs.YtdgbigkcophjoaaDoor.HelpInt.iv t_12)) := by
    rw [← hw_t_12, ← ht_12]
    have e_ : ([.int .i64 0, .int .i64 10, .int .i64 25, .int .i64 100, .int .i64 (-1), .int .i64 101] : List Value) = (Go.Proofs.YtdgbigkcophjoaaDoor.HelpInt.iv ([0, 10, 25, 100, (-1), 101] : List Int)) := rfl
    exact Lib.hid (own_laid (n := 6) hs_t_12 e_ rfl (by unfold maxLen; omega))
  clear hs_t_12
  have hht_12 := Lib.hid ht_12
  clear ht_12
  replace nt_12 := Lib.hid nt_12
  have Dt_12_t_9 := Lib.hid (apart_fresh Ot_9.out)
  have Dt_12_t_6 := Lib.hid (Go.Proofs.YtdgbigkcophjoaaDoor.GoC.apart_cur Kt_9.out)
  have HBw_t_12 := Lib.hid (Below.step HBwt_9.out bw_t_12)
  replace Ot_9 := Lib.hid (own_below Ot_9.out bw_t_12)
  replace Kt_9 := Lib.hid (Go.Proofs.YtdgbigkcophjoaaDoor.GoC.cur_below Kt_9.out bw_t_12)
  clear bw_t_12
  replace H := bind2_hid H
  obtain ⟨t_14, t_14_tp, qt_14, H⟩ := H
  go_wp2_with fail
  go_at_call 25
  refine (Go.Proofs.YtdgbigkcophjoaaDoor.GsL1CurPick.C (t_9_tp) (24) (w.heap.size) (A0) (c0) (w.heap.size) _   Kt_9 qt_14).mono ?_
  rintro e_t_14 wt_14 ⟨rfl, kt_14, gt_14⟩
  have Kt_14 := Lib.hid kt_14
  have Gt_14 : Hid (w_t_12.grownBy wt_14 (Value.slice (some ⟨w.heap.size, 0, none⟩) 1 1).ownBlock) := Lib.hid gt_14
  clear kt_14 gt_14
  have HBwt_14 := Lib.hid (Go.Proofs.YtdgbigkcophjoaaDoor.GoC.below_cur HBw_t_12.out Gt_14.out HBw_t_12.out.size (Go.Proofs.YtdgbigkcophjoaaDoor.GoC.cur_lt Kt_9.out).1)
  replace Ot_9 := Lib.hid (own_other Ot_9.out Gt_14.out (Apart.symm Dt_9_t_6.out))
  replace Ot_12 := Lib.hid (own_other Ot_12.out Gt_14.out (Apart.symm Dt_12_t_6.out))
  clear Kt_9 Gt_14
  replace H := let_hid H
  obtain ⟨t_15, ht_15, H⟩ := H
  replace H := let_hid H
  obtain ⟨t_16, ht_16, H⟩ := H
  replace H := guard_hid H
  obtain ⟨hl_t_17, H⟩ := H
  replace H := let_hid H
  obtain ⟨t_17, ht_17, H⟩ := H
  have dt_17 : ((Go.Proofs.YtdgbigkcophjoaaDoor.HelpInt.iv t_12)).take (Int.toNat t_16 * 1) = (Go.Proofs.YtdgbigkcophjoaaDoor.HelpInt.iv t_17) := by
    rw [← ht_17]
    simp [Go.Proofs.YtdgbigkcophjoaaDoor.HelpInt.iv, List.map_take]
  have nt_17 : Int.toNat t_16 = t_17.length := by rw [← ht_17, List.length_take]; have h_ := nt_12.out; omega
  replace hl_t_17 : (0 : Int) ≤ t_16 ∧ (t_16 : Int) ≤ ((6 : Nat) : Int) := by have h_ := nt_12.out; omega
  obtain ⟨rt_17, Ot_17⟩ := slice_head (P := Tryd.prog) (t := 27) (e := 3) (k := .i64) (by kernel_rfl) (by kernel_rfl) hi_3 hz1_3 Ot_12.out hl_t_17 nt_17 dt_17
  replace Ot_17 := Lib.hid Ot_17
  clear dt_17 nt_17 hl_t_17
  have hht_17 := Lib.hid ht_17
  clear ht_17
  replace H := bind2_hid H
  obtain ⟨t_18, t_18_tp, qt_18, H⟩ := H
  go_wp2_with fail
  go_at_call 24
  refine (Go.Proofs.YtdgbigkcophjoaaDoor.GsL1CurAmong.C (t_14_tp) (t_17) (some ⟨wt_9.heap.size, 0, none⟩) 6 (w.heap.size) (A0) (c0) (w.heap.size) _   (Lib.hid (own_cells Ot_17.out)) (Lib.hid (own_max Ot_17.out)) Kt_14 (Lib.hid (fun _ => Dt_12_t_6.out)) qt_18).mono ?_
  rintro e_t_18 wt_18 ⟨rfl, kt_18, gt_18⟩
  have Kt_18 := Lib.hid kt_18
  have Gt_18 : Hid (wt_14.grownBy wt_18 (Value.slice (some ⟨w.heap.size, 0, none⟩) 1 1).ownBlock) := Lib.hid gt_18
  clear kt_18 gt_18
  have HBwt_18 := Lib.hid (Go.Proofs.YtdgbigkcophjoaaDoor.GoC.below_cur HBwt_14.out Gt_18.out HBwt_14.out.size (Go.Proofs.YtdgbigkcophjoaaDoor.GoC.cur_lt Kt_14.out).1)
  replace Ot_9 := Lib.hid (own_other Ot_9.out Gt_18.out (Apart.symm Dt_9_t_6.out))
  replace Ot_17 := Lib.hid (own_other Ot_17.out Gt_18.out (Apart.symm Dt_12_t_6.out))
  clear Kt_14 Gt_18
  replace H := let_hid H
  obtain ⟨t_22, ht_22, H⟩ := H
  replace H := join_hid H
  cases t_22 with
  | false =>
    have nht_22 : ¬ (0 < t_9.length) := by have := of_decide_eq_false ht_22; omega
    replace H := ite_f H
    replace H := app_hid H
    replace H := unp2_hid H
    replace H := ite_f H
    replace H := bind2_hid H
    obtain ⟨t_60, t_60_tp, qt_60, H⟩ := H
    go_wp2_with fail
    go_at_call 27
    refine (Go.Proofs.YtdgbigkcophjoaaDoor.GsL1CurAsk5.C (t_18_tp) (w.heap.size) (A0) (c0) (w.heap.size) _   Kt_18 qt_60).mono ?_
    rintro e_t_60 wt_60 ⟨rfl, kt_60, gt_60⟩
    have Kt_60 := Lib.hid kt_60
    have Gt_60 : Hid (wt_18.grownBy wt_60 (Value.slice (some ⟨w.heap.size, 0, none⟩) 1 1).ownBlock) := Lib.hid gt_60
    clear kt_60 gt_60
    have HBwt_60 := Lib.hid (Go.Proofs.YtdgbigkcophjoaaDoor.GoC.below_cur HBwt_18.out Gt_60.out HBwt_18.out.size (Go.Proofs.YtdgbigkcophjoaaDoor.GoC.cur_lt Kt_18.out).1)
    replace Ot_9 := Lib.hid (own_other Ot_9.out Gt_60.out (Apart.symm Dt_9_t_6.out))
    replace Ot_17 := Lib.hid (own_other Ot_17.out Gt_60.out (Apart.symm Dt_12_t_6.out))
    clear Kt_18 Gt_60
    replace H := bind2_hid H
    obtain ⟨t_62, t_62_tp, qt_62, H⟩ := H
    go_wp2_with fail
    go_at_call 27
    refine (Go.Proofs.YtdgbigkcophjoaaDoor.GsL1CurAsk5.C (t_60_tp) (w.heap.size) (A0) (c0) (w.heap.size) _   Kt_60 qt_62).mono ?_
    rintro e_t_62 wt_62 ⟨rfl, kt_62, gt_62⟩
    have Kt_62 := Lib.hid kt_62
    have Gt_62 : Hid (wt_60.grownBy wt_62 (Value.slice (some ⟨w.heap.size, 0, none⟩) 1 1).ownBlock) := Lib.hid gt_62
    clear kt_62 gt_62
    have HBwt_62 := Lib.hid (Go.Proofs.YtdgbigkcophjoaaDoor.GoC.below_cur HBwt_60.out Gt_62.out HBwt_60.out.size (Go.Proofs.YtdgbigkcophjoaaDoor.GoC.cur_lt Kt_60.out).1)
    replace Ot_9 := Lib.hid (own_other Ot_9.out Gt_62.out (Apart.symm Dt_9_t_6.out))
    replace Ot_17 := Lib.hid (own_other Ot_17.out Gt_62.out (Apart.symm Dt_12_t_6.out))
    clear Kt_60 Gt_62
    cases ret_hid H
    go_wp2_with fail
    (try simp only [Exit.inBlock, Exit.then]); refine bodyPost_ret (results_tmp4 rfl _ _ _) rfl ?_
    exact ⟨At_9, ct_9, rfl, Ot_9.out, HBwt_62.out⟩
  | true =>
    have nht_22 : 0 < t_9.length := by have := of_decide_eq_true ht_22; omega
    replace H := ite_t H
    replace H := bind2_hid H
    obtain ⟨t_25, t_25_tp, qt_25, H⟩ := H
    go_wp2_with fail
    go_at_call 26
    refine (Go.Proofs.YtdgbigkcophjoaaDoor.GsL1CurOne.C (t_18_tp) (2) (w.heap.size) (A0) (c0) (w.heap.size) _   Kt_18 qt_25).mono ?_
    rintro e_t_25 wt_25 ⟨rfl, kt_25, gt_25⟩
    have Kt_25 := Lib.hid kt_25
    have Gt_25 : Hid (wt_18.grownBy wt_25 (Value.slice (some ⟨w.heap.size, 0, none⟩) 1 1).ownBlock) := Lib.hid gt_25
    clear kt_25 gt_25
    have HBwt_25 := Lib.hid (Go.Proofs.YtdgbigkcophjoaaDoor.GoC.below_cur HBwt_18.out Gt_25.out HBwt_18.out.size (Go.Proofs.YtdgbigkcophjoaaDoor.GoC.cur_lt Kt_18.out).1)
    replace Ot_9 := Lib.hid (own_other Ot_9.out Gt_25.out (Apart.symm Dt_9_t_6.out))
    replace Ot_17 := Lib.hid (own_other Ot_17.out Gt_25.out (Apart.symm Dt_12_t_6.out))
    clear Kt_18 Gt_25
    replace H := app_hid H
    replace H := unp2_hid H
    cases t_25 with
    | false =>
      replace H := ite_f H
      replace H := bind2_hid H
      obtain ⟨t_60, t_60_tp, qt_60, H⟩ := H
      go_wp2_with fail
      go_at_call 27
      refine (Go.Proofs.YtdgbigkcophjoaaDoor.GsL1CurAsk5.C (t_25_tp) (w.heap.size) (A0) (c0) (w.heap.size) _   Kt_25 qt_60).mono ?_
      rintro e_t_60 wt_60 ⟨rfl, kt_60, gt_60⟩
      have Kt_60 := Lib.hid kt_60
      have Gt_60 : Hid (wt_25.grownBy wt_60 (Value.slice (some ⟨w.heap.size, 0, none⟩) 1 1).ownBlock) := Lib.hid gt_60
      clear kt_60 gt_60
      have HBwt_60 := Lib.hid (Go.Proofs.YtdgbigkcophjoaaDoor.GoC.below_cur HBwt_25.out Gt_60.out HBwt_25.out.size (Go.Proofs.YtdgbigkcophjoaaDoor.GoC.cur_lt Kt_25.out).1)
      replace Ot_9 := Lib.hid (own_other Ot_9.out Gt_60.out (Apart.symm Dt_9_t_6.out))
      replace Ot_17 := Lib.hid (own_other Ot_17.out Gt_60.out (Apart.symm Dt_12_t_6.out))
      clear Kt_25 Gt_60
      replace H := bind2_hid H
      obtain ⟨t_62, t_62_tp, qt_62, H⟩ := H
      go_wp2_with fail
      go_at_call 27
      refine (Go.Proofs.YtdgbigkcophjoaaDoor.GsL1CurAsk5.C (t_60_tp) (w.heap.size) (A0) (c0) (w.heap.size) _   Kt_60 qt_62).mono ?_
      rintro e_t_62 wt_62 ⟨rfl, kt_62, gt_62⟩
      have Kt_62 := Lib.hid kt_62
      have Gt_62 : Hid (wt_60.grownBy wt_62 (Value.slice (some ⟨w.heap.size, 0, none⟩) 1 1).ownBlock) := Lib.hid gt_62
      clear kt_62 gt_62
      have HBwt_62 := Lib.hid (Go.Proofs.YtdgbigkcophjoaaDoor.GoC.below_cur HBwt_60.out Gt_62.out HBwt_60.out.size (Go.Proofs.YtdgbigkcophjoaaDoor.GoC.cur_lt Kt_60.out).1)
      replace Ot_9 := Lib.hid (own_other Ot_9.out Gt_62.out (Apart.symm Dt_9_t_6.out))
      replace Ot_17 := Lib.hid (own_other Ot_17.out Gt_62.out (Apart.symm Dt_12_t_6.out))
      clear Kt_60 Gt_62
      cases ret_hid H
      go_wp2_with fail
      (try simp only [Exit.inBlock, Exit.then]); refine bodyPost_ret (results_tmp4 rfl _ _ _) rfl ?_
      exact ⟨At_9, ct_9, rfl, Ot_9.out, HBwt_62.out⟩
    | true =>
      replace H := ite_t H
      replace H := bind2_hid H
      obtain ⟨t_31, t_31_tp, qt_31, H⟩ := H
      go_wp2_with fail
      go_at_call 25
      refine (Go.Proofs.YtdgbigkcophjoaaDoor.GsL1CurPick.C (t_25_tp) ((t_9.length : Int)) (w.heap.size) (A0) (c0) (w.heap.size) _   Kt_25 qt_31).mono ?_
      rintro e_t_31 wt_31 ⟨rfl, kt_31, gt_31⟩
      have Kt_31 := Lib.hid kt_31
      have Gt_31 : Hid (wt_25.grownBy wt_31 (Value.slice (some ⟨w.heap.size, 0, none⟩) 1 1).ownBlock) := Lib.hid gt_31
      clear kt_31 gt_31
      have HBwt_31 := Lib.hid (Go.Proofs.YtdgbigkcophjoaaDoor.GoC.below_cur HBwt_25.out Gt_31.out HBwt_25.out.size (Go.Proofs.YtdgbigkcophjoaaDoor.GoC.cur_lt Kt_25.out).1)
      replace Ot_9 := Lib.hid (own_other Ot_9.out Gt_31.out (Apart.symm Dt_9_t_6.out))
      replace Ot_17 := Lib.hid (own_other Ot_17.out Gt_31.out (Apart.symm Dt_12_t_6.out))
      clear Kt_25 Gt_31
      replace H := idx_hid H
      obtain ⟨nt_32, yt_32, et_32, lt_32, gt_32, H⟩ := H
      subst et_32
      obtain ⟨t_32_id, t_32_wide, t_32_high, t_32_line⟩ := yt_32
      replace H := unComb_hid H
      obtain ⟨qt_32, Qt_32⟩ := own_some Ot_9.out (by omega)
      subst Qt_32
      obtain ⟨ab_t_32, ao_t_32, zt_32, At_32, z_t_32, ct_32_0, ct_32_1, ct_32_2, ct_32_3⟩ := Go.Proofs.YtdgbigkcophjoaaDoor.OComb.at_ (own_cells Ot_9.out) (k := nt_32) (by omega)
      obtain rfl := Option.some.inj (gt_32.out.symm.trans z_t_32)
      simp only [Option.some.injEq, Addr.mk.injEq] at At_32
      obtain ⟨rfl, rfl, _⟩ := At_32
      clear z_t_32
      simp only [Nat.zero_add] at ct_32_0 ct_32_1 ct_32_2 ct_32_3
      have b0t_32 : (0 : Int) ≤ (nt_32 : Int) := by omega
      have b1t_32 : (nt_32 : Int) < ((t_9.length : Nat) : Int) := by omega
      have b2t_32 : ((nt_32 : Int)).toNat = nt_32 := by omega
      obtain ⟨w_x_34, hw_x_34⟩ : ∃ x, wt_31.alloc (.cells #[.int .i64 t_32_id, .int .i64 t_32_wide, .int .i64 t_32_high, .bool t_32_line] 32) = x := ⟨_, rfl⟩
      have bw_x_34 : Below wt_31.heap.size wt_31 w_x_34 := by rw [← hw_x_34]; exact (Below.refl _ _).alloc (Nat.le_refl _) _
      have Dx_34_t_9 := Lib.hid (apart_fresh Ot_9.out)
      have Dx_34_t_17 := Lib.hid (apart_fresh Ot_17.out)
      have Dx_34_t_6 := Lib.hid (Go.Proofs.YtdgbigkcophjoaaDoor.GoC.apart_cur Kt_31.out)
      have HBw_x_34 := Lib.hid (Below.step HBwt_31.out bw_x_34)
      have ct_32_0__173 := cell_below bw_x_34 ct_32_0
      have ct_32_1__174 := cell_below bw_x_34 ct_32_1
      have ct_32_2__175 := cell_below bw_x_34 ct_32_2
      have ct_32_3__176 := cell_below bw_x_34 ct_32_3
      replace Ot_9 := Lib.hid (own_below Ot_9.out bw_x_34)
      replace Ot_17 := Lib.hid (own_below Ot_17.out bw_x_34)
      replace Kt_31 := Lib.hid (Go.Proofs.YtdgbigkcophjoaaDoor.GoC.cur_below Kt_31.out bw_x_34)
      clear bw_x_34
      have kx_34_0 : w_x_34.cell? ⟨wt_31.heap.size, 0, none⟩ = some (.int .i64 t_32_id) := by rw [← hw_x_34]; exact box_new _ _ _ 0 _ rfl
      have kx_34_1 : w_x_34.cell? ⟨wt_31.heap.size, 1, none⟩ = some (.int .i64 t_32_wide) := by rw [← hw_x_34]; exact box_new _ _ _ 1 _ rfl
      have kx_34_2 : w_x_34.cell? ⟨wt_31.heap.size, 2, none⟩ = some (.int .i64 t_32_high) := by rw [← hw_x_34]; exact box_new _ _ _ 2 _ rfl
      have kx_34_3 : w_x_34.cell? ⟨wt_31.heap.size, 3, none⟩ = some (.bool t_32_line) := by rw [← hw_x_34]; exact box_new _ _ _ 3 _ rfl
      replace H := bind2_hid H
      obtain ⟨t_37, t_37_tp, qt_37, H⟩ := H
      go_wp2_with fail
      clear ct_32_0 ct_32_1 ct_32_2 ct_32_3
      go_at_call 26
      refine (Go.Proofs.YtdgbigkcophjoaaDoor.GsL1CurOne.C (t_31_tp) (2) (w.heap.size) (A0) (c0) (w.heap.size) _   Kt_31 qt_37).mono ?_
      rintro e_t_37 wt_37 ⟨rfl, kt_37, gt_37⟩
      have Kt_37 := Lib.hid kt_37
      have Gt_37 : Hid (w_x_34.grownBy wt_37 (Value.slice (some ⟨w.heap.size, 0, none⟩) 1 1).ownBlock) := Lib.hid gt_37
      clear kt_37 gt_37
      have HBwt_37 := Lib.hid (Go.Proofs.YtdgbigkcophjoaaDoor.GoC.below_cur HBw_x_34.out Gt_37.out HBw_x_34.out.size (Go.Proofs.YtdgbigkcophjoaaDoor.GoC.cur_lt Kt_31.out).1)
      replace ct_32_0__173 := cell_other ct_32_0__173 Gt_37.out (Apart.symm Dt_9_t_6.out)
      replace ct_32_1__174 := cell_other ct_32_1__174 Gt_37.out (Apart.symm Dt_9_t_6.out)
      replace ct_32_2__175 := cell_other ct_32_2__175 Gt_37.out (Apart.symm Dt_9_t_6.out)
      replace ct_32_3__176 := cell_other ct_32_3__176 Gt_37.out (Apart.symm Dt_9_t_6.out)
      replace kx_34_0 := cell_other kx_34_0 Gt_37.out (Apart.symm Dx_34_t_6.out)
      replace kx_34_1 := cell_other kx_34_1 Gt_37.out (Apart.symm Dx_34_t_6.out)
      replace kx_34_2 := cell_other kx_34_2 Gt_37.out (Apart.symm Dx_34_t_6.out)
      replace kx_34_3 := cell_other kx_34_3 Gt_37.out (Apart.symm Dx_34_t_6.out)
      replace Ot_9 := Lib.hid (own_other Ot_9.out Gt_37.out (Apart.symm Dt_9_t_6.out))
      replace Ot_17 := Lib.hid (own_other Ot_17.out Gt_37.out (Apart.symm Dt_12_t_6.out))
      clear Kt_31 Gt_37
      cases t_37 with
      | false =>
        replace H := ite_f H
        go_wp2_with fail
        have Hct_32_0__173 := Lib.hid ct_32_0__173
        replace ct_32_0__173 := cell_regrown ct_32_0__173
        have Hct_32_1__174 := Lib.hid ct_32_1__174
        replace ct_32_1__174 := cell_regrown ct_32_1__174
        have Hct_32_2__175 := Lib.hid ct_32_2__175
        replace ct_32_2__175 := cell_regrown ct_32_2__175
        have Hct_32_3__176 := Lib.hid ct_32_3__176
        replace ct_32_3__176 := cell_regrown ct_32_3__176
        have Hkx_34_0 := Lib.hid kx_34_0
        replace kx_34_0 := cell_regrown kx_34_0
        have Hkx_34_1 := Lib.hid kx_34_1
        replace kx_34_1 := cell_regrown kx_34_1
        have Hkx_34_2 := Lib.hid kx_34_2
        replace kx_34_2 := cell_regrown kx_34_2
        have Hkx_34_3 := Lib.hid kx_34_3
        replace kx_34_3 := cell_regrown kx_34_3
        refine wp_region_quiet_below (by kernel_rfl) (by kernel_rfl) ?_
        repeat (go_big_quiet_step (fail))
        refine wpQuiet_nil ?_
        intro Y8 hY8
        replace hY8 := below_class hY8
        replace ct_32_0__173 := Hct_32_0__173.out
        clear Hct_32_0__173
        replace ct_32_1__174 := Hct_32_1__174.out
        clear Hct_32_1__174
        replace ct_32_2__175 := Hct_32_2__175.out
        clear Hct_32_2__175
        replace ct_32_3__176 := Hct_32_3__176.out
        clear Hct_32_3__176
        replace kx_34_0 := Hkx_34_0.out
        clear Hkx_34_0
        replace kx_34_1 := Hkx_34_1.out
        clear Hkx_34_1
        replace kx_34_2 := Hkx_34_2.out
        clear Hkx_34_2
        replace kx_34_3 := Hkx_34_3.out
        clear Hkx_34_3
        have HBY8 := Lib.hid (Below.step HBwt_37.out hY8)
        replace ct_32_0__173 := cell_below hY8 ct_32_0__173
        replace ct_32_1__174 := cell_below hY8 ct_32_1__174
        replace ct_32_2__175 := cell_below hY8 ct_32_2__175
        replace ct_32_3__176 := cell_below hY8 ct_32_3__176
        replace kx_34_0 := cell_below hY8 kx_34_0
        replace kx_34_1 := cell_below hY8 kx_34_1
        replace kx_34_2 := cell_below hY8 kx_34_2
        replace kx_34_3 := cell_below hY8 kx_34_3
        replace Ot_9 := Lib.hid (own_below Ot_9.out hY8)
        replace Ot_17 := Lib.hid (own_below Ot_17.out hY8)
        replace Kt_37 := Lib.hid (Go.Proofs.YtdgbigkcophjoaaDoor.GoC.cur_below Kt_37.out hY8)
        clear hY8
        cases ret_hid H
        go_wp2_with fail
        (try simp only [Exit.inBlock, Exit.then]); refine bodyPost_ret (results_tmp4 rfl _ _ _) rfl ?_
        exact ⟨(some ⟨qt_32, 0, none⟩), ct_9, rfl, Ot_9.out, HBY8.out⟩
      | true =>
        replace H := ite_t H
        go_wp2_with fail
        have Hct_32_0__173 := Lib.hid ct_32_0__173
        replace ct_32_0__173 := cell_regrown ct_32_0__173
        have Hct_32_1__174 := Lib.hid ct_32_1__174
        replace ct_32_1__174 := cell_regrown ct_32_1__174
        have Hct_32_2__175 := Lib.hid ct_32_2__175
        replace ct_32_2__175 := cell_regrown ct_32_2__175
        have Hct_32_3__176 := Lib.hid ct_32_3__176
        replace ct_32_3__176 := cell_regrown ct_32_3__176
        have Hkx_34_0 := Lib.hid kx_34_0
        replace kx_34_0 := cell_regrown kx_34_0
        have Hkx_34_1 := Lib.hid kx_34_1
        replace kx_34_1 := cell_regrown kx_34_1
        have Hkx_34_2 := Lib.hid kx_34_2
        replace kx_34_2 := cell_regrown kx_34_2
        have Hkx_34_3 := Lib.hid kx_34_3
        replace kx_34_3 := cell_regrown kx_34_3
        refine wp_region_quiet_below (by kernel_rfl) (by kernel_rfl) ?_
        repeat (go_big_quiet_step (fail))
        refine wpQuiet_nil ?_
        intro Y7 hY7
        replace hY7 := below_class hY7
        replace ct_32_0__173 := Hct_32_0__173.out
        clear Hct_32_0__173
        replace ct_32_1__174 := Hct_32_1__174.out
        clear Hct_32_1__174
        replace ct_32_2__175 := Hct_32_2__175.out
        clear Hct_32_2__175
        replace ct_32_3__176 := Hct_32_3__176.out
        clear Hct_32_3__176
        replace kx_34_0 := Hkx_34_0.out
        clear Hkx_34_0
        replace kx_34_1 := Hkx_34_1.out
        clear Hkx_34_1
        replace kx_34_2 := Hkx_34_2.out
        clear Hkx_34_2
        replace kx_34_3 := Hkx_34_3.out
        clear Hkx_34_3
        have HBY7 := Lib.hid (Below.step HBwt_37.out hY7)
        replace ct_32_0__173 := cell_below hY7 ct_32_0__173
        replace ct_32_1__174 := cell_below hY7 ct_32_1__174
        replace ct_32_2__175 := cell_below hY7 ct_32_2__175
        replace ct_32_3__176 := cell_below hY7 ct_32_3__176
        replace kx_34_0 := cell_below hY7 kx_34_0
        replace kx_34_1 := cell_below hY7 kx_34_1
        replace kx_34_2 := cell_below hY7 kx_34_2
        replace kx_34_3 := cell_below hY7 kx_34_3
        replace Ot_9 := Lib.hid (own_below Ot_9.out hY7)
        replace Ot_17 := Lib.hid (own_below Ot_17.out hY7)
        replace Kt_37 := Lib.hid (Go.Proofs.YtdgbigkcophjoaaDoor.GoC.cur_below Kt_37.out hY7)
        clear hY7
        cases ret_hid H
        go_wp2_with fail
        (try simp only [Exit.inBlock, Exit.then]); refine bodyPost_ret (results_tmp4 rfl _ _ _) rfl ?_
        exact ⟨(some ⟨qt_32, 0, none⟩), ct_9, rfl, Ot_9.out, HBY7.out⟩
end Go.Proofs.YtdgbigkcophjoaaDoor.GsDrawMatchCombs

/- loop.example/g01062/impl.within as a plain function, and the contract of the program's: where the plain one has an answer, the program has it. Conditions: slices read as lists. -/
namespace Go.Proofs.YtdgbigkcophjoaaDoor.GiWithin
set_option linter.unusedVariables false
set_option linter.unusedSimpArgs false
open Go.RowKit
open Go.Proofs.YtdgbigkcophjoaaDoor.Rowed Go.Proofs.YtdgbigkcophjoaaDoor.Turn Go.Proofs.YtdgbigkcophjoaaDoor.Aid Go.Proofs.YtdgbigkcophjoaaDoor.GoP Go.Proofs.YtdgbigkcophjoaaDoor.GoM

def P (n_0 : Int) (low : Int) (high : Int) : Option (Bool) :=
  letK (decide (low ≤ n_0)) fun (t_3 : Bool) =>
  joinK (fun (t_8 : Bool) =>
  some t_8) fun jt_8 => iteK t_3 (letK (decide (n_0 ≤ high)) fun (t_7 : Bool) =>
  appK jt_8 t_7) (appK jt_8 false)

set_option maxRecDepth 100000 in
set_option maxHeartbeats 2000000 in
theorem C (n_0 : Int) (low : Int) (high : Int)   (w : World)   {r : Bool} (H : Hid (P n_0 low high = some r)) :
    Calls Tryd.prog 54 #[.int .i64 n_0, .int .i64 low, .int .i64 high] w (Gives (.bool r) w) := by
  have HB := Lib.hid (Below.refl w.heap.size w)
  unfold P at H
  go_enter Tryd.func54, Tryd.ntmps54
  replace H := let_hid H
  obtain ⟨t_3, ht_3, H⟩ := H
  replace H := join_hid H
  cases t_3 with
  | false =>
    replace H := ite_f H
    replace H := app_hid H
    obtain rfl := ret_hid H
    go_wp2_with fail
    go_ret
    exact ⟨rfl, HB.out⟩
  | true =>
    replace H := ite_t H
    replace H := let_hid H
    obtain ⟨t_7, ht_7, H⟩ := H
    replace H := app_hid H
    obtain rfl := ret_hid H
    go_wp2_with fail
    go_ret
    exact ⟨rfl, HB.out⟩

set_option maxRecDepth 100000 in
set_option maxHeartbeats 2000000 in
theorem C0 (n_0 : Int) (low : Int) (high : Int)   (w : World)   {r : Bool} (H : Hid (P n_0 low high = some r)) :
    Calls Tryd.prog 54 #[.int .i64 n_0, .int .i64 low, .int .i64 high] w (fun e w'' => e = .returned (.bool r) ∧ w'' = w) := by
  have HB := Lib.hid (Below.refl w.heap.size w)
  unfold P at H
  go_enter Tryd.func54, Tryd.ntmps54
  replace H := let_hid H
  obtain ⟨t_3, ht_3, H⟩ := H
  replace H := join_hid H
  cases t_3 with
  | false =>
    replace H := ite_f H
    replace H := app_hid H
    obtain rfl := ret_hid H
    go_wp2_with fail
    go_ret
    exact ⟨rfl, rfl⟩
  | true =>
    replace H := ite_t H
    replace H := let_hid H
    obtain ⟨t_7, ht_7, H⟩ := H
    replace H := app_hid H
    obtain rfl := ret_hid H
    go_wp2_with fail
    go_ret
    exact ⟨rfl, rfl⟩
end Go.Proofs.YtdgbigkcophjoaaDoor.GiWithin

/- loop.example/g01062/impl.isGauge as a plain function, and the contract of the program's: where the plain one has an answer, the program has it. Conditions: slices read as lists. -/
namespace Go.Proofs.YtdgbigkcophjoaaDoor.GiIsGauge
set_option linter.unusedVariables false
set_option linter.unusedSimpArgs false
open Go.RowKit
open Go.Proofs.YtdgbigkcophjoaaDoor.Rowed Go.Proofs.YtdgbigkcophjoaaDoor.Turn Go.Proofs.YtdgbigkcophjoaaDoor.Aid Go.Proofs.YtdgbigkcophjoaaDoor.GoP Go.Proofs.YtdgbigkcophjoaaDoor.GoM

def P (gauge : Int) : Option (Bool) :=
  Option.bind (Go.Proofs.YtdgbigkcophjoaaDoor.GiWithin.P gauge 500 2000) fun (t_2 : Bool) =>
  some t_2

set_option maxRecDepth 100000 in
set_option maxHeartbeats 2000000 in
theorem C (gauge : Int)   (w : World)   {r : Bool} (H : Hid (P gauge = some r)) :
    Calls Tryd.prog 39 #[.int .i64 gauge] w (Gives (.bool r) w) := by
  have HB := Lib.hid (Below.refl w.heap.size w)
  unfold P at H
  go_enter Tryd.func39, Tryd.ntmps39
  replace H := bind_hid H
  obtain ⟨t_2, qt_2, H⟩ := H
  go_wp2_with fail
  go_at_call 54
  refine (Go.Proofs.YtdgbigkcophjoaaDoor.GiWithin.C (gauge) (500) (2000)  _    qt_2).mono ?_
  rintro e_t_2 wt_2 ⟨rfl, bt_2⟩
  have HBwt_2 := Lib.hid (Below.step HB.out bt_2)
  clear bt_2
  obtain rfl := ret_hid H
  go_wp2_with fail
  go_ret
  exact ⟨rfl, HBwt_2.out⟩
end Go.Proofs.YtdgbigkcophjoaaDoor.GiIsGauge

/- loop.example/g01062/impl.isComb as a plain function, and the contract of the program's: where the plain one has an answer, the program has it. Conditions: slices read as lists. -/
namespace Go.Proofs.YtdgbigkcophjoaaDoor.GiIsComb
set_option linter.unusedVariables false
set_option linter.unusedSimpArgs false
open Go.RowKit
open Go.Proofs.YtdgbigkcophjoaaDoor.Rowed Go.Proofs.YtdgbigkcophjoaaDoor.Turn Go.Proofs.YtdgbigkcophjoaaDoor.Aid Go.Proofs.YtdgbigkcophjoaaDoor.GoP Go.Proofs.YtdgbigkcophjoaaDoor.GoM

def P (x : Go.Proofs.YtdgbigkcophjoaaDoor.PComb.Comb) : Option (Bool) :=
  unComb x fun (x_id : Int) (x_wide : Int) (x_high : Int) (x_line : Bool) =>
  Option.bind (Go.Proofs.YtdgbigkcophjoaaDoor.GiWithin.P x_id 1 99) fun (t_4 : Bool) =>
  joinK (fun (t_9 : Bool) =>
  joinK (fun (t_14 : Bool) =>
  some t_14) fun jt_14 => iteK t_9 (Option.bind (Go.Proofs.YtdgbigkcophjoaaDoor.GiIsGauge.P x_high) fun (t_13 : Bool) =>
  appK jt_14 t_13) (appK jt_14 false)) fun jt_9 => iteK t_4 (Option.bind (Go.Proofs.YtdgbigkcophjoaaDoor.GiIsGauge.P x_wide) fun (t_8 : Bool) =>
  appK jt_9 t_8) (appK jt_9 false)

set_option maxRecDepth 100000 in
set_option maxHeartbeats 2000000 in
theorem C (x : Go.Proofs.YtdgbigkcophjoaaDoor.PComb.Comb)   (w : World)   {r : Bool} (H : Hid (P x = some r)) :
    Calls Tryd.prog 46 #[x.val] w (Gives (.bool r) w) := by
  have HB := Lib.hid (Below.refl w.heap.size w)
  unfold P at H
  obtain ⟨x_id, x_wide, x_high, x_line⟩ := x
  replace H := unComb_hid H
  unfold Go.Proofs.YtdgbigkcophjoaaDoor.PComb.Comb.val
  go_enter Tryd.func46, Tryd.ntmps46
  obtain ⟨w_x_0, hw_x_0⟩ : ∃ x, w.alloc (.cells #[.int .i64 x_id, .int .i64 x_wide, .int .i64 x_high, .bool x_line] 32) = x := ⟨_, rfl⟩
  have bw_x_0 : Below w.heap.size w w_x_0 := by rw [← hw_x_0]; exact (Below.refl _ _).alloc (Nat.le_refl _) _
  have HBw_x_0 := Lib.hid (Below.step HB.out bw_x_0)
  clear bw_x_0
  have kx_0_0 : w_x_0.cell? ⟨w.heap.size, 0, none⟩ = some (.int .i64 x_id) := by rw [← hw_x_0]; exact box_new _ _ _ 0 _ rfl
  have kx_0_1 : w_x_0.cell? ⟨w.heap.size, 1, none⟩ = some (.int .i64 x_wide) := by rw [← hw_x_0]; exact box_new _ _ _ 1 _ rfl
  have kx_0_2 : w_x_0.cell? ⟨w.heap.size, 2, none⟩ = some (.int .i64 x_high) := by rw [← hw_x_0]; exact box_new _ _ _ 2 _ rfl
  have kx_0_3 : w_x_0.cell? ⟨w.heap.size, 3, none⟩ = some (.bool x_line) := by rw [← hw_x_0]; exact box_new _ _ _ 3 _ rfl
  replace H := bind_hid H
  obtain ⟨t_4, qt_4, H⟩ := H
  go_wp2_with fail
  go_at_call 54
  refine (Go.Proofs.YtdgbigkcophjoaaDoor.GiWithin.C (x_id) (1) (99)  _    qt_4).mono ?_
  rintro e_t_4 wt_4 ⟨rfl, bt_4⟩
  have HBwt_4 := Lib.hid (Below.step HBw_x_0.out bt_4)
  replace kx_0_0 := cell_below bt_4 kx_0_0
  replace kx_0_1 := cell_below bt_4 kx_0_1
  replace kx_0_2 := cell_below bt_4 kx_0_2
  replace kx_0_3 := cell_below bt_4 kx_0_3
  clear bt_4
  replace H := join_hid H
  cases t_4 with
  | false =>
    replace H := ite_f H
    replace H := app_hid H
    replace H := join_hid H
    replace H := ite_f H
    replace H := app_hid H
    obtain rfl := ret_hid H
    go_wp2_with fail
    go_ret
    exact ⟨rfl, HBwt_4.out⟩
  | true =>
    replace H := ite_t H
    replace H := bind_hid H
    obtain ⟨t_8, qt_8, H⟩ := H
    go_wp2_with fail
    go_at_call 39
    refine (Go.Proofs.YtdgbigkcophjoaaDoor.GiIsGauge.C (x_wide)  _    qt_8).mono ?_
    rintro e_t_8 wt_8 ⟨rfl, bt_8⟩
    have HBwt_8 := Lib.hid (Below.step HBwt_4.out bt_8)
    replace kx_0_0 := cell_below bt_8 kx_0_0
    replace kx_0_1 := cell_below bt_8 kx_0_1
    replace kx_0_2 := cell_below bt_8 kx_0_2
    replace kx_0_3 := cell_below bt_8 kx_0_3
    clear bt_8
    replace H := app_hid H
    replace H := join_hid H
    cases t_8 with
    | false =>
      replace H := ite_f H
      replace H := app_hid H
      obtain rfl := ret_hid H
      go_wp2_with fail
      go_ret
      exact ⟨rfl, HBwt_8.out⟩
    | true =>
      replace H := ite_t H
      replace H := bind_hid H
      obtain ⟨t_13, qt_13, H⟩ := H
      go_wp2_with fail
      go_at_call 39
      refine (Go.Proofs.YtdgbigkcophjoaaDoor.GiIsGauge.C (x_high)  _    qt_13).mono ?_
      rintro e_t_13 wt_13 ⟨rfl, bt_13⟩
      have HBwt_13 := Lib.hid (Below.step HBwt_8.out bt_13)
      replace kx_0_0 := cell_below bt_13 kx_0_0
      replace kx_0_1 := cell_below bt_13 kx_0_1
      replace kx_0_2 := cell_below bt_13 kx_0_2
      replace kx_0_3 := cell_below bt_13 kx_0_3
      clear bt_13
      replace H := app_hid H
      obtain rfl := ret_hid H
      go_wp2_with fail
      go_ret
      exact ⟨rfl, HBwt_13.out⟩
end Go.Proofs.YtdgbigkcophjoaaDoor.GiIsComb

/- loop.example/g01062/impl.idOfComb as a plain function, and the contract of the program's: where the plain one has an answer, the program has it. Conditions: slices read as lists. -/
namespace Go.Proofs.YtdgbigkcophjoaaDoor.GiIdOfComb
set_option linter.unusedVariables false
set_option linter.unusedSimpArgs false
open Go.RowKit
open Go.Proofs.YtdgbigkcophjoaaDoor.Rowed Go.Proofs.YtdgbigkcophjoaaDoor.Turn Go.Proofs.YtdgbigkcophjoaaDoor.Aid Go.Proofs.YtdgbigkcophjoaaDoor.GoP Go.Proofs.YtdgbigkcophjoaaDoor.GoM

def P (x : Go.Proofs.YtdgbigkcophjoaaDoor.PComb.Comb) : Option (Int) :=
  unComb x fun (x_id : Int) (x_wide : Int) (x_high : Int) (x_line : Bool) =>
  some x_id

set_option maxRecDepth 100000 in
set_option maxHeartbeats 2000000 in
theorem C (x : Go.Proofs.YtdgbigkcophjoaaDoor.PComb.Comb)   (w : World)   {r : Int} (H : Hid (P x = some r)) :
    Calls Tryd.prog 30 #[x.val] w (Gives (.int .i64 r) w) := by
  have HB := Lib.hid (Below.refl w.heap.size w)
  unfold P at H
  obtain ⟨x_id, x_wide, x_high, x_line⟩ := x
  replace H := unComb_hid H
  unfold Go.Proofs.YtdgbigkcophjoaaDoor.PComb.Comb.val
  go_enter Tryd.func30, Tryd.ntmps30
  obtain ⟨w_x_0, hw_x_0⟩ : ∃ x, w.alloc (.cells #[.int .i64 x_id, .int .i64 x_wide, .int .i64 x_high, .bool x_line] 32) = x := ⟨_, rfl⟩
  have bw_x_0 : Below w.heap.size w w_x_0 := by rw [← hw_x_0]; exact (Below.refl _ _).alloc (Nat.le_refl _) _
  have HBw_x_0 := Lib.hid (Below.step HB.out bw_x_0)
  clear bw_x_0
  have kx_0_0 : w_x_0.cell? ⟨w.heap.size, 0, none⟩ = some (.int .i64 x_id) := by rw [← hw_x_0]; exact box_new _ _ _ 0 _ rfl
  have kx_0_1 : w_x_0.cell? ⟨w.heap.size, 1, none⟩ = some (.int .i64 x_wide) := by rw [← hw_x_0]; exact box_new _ _ _ 1 _ rfl
  have kx_0_2 : w_x_0.cell? ⟨w.heap.size, 2, none⟩ = some (.int .i64 x_high) := by rw [← hw_x_0]; exact box_new _ _ _ 2 _ rfl
  have kx_0_3 : w_x_0.cell? ⟨w.heap.size, 3, none⟩ = some (.bool x_line) := by rw [← hw_x_0]; exact box_new _ _ _ 3 _ rfl
  obtain rfl := ret_hid H
  go_wp2_with fail
  go_ret
  exact ⟨rfl, HBw_x_0.out⟩
end Go.Proofs.YtdgbigkcophjoaaDoor.GiIdOfComb

/- loop.example/g01062/impl.areByKey[loop.example/g01062/impl.Comb,int] as a plain function, and the contract of the program's: where the plain one has an answer, the program has it. Conditions: slices read as lists. -/
namespace Go.Proofs.YtdgbigkcophjoaaDoor.GiAreByKeyCombIntiIsCombiIdOfComb
set_option linter.unusedVariables false
set_option linter.unusedSimpArgs false
open Go.RowKit
open Go.Proofs.YtdgbigkcophjoaaDoor.Rowed Go.Proofs.YtdgbigkcophjoaaDoor.Turn Go.Proofs.YtdgbigkcophjoaaDoor.Aid Go.Proofs.YtdgbigkcophjoaaDoor.GoP Go.Proofs.YtdgbigkcophjoaaDoor.GoM

def l0 (list : (List Go.Proofs.YtdgbigkcophjoaaDoor.PComb.Comb)) (k0 : Nat) (s : Unit) (nx0 bk0 : Unit → Option (Bool)) : Option (Bool) :=
  
  Option.bind (idx list (k0 : Int)) fun (yt_11 : Go.Proofs.YtdgbigkcophjoaaDoor.PComb.Comb) =>
  unComb yt_11 fun (t_11_id : Int) (t_11_wide : Int) (t_11_high : Int) (t_11_line : Bool) =>
  Option.bind (Go.Proofs.YtdgbigkcophjoaaDoor.GiIsComb.P (Go.Proofs.YtdgbigkcophjoaaDoor.PComb.Comb.mk t_11_id t_11_wide t_11_high t_11_line)) fun (t_18 : Bool) =>
  letK (!t_18) fun (t_19 : Bool) =>
  joinK (fun (t_36 : Bool) =>
  iteK t_36
  (some false)
  (appK nx0 ())) fun jt_36 => iteK t_19 (appK jt_36 true) (letK (decide (0 < (k0 : Int))) fun (t_22 : Bool) =>
  joinK (fun (t_35 : Bool) =>
  appK jt_36 t_35) fun jt_35 => iteK t_22 (Option.bind (Go.Proofs.YtdgbigkcophjoaaDoor.GiIdOfComb.P (Go.Proofs.YtdgbigkcophjoaaDoor.PComb.Comb.mk t_11_id t_11_wide t_11_high t_11_line)) fun (t_26 : Int) =>
  letK (IntKind.i64.wrap ((k0 : Int) - 1)) fun (t_30 : Int) =>
  Option.bind (idx list t_30) fun (yt_31 : Go.Proofs.YtdgbigkcophjoaaDoor.PComb.Comb) =>
  unComb yt_31 fun (t_31_id : Int) (t_31_wide : Int) (t_31_high : Int) (t_31_line : Bool) =>
  Option.bind (Go.Proofs.YtdgbigkcophjoaaDoor.GiIdOfComb.P (Go.Proofs.YtdgbigkcophjoaaDoor.PComb.Comb.mk t_31_id t_31_wide t_31_high t_31_line)) fun (t_33 : Int) =>
  letK (decide (t_26 ≤ t_33)) fun (t_34 : Bool) =>
  appK jt_35 t_34) (appK jt_35 false))

def e0  (s : Unit) : Option (Bool) :=
  
  some true

def P (list : (List Go.Proofs.YtdgbigkcophjoaaDoor.PComb.Comb)) (most : Int) : Option (Bool) :=
  letK (decide (most < (list.length : Int))) fun (t_4 : Bool) =>
  iteK t_4
  (some false)
  (cntK (l0 list) (list.length) 0 () (e0 ))

set_option maxRecDepth 100000 in
set_option maxHeartbeats 2000000 in
theorem C (list : (List Go.Proofs.YtdgbigkcophjoaaDoor.PComb.Comb)) (most : Int) (A0 : Option Addr) (c0 : Nat)  (w : World) (M0 : Hid (Cells w 4 A0 list.length (Go.Proofs.YtdgbigkcophjoaaDoor.PComb.flat list))) (N0 : Hid (list.length ≤ 9223372036854775807))  {r : Bool} (H : Hid (P list most = some r)) :
    Calls Tryd.prog 50 #[.slice A0 list.length c0, .int .i64 most, .func (.func 46) #[] #[], .func (.func 30) #[] #[]] w (Gives (.bool r) w) := by
  have HB := Lib.hid (Below.refl w.heap.size w)
  unfold P at H
  have N0o := N0.out
  go_enter Tryd.func50, Tryd.ntmps50
  replace H := let_hid H
  obtain ⟨t_4, ht_4, H⟩ := H
  cases t_4 with
  | false =>
    replace H := ite_f H
    go_wp2_with fail
    go_loopg [17] (list.length) (fun m_ v17_ wr => ∃ (k0 : Nat) , k0 + m_ = list.length ∧ v17_ = .int .i64 (k0 : Int) ∧ Hid (cntK (l0 list) m_ k0 () (e0 ) = some r) ∧ Hid (Below w.heap.size w wr))
    case atStart => exact ⟨0, by omega, rfl, H, HB⟩
    case round =>
      obtain ⟨k0, hkm0, rfl, H, HBwr0⟩ := hrel
      rename World => wr0
      cases gk with
      | zero =>
        obtain rfl : k0 = list.length := by omega
        have hc0 : decide (((list.length : Nat) : Int) < ((list.length : Nat) : Int)) = false := by simp
        replace H := cnt_zero H
        unfold e0 at H
        obtain rfl := ret_hid H
        go_wp2_with fail
        go_ret
        exact ⟨rfl, HBwr0.out⟩
      | succ m0 =>
        have hlt0 : k0 < list.length := by omega
        have hc0 : decide ((k0 : Int) < ((list.length : Nat) : Int)) = true := by simp; omega
        replace H := cnt_succ H
        unfold l0 at H
        replace H := idx_hid H
        obtain ⟨nt_11, yt_11, et_11, lt_11, gt_11, H⟩ := H
        obtain rfl : k0 = nt_11 := by omega
        clear et_11
        obtain ⟨t_11_id, t_11_wide, t_11_high, t_11_line⟩ := yt_11
        replace H := unComb_hid H
        obtain ⟨ab_t_11, ao_t_11, zt_11, At_11, z_t_11, ct_11_0, ct_11_1, ct_11_2, ct_11_3⟩ := Go.Proofs.YtdgbigkcophjoaaDoor.OComb.at_ M0.out lt_11
        obtain rfl := Option.some.inj (gt_11.out.symm.trans z_t_11)
        subst At_11
        have ltt_11 := cell_lt ct_11_0
        replace ct_11_0 := cell_below HBwr0.out ct_11_0
        replace ct_11_1 := cell_below HBwr0.out ct_11_1
        replace ct_11_2 := cell_below HBwr0.out ct_11_2
        replace ct_11_3 := cell_below HBwr0.out ct_11_3
        clear z_t_11
        have b0t_11 : (0 : Int) ≤ (k0 : Int) := by omega
        have b1t_11 : (k0 : Int) < ((list.length : Nat) : Int) := by omega
        have b2t_11 : ((k0 : Int)).toNat = k0 := by omega
        obtain ⟨w_e_13, hw_e_13⟩ : ∃ x, wr0.alloc (.cells #[.int .i64 t_11_id, .int .i64 t_11_wide, .int .i64 t_11_high, .bool t_11_line] 32) = x := ⟨_, rfl⟩
        have bw_e_13 : Below wr0.heap.size wr0 w_e_13 := by rw [← hw_e_13]; exact (Below.refl _ _).alloc (Nat.le_refl _) _
        have HBw_e_13 := Lib.hid (Below.step HBwr0.out bw_e_13)
        have ct_11_0__177 := cell_below bw_e_13 ct_11_0
        have ct_11_1__178 := cell_below bw_e_13 ct_11_1
        have ct_11_2__179 := cell_below bw_e_13 ct_11_2
        have ct_11_3__180 := cell_below bw_e_13 ct_11_3
        clear bw_e_13
        have ke_13_0 : w_e_13.cell? ⟨wr0.heap.size, 0, none⟩ = some (.int .i64 t_11_id) := by rw [← hw_e_13]; exact box_new _ _ _ 0 _ rfl
        have ke_13_1 : w_e_13.cell? ⟨wr0.heap.size, 1, none⟩ = some (.int .i64 t_11_wide) := by rw [← hw_e_13]; exact box_new _ _ _ 1 _ rfl
        have ke_13_2 : w_e_13.cell? ⟨wr0.heap.size, 2, none⟩ = some (.int .i64 t_11_high) := by rw [← hw_e_13]; exact box_new _ _ _ 2 _ rfl
        have ke_13_3 : w_e_13.cell? ⟨wr0.heap.size, 3, none⟩ = some (.bool t_11_line) := by rw [← hw_e_13]; exact box_new _ _ _ 3 _ rfl
        go_wp2_with fail
        clear ct_11_0 ct_11_1 ct_11_2 ct_11_3
        have Hct_11_0__177 := Lib.hid ct_11_0__177
        replace ct_11_0__177 := cell_regrown ct_11_0__177
        have Hct_11_1__178 := Lib.hid ct_11_1__178
        replace ct_11_1__178 := cell_regrown ct_11_1__178
        have Hct_11_2__179 := Lib.hid ct_11_2__179
        replace ct_11_2__179 := cell_regrown ct_11_2__179
        have Hct_11_3__180 := Lib.hid ct_11_3__180
        replace ct_11_3__180 := cell_regrown ct_11_3__180
        have Hke_13_0 := Lib.hid ke_13_0
        replace ke_13_0 := cell_regrown ke_13_0
        have Hke_13_1 := Lib.hid ke_13_1
        replace ke_13_1 := cell_regrown ke_13_1
        have Hke_13_2 := Lib.hid ke_13_2
        replace ke_13_2 := cell_regrown ke_13_2
        have Hke_13_3 := Lib.hid ke_13_3
        replace ke_13_3 := cell_regrown ke_13_3
        replace H := bind_hid H
        obtain ⟨t_18, qt_18, H⟩ := H
        have nt_18 : ∀ d os, Calls Tryd.prog 46 #[.agg #[.int .i64 t_11_id, .int .i64 t_11_wide, .int .i64 t_11_high, .bool t_11_line]] (Go.Sort.grow (redrawn w_e_13 d) os) fun e w'' => e = .returned (.bool t_18) ∧ ∃ p : Regrown, w'' = Go.Sort.grow (redrawn w_e_13 p.d) p.os := fun d os => Calls.regrown_of (Go.Proofs.YtdgbigkcophjoaaDoor.GiIsComb.C ((Go.Proofs.YtdgbigkcophjoaaDoor.PComb.Comb.mk t_11_id t_11_wide t_11_high t_11_line))  _    qt_18)
        cases t_18 with
        | false =>
          replace H := let_hid H
          obtain ⟨t_19, ht_19, H⟩ := H
          obtain rfl : t_19 = true := ht_19.symm
          replace H := join_hid H
          replace H := ite_t H
          replace H := app_hid H
          refine wp_region_quiet_below (by kernel_rfl) (by kernel_rfl) ?_
          repeat (go_big_quiet_step (first | (go_at_call 46; exact nt_18 _ _)))
          refine wpQuiet_nil ?_
          intro Y6 hY6
          replace hY6 := below_class hY6
          clear nt_18
          replace ct_11_0__177 := Hct_11_0__177.out
          clear Hct_11_0__177
          replace ct_11_1__178 := Hct_11_1__178.out
          clear Hct_11_1__178
          replace ct_11_2__179 := Hct_11_2__179.out
          clear Hct_11_2__179
          replace ct_11_3__180 := Hct_11_3__180.out
          clear Hct_11_3__180
          replace ke_13_0 := Hke_13_0.out
          clear Hke_13_0
          replace ke_13_1 := Hke_13_1.out
          clear Hke_13_1
          replace ke_13_2 := Hke_13_2.out
          clear Hke_13_2
          replace ke_13_3 := Hke_13_3.out
          clear Hke_13_3
          have HBY6 := Lib.hid (Below.step HBw_e_13.out hY6)
          replace ct_11_0__177 := cell_below hY6 ct_11_0__177
          replace ct_11_1__178 := cell_below hY6 ct_11_1__178
          replace ct_11_2__179 := cell_below hY6 ct_11_2__179
          replace ct_11_3__180 := cell_below hY6 ct_11_3__180
          replace ke_13_0 := cell_below hY6 ke_13_0
          replace ke_13_1 := cell_below hY6 ke_13_1
          replace ke_13_2 := cell_below hY6 ke_13_2
          replace ke_13_3 := cell_below hY6 ke_13_3
          clear hY6
          replace H := ite_t H
          obtain rfl := ret_hid H
          go_wp2_with fail
          go_ret
          exact ⟨rfl, HBY6.out⟩
        | true =>
          replace H := let_hid H
          obtain ⟨t_19, ht_19, H⟩ := H
          obtain rfl : t_19 = false := ht_19.symm
          replace H := join_hid H
          replace H := ite_f H
          replace H := let_hid H
          obtain ⟨t_22, ht_22, H⟩ := H
          replace H := join_hid H
          cases t_22 with
          | false =>
            have nht_22 : ¬ (0 < k0) := by have := of_decide_eq_false ht_22; omega
            replace H := ite_f H
            replace H := app_hid H
            replace H := app_hid H
            refine wp_region_quiet_below (by kernel_rfl) (by kernel_rfl) ?_
            repeat (go_big_quiet_step (first | (go_at_call 46; exact nt_18 _ _)))
            refine wpQuiet_nil ?_
            intro Y6 hY6
            replace hY6 := below_class hY6
            clear nt_18
            replace ct_11_0__177 := Hct_11_0__177.out
            clear Hct_11_0__177
            replace ct_11_1__178 := Hct_11_1__178.out
            clear Hct_11_1__178
            replace ct_11_2__179 := Hct_11_2__179.out
            clear Hct_11_2__179
            replace ct_11_3__180 := Hct_11_3__180.out
            clear Hct_11_3__180
            replace ke_13_0 := Hke_13_0.out
            clear Hke_13_0
            replace ke_13_1 := Hke_13_1.out
            clear Hke_13_1
            replace ke_13_2 := Hke_13_2.out
            clear Hke_13_2
            replace ke_13_3 := Hke_13_3.out
            clear Hke_13_3
            have HBY6 := Lib.hid (Below.step HBw_e_13.out hY6)
            replace ct_11_0__177 := cell_below hY6 ct_11_0__177
            replace ct_11_1__178 := cell_below hY6 ct_11_1__178
            replace ct_11_2__179 := cell_below hY6 ct_11_2__179
            replace ct_11_3__180 := cell_below hY6 ct_11_3__180
            replace ke_13_0 := cell_below hY6 ke_13_0
            replace ke_13_1 := cell_below hY6 ke_13_1
            replace ke_13_2 := cell_below hY6 ke_13_2
            replace ke_13_3 := cell_below hY6 ke_13_3
            clear hY6
            replace H := ite_f H
            replace H := app_hid H
            go_wp2_with fail
            go_roundg m0
            case measure => omega
            case rel => exact ⟨k0 + 1, by omega, by go_num, H, HBY6⟩
          | true =>
            have nht_22 : 0 < k0 := by have := of_decide_eq_true ht_22; omega
            replace H := ite_t H
            replace H := bind_hid H
            obtain ⟨t_26, qt_26, H⟩ := H
            have nt_26 : ∀ d os, Calls Tryd.prog 30 #[.agg #[.int .i64 t_11_id, .int .i64 t_11_wide, .int .i64 t_11_high, .bool t_11_line]] (Go.Sort.grow (redrawn w_e_13 d) os) fun e w'' => e = .returned (.int .i64 t_26) ∧ ∃ p : Regrown, w'' = Go.Sort.grow (redrawn w_e_13 p.d) p.os := fun d os => Calls.regrown_of (Go.Proofs.YtdgbigkcophjoaaDoor.GiIdOfComb.C ((Go.Proofs.YtdgbigkcophjoaaDoor.PComb.Comb.mk t_11_id t_11_wide t_11_high t_11_line))  _    qt_26)
            replace H := let_hid H
            obtain ⟨t_30, ht_30, H⟩ := H
            replace H := idx_hid H
            obtain ⟨nt_31, yt_31, et_31, lt_31, gt_31, H⟩ := H
            subst et_31
            obtain ⟨t_31_id, t_31_wide, t_31_high, t_31_line⟩ := yt_31
            replace H := unComb_hid H
            obtain ⟨ab_t_31, ao_t_31, zt_31, At_31, z_t_31, ct_31_0, ct_31_1, ct_31_2, ct_31_3⟩ := Go.Proofs.YtdgbigkcophjoaaDoor.OComb.at_ M0.out lt_31
            obtain rfl := Option.some.inj (gt_31.out.symm.trans z_t_31)
            simp only [Option.some.injEq, Addr.mk.injEq] at At_31
            obtain ⟨rfl, rfl, _⟩ := At_31
            have ltt_31 := cell_lt ct_31_0
            replace ct_31_0 := cell_below HBw_e_13.out ct_31_0
            replace ct_31_1 := cell_below HBw_e_13.out ct_31_1
            replace ct_31_2 := cell_below HBw_e_13.out ct_31_2
            replace ct_31_3 := cell_below HBw_e_13.out ct_31_3
            clear z_t_31
            have b0t_31 : (0 : Int) ≤ (nt_31 : Int) := by omega
            have b1t_31 : (nt_31 : Int) < ((list.length : Nat) : Int) := by omega
            have b2t_31 : ((nt_31 : Int)).toNat = nt_31 := by omega
            have Hct_31_0 := Lib.hid ct_31_0
            replace ct_31_0 := cell_regrown ct_31_0
            have Hct_31_1 := Lib.hid ct_31_1
            replace ct_31_1 := cell_regrown ct_31_1
            have Hct_31_2 := Lib.hid ct_31_2
            replace ct_31_2 := cell_regrown ct_31_2
            have Hct_31_3 := Lib.hid ct_31_3
            replace ct_31_3 := cell_regrown ct_31_3
            replace H := bind_hid H
            obtain ⟨t_33, qt_33, H⟩ := H
            have nt_33 : ∀ d os, Calls Tryd.prog 30 #[.agg #[.int .i64 t_31_id, .int .i64 t_31_wide, .int .i64 t_31_high, .bool t_31_line]] (Go.Sort.grow (redrawn w_e_13 d) os) fun e w'' => e = .returned (.int .i64 t_33) ∧ ∃ p : Regrown, w'' = Go.Sort.grow (redrawn w_e_13 p.d) p.os := fun d os => Calls.regrown_of (Go.Proofs.YtdgbigkcophjoaaDoor.GiIdOfComb.C ((Go.Proofs.YtdgbigkcophjoaaDoor.PComb.Comb.mk t_31_id t_31_wide t_31_high t_31_line))  _    qt_33)
            replace H := let_hid H
            obtain ⟨t_34, ht_34, H⟩ := H
            replace H := app_hid H
            replace H := app_hid H
            refine wp_region_quiet_below (by kernel_rfl) (by kernel_rfl) ?_
            repeat (go_big_quiet_step (first | (go_at_call 30; with_reducible exact nt_26 _ _) | (go_at_call 30; with_reducible exact nt_33 _ _) | (go_at_call 46; exact nt_18 _ _) | (go_at_call 30; exact nt_26 _ _) | (go_at_call 30; exact nt_33 _ _)))
            refine wpQuiet_nil ?_
            intro Y6 hY6
            replace hY6 := below_class hY6
            clear nt_18 nt_26 nt_33
            replace ct_11_0__177 := Hct_11_0__177.out
            clear Hct_11_0__177
            replace ct_11_1__178 := Hct_11_1__178.out
            clear Hct_11_1__178
            replace ct_11_2__179 := Hct_11_2__179.out
            clear Hct_11_2__179
            replace ct_11_3__180 := Hct_11_3__180.out
            clear Hct_11_3__180
            replace ke_13_0 := Hke_13_0.out
            clear Hke_13_0
            replace ke_13_1 := Hke_13_1.out
            clear Hke_13_1
            replace ke_13_2 := Hke_13_2.out
            clear Hke_13_2
            replace ke_13_3 := Hke_13_3.out
            clear Hke_13_3
            replace ct_31_0 := Hct_31_0.out
            clear Hct_31_0
            replace ct_31_1 := Hct_31_1.out
            clear Hct_31_1
            replace ct_31_2 := Hct_31_2.out
            clear Hct_31_2
            replace ct_31_3 := Hct_31_3.out
            clear Hct_31_3
            have HBY6 := Lib.hid (Below.step HBw_e_13.out hY6)
            replace ct_11_0__177 := cell_below hY6 ct_11_0__177
            replace ct_11_1__178 := cell_below hY6 ct_11_1__178
            replace ct_11_2__179 := cell_below hY6 ct_11_2__179
            replace ct_11_3__180 := cell_below hY6 ct_11_3__180
            replace ke_13_0 := cell_below hY6 ke_13_0
            replace ke_13_1 := cell_below hY6 ke_13_1
            replace ke_13_2 := cell_below hY6 ke_13_2
            replace ke_13_3 := cell_below hY6 ke_13_3
            replace ct_31_0 := cell_below hY6 ct_31_0
            replace ct_31_1 := cell_below hY6 ct_31_1
            replace ct_31_2 := cell_below hY6 ct_31_2
            replace ct_31_3 := cell_below hY6 ct_31_3
            clear hY6
            cases t_34 with
            | false =>
              replace H := ite_f H
              replace H := app_hid H
              go_wp2_with fail
              go_roundg m0
              case measure => omega
              case rel => exact ⟨k0 + 1, by omega, by go_num, H, HBY6⟩
            | true =>
              replace H := ite_t H
              obtain rfl := ret_hid H
              go_wp2_with fail
              go_ret
              exact ⟨rfl, HBY6.out⟩
  | true =>
    replace H := ite_t H
    obtain rfl := ret_hid H
    go_wp2_with fail
    go_ret
    exact ⟨rfl, HB.out⟩
end Go.Proofs.YtdgbigkcophjoaaDoor.GiAreByKeyCombIntiIsCombiIdOfComb

/- loop.example/g01062/impl.AreCombs as a plain function, and the contract of the program's: where the plain one has an answer, the program has it. Conditions: slices read as lists. -/
namespace Go.Proofs.YtdgbigkcophjoaaDoor.GiAreCombs
set_option linter.unusedVariables false
set_option linter.unusedSimpArgs false
open Go.RowKit
open Go.Proofs.YtdgbigkcophjoaaDoor.Rowed Go.Proofs.YtdgbigkcophjoaaDoor.Turn Go.Proofs.YtdgbigkcophjoaaDoor.Aid Go.Proofs.YtdgbigkcophjoaaDoor.GoP Go.Proofs.YtdgbigkcophjoaaDoor.GoM

def P (list : (List Go.Proofs.YtdgbigkcophjoaaDoor.PComb.Comb)) : Option (Bool) :=
  Option.bind (Go.Proofs.YtdgbigkcophjoaaDoor.GiAreByKeyCombIntiIsCombiIdOfComb.P list 10) fun (t_2 : Bool) =>
  some t_2

set_option maxRecDepth 100000 in
set_option maxHeartbeats 2000000 in
theorem C (list : (List Go.Proofs.YtdgbigkcophjoaaDoor.PComb.Comb)) (A0 : Option Addr) (c0 : Nat)  (w : World) (M0 : Hid (Cells w 4 A0 list.length (Go.Proofs.YtdgbigkcophjoaaDoor.PComb.flat list))) (N0 : Hid (list.length ≤ 9223372036854775807))  {r : Bool} (H : Hid (P list = some r)) :
    Calls Tryd.prog 21 #[.slice A0 list.length c0] w (Gives (.bool r) w) := by
  have HB := Lib.hid (Below.refl w.heap.size w)
  unfold P at H
  have N0o := N0.out
  go_enter Tryd.func21, Tryd.ntmps21
  replace H := bind_hid H
  obtain ⟨t_2, qt_2, H⟩ := H
  go_wp2_with fail
  go_at_call 50
  refine (Go.Proofs.YtdgbigkcophjoaaDoor.GiAreByKeyCombIntiIsCombiIdOfComb.C (list) (10) A0 c0 _   (Lib.hid (Cells.below M0.out HB.out)) N0 qt_2).mono ?_
  rintro e_t_2 wt_2 ⟨rfl, bt_2⟩
  have HBwt_2 := Lib.hid (Below.step HB.out bt_2)
  clear bt_2
  obtain rfl := ret_hid H
  go_wp2_with fail
  go_ret
  exact ⟨rfl, HBwt_2.out⟩
end Go.Proofs.YtdgbigkcophjoaaDoor.GiAreCombs

/- loop.example/g01062/impl.isMeasured as a plain function, and the contract of the program's: where the plain one has an answer, the program has it. Conditions: slices read as lists. -/
namespace Go.Proofs.YtdgbigkcophjoaaDoor.GiIsMeasured
set_option linter.unusedVariables false
set_option linter.unusedSimpArgs false
open Go.RowKit
open Go.Proofs.YtdgbigkcophjoaaDoor.Rowed Go.Proofs.YtdgbigkcophjoaaDoor.Turn Go.Proofs.YtdgbigkcophjoaaDoor.Aid Go.Proofs.YtdgbigkcophjoaaDoor.GoP Go.Proofs.YtdgbigkcophjoaaDoor.GoM

def P (gauge : Int) : Option (Bool) :=
  letK (gauge == 0) fun (t_2 : Bool) =>
  joinK (fun (t_6 : Bool) =>
  some t_6) fun jt_6 => iteK t_2 (appK jt_6 true) (Option.bind (Go.Proofs.YtdgbigkcophjoaaDoor.GiIsGauge.P gauge) fun (t_5 : Bool) =>
  appK jt_6 t_5)

set_option maxRecDepth 100000 in
set_option maxHeartbeats 2000000 in
theorem C (gauge : Int)   (w : World)   {r : Bool} (H : Hid (P gauge = some r)) :
    Calls Tryd.prog 53 #[.int .i64 gauge] w (Gives (.bool r) w) := by
  have HB := Lib.hid (Below.refl w.heap.size w)
  unfold P at H
  go_enter Tryd.func53, Tryd.ntmps53
  replace H := let_hid H
  obtain ⟨t_2, ht_2, H⟩ := H
  replace H := join_hid H
  cases t_2 with
  | false =>
    replace H := ite_f H
    replace H := bind_hid H
    obtain ⟨t_5, qt_5, H⟩ := H
    go_wp2_with fail
    go_at_call 39
    refine (Go.Proofs.YtdgbigkcophjoaaDoor.GiIsGauge.C (gauge)  _    qt_5).mono ?_
    rintro e_t_5 wt_5 ⟨rfl, bt_5⟩
    have HBwt_5 := Lib.hid (Below.step HB.out bt_5)
    clear bt_5
    replace H := app_hid H
    obtain rfl := ret_hid H
    go_wp2_with fail
    go_ret
    exact ⟨rfl, HBwt_5.out⟩
  | true =>
    replace H := ite_t H
    replace H := app_hid H
    obtain rfl := ret_hid H
    go_wp2_with fail
    go_ret
    exact ⟨rfl, HB.out⟩
end Go.Proofs.YtdgbigkcophjoaaDoor.GiIsMeasured

/- loop.example/g01062/impl.canMatch as a plain function, and the contract of the program's: where the plain one has an answer, the program has it. Conditions: slices read as lists. -/
namespace Go.Proofs.YtdgbigkcophjoaaDoor.GiCanMatch
set_option linter.unusedVariables false
set_option linter.unusedSimpArgs false
open Go.RowKit
open Go.Proofs.YtdgbigkcophjoaaDoor.Rowed Go.Proofs.YtdgbigkcophjoaaDoor.Turn Go.Proofs.YtdgbigkcophjoaaDoor.Aid Go.Proofs.YtdgbigkcophjoaaDoor.GoP Go.Proofs.YtdgbigkcophjoaaDoor.GoM

def P (list : (List Go.Proofs.YtdgbigkcophjoaaDoor.PComb.Comb)) (wide : Int) (high : Int) (off : Int) : Option (Bool) :=
  Option.bind (Go.Proofs.YtdgbigkcophjoaaDoor.GiAreCombs.P list) fun (t_2 : Bool) =>
  joinK (fun (t_6 : Bool) =>
  joinK (fun (t_10 : Bool) =>
  joinK (fun (t_14 : Bool) =>
  some t_14) fun jt_14 => iteK t_10 (Option.bind (Go.Proofs.YtdgbigkcophjoaaDoor.GiWithin.P off 0 100) fun (t_13 : Bool) =>
  appK jt_14 t_13) (appK jt_14 false)) fun jt_10 => iteK t_6 (Option.bind (Go.Proofs.YtdgbigkcophjoaaDoor.GiIsMeasured.P high) fun (t_9 : Bool) =>
  appK jt_10 t_9) (appK jt_10 false)) fun jt_6 => iteK t_2 (Option.bind (Go.Proofs.YtdgbigkcophjoaaDoor.GiIsMeasured.P wide) fun (t_5 : Bool) =>
  appK jt_6 t_5) (appK jt_6 false)

set_option maxRecDepth 100000 in
set_option maxHeartbeats 2000000 in
theorem C (list : (List Go.Proofs.YtdgbigkcophjoaaDoor.PComb.Comb)) (wide : Int) (high : Int) (off : Int) (A0 : Option Addr) (c0 : Nat)  (w : World) (M0 : Hid (Cells w 4 A0 list.length (Go.Proofs.YtdgbigkcophjoaaDoor.PComb.flat list))) (N0 : Hid (list.length ≤ 9223372036854775807))  {r : Bool} (H : Hid (P list wide high off = some r)) :
    Calls Tryd.prog 28 #[.slice A0 list.length c0, .int .i64 wide, .int .i64 high, .int .i64 off] w (Gives (.bool r) w) := by
  have HB := Lib.hid (Below.refl w.heap.size w)
  unfold P at H
  have N0o := N0.out
  go_enter Tryd.func28, Tryd.ntmps28
  replace H := bind_hid H
  obtain ⟨t_2, qt_2, H⟩ := H
  go_wp2_with fail
  go_at_call 21
  refine (Go.Proofs.YtdgbigkcophjoaaDoor.GiAreCombs.C (list) A0 c0 _   (Lib.hid (Cells.below M0.out HB.out)) N0 qt_2).mono ?_
  rintro e_t_2 wt_2 ⟨rfl, bt_2⟩
  have HBwt_2 := Lib.hid (Below.step HB.out bt_2)
  clear bt_2
  replace H := join_hid H
  cases t_2 with
  | false =>
    replace H := ite_f H
    replace H := app_hid H
    replace H := join_hid H
    replace H := ite_f H
    replace H := app_hid H
    replace H := join_hid H
    replace H := ite_f H
    replace H := app_hid H
    obtain rfl := ret_hid H
    go_wp2_with fail
    go_ret
    exact ⟨rfl, HBwt_2.out⟩
  | true =>
    replace H := ite_t H
    replace H := bind_hid H
    obtain ⟨t_5, qt_5, H⟩ := H
    go_wp2_with fail
    go_at_call 53
    refine (Go.Proofs.YtdgbigkcophjoaaDoor.GiIsMeasured.C (wide)  _    qt_5).mono ?_
    rintro e_t_5 wt_5 ⟨rfl, bt_5⟩
    have HBwt_5 := Lib.hid (Below.step HBwt_2.out bt_5)
    clear bt_5
    replace H := app_hid H
    replace H := join_hid H
    cases t_5 with
    | false =>
      replace H := ite_f H
      replace H := app_hid H
      replace H := join_hid H
      replace H := ite_f H
      replace H := app_hid H
      obtain rfl := ret_hid H
      go_wp2_with fail
      go_ret
      exact ⟨rfl, HBwt_5.out⟩
    | true =>
      replace H := ite_t H
      replace H := bind_hid H
      obtain ⟨t_9, qt_9, H⟩ := H
      go_wp2_with fail
      go_at_call 53
      refine (Go.Proofs.YtdgbigkcophjoaaDoor.GiIsMeasured.C (high)  _    qt_9).mono ?_
      rintro e_t_9 wt_9 ⟨rfl, bt_9⟩
      have HBwt_9 := Lib.hid (Below.step HBwt_5.out bt_9)
      clear bt_9
      replace H := app_hid H
      replace H := join_hid H
      cases t_9 with
      | false =>
        replace H := ite_f H
        replace H := app_hid H
        obtain rfl := ret_hid H
        go_wp2_with fail
        go_ret
        exact ⟨rfl, HBwt_9.out⟩
      | true =>
        replace H := ite_t H
        replace H := bind_hid H
        obtain ⟨t_13, qt_13, H⟩ := H
        go_wp2_with fail
        go_at_call 54
        refine (Go.Proofs.YtdgbigkcophjoaaDoor.GiWithin.C (off) (0) (100)  _    qt_13).mono ?_
        rintro e_t_13 wt_13 ⟨rfl, bt_13⟩
        have HBwt_13 := Lib.hid (Below.step HBwt_9.out bt_13)
        clear bt_13
        replace H := app_hid H
        obtain rfl := ret_hid H
        go_wp2_with fail
        go_ret
        exact ⟨rfl, HBwt_13.out⟩
end Go.Proofs.YtdgbigkcophjoaaDoor.GiCanMatch

/- loop.example/g01062/impl.isNear as a plain function, and the contract of the program's: where the plain one has an answer, the program has it. Conditions: slices read as lists. -/
namespace Go.Proofs.YtdgbigkcophjoaaDoor.GiIsNear
set_option linter.unusedVariables false
set_option linter.unusedSimpArgs false
open Go.RowKit
open Go.Proofs.YtdgbigkcophjoaaDoor.Rowed Go.Proofs.YtdgbigkcophjoaaDoor.Turn Go.Proofs.YtdgbigkcophjoaaDoor.Aid Go.Proofs.YtdgbigkcophjoaaDoor.GoP Go.Proofs.YtdgbigkcophjoaaDoor.GoM

def P (gauge : Int) (measured : Int) (off : Int) : Option (Bool) :=
  letK (measured == 0) fun (t_2 : Bool) =>
  joinK (fun (t_12 : Bool) =>
  some t_12) fun jt_12 => iteK t_2 (appK jt_12 true) (letK (IntKind.i64.wrap (measured - off)) fun (t_7 : Int) =>
  letK (IntKind.i64.wrap (measured + off)) fun (t_10 : Int) =>
  Option.bind (Go.Proofs.YtdgbigkcophjoaaDoor.GiWithin.P gauge t_7 t_10) fun (t_11 : Bool) =>
  appK jt_12 t_11)

set_option maxRecDepth 100000 in
set_option maxHeartbeats 2000000 in
theorem C (gauge : Int) (measured : Int) (off : Int)   (w : World)   {r : Bool} (H : Hid (P gauge measured off = some r)) :
    Calls Tryd.prog 55 #[.int .i64 gauge, .int .i64 measured, .int .i64 off] w (Gives (.bool r) w) := by
  have HB := Lib.hid (Below.refl w.heap.size w)
  unfold P at H
  go_enter Tryd.func55, Tryd.ntmps55
  replace H := let_hid H
  obtain ⟨t_2, ht_2, H⟩ := H
  replace H := join_hid H
  cases t_2 with
  | false =>
    replace H := ite_f H
    replace H := let_hid H
    obtain ⟨t_7, ht_7, H⟩ := H
    replace H := let_hid H
    obtain ⟨t_10, ht_10, H⟩ := H
    replace H := bind_hid H
    obtain ⟨t_11, qt_11, H⟩ := H
    go_wp2_with fail
    go_at_call 54
    refine (Go.Proofs.YtdgbigkcophjoaaDoor.GiWithin.C (gauge) (t_7) (t_10)  _    qt_11).mono ?_
    rintro e_t_11 wt_11 ⟨rfl, bt_11⟩
    have HBwt_11 := Lib.hid (Below.step HB.out bt_11)
    clear bt_11
    replace H := app_hid H
    obtain rfl := ret_hid H
    go_wp2_with fail
    go_ret
    exact ⟨rfl, HBwt_11.out⟩
  | true =>
    replace H := ite_t H
    replace H := app_hid H
    obtain rfl := ret_hid H
    go_wp2_with fail
    go_ret
    exact ⟨rfl, HB.out⟩
end Go.Proofs.YtdgbigkcophjoaaDoor.GiIsNear

/- loop.example/g01062/impl.matches as a plain function, and the contract of the program's: where the plain one has an answer, the program has it. Conditions: slices read as lists. -/
namespace Go.Proofs.YtdgbigkcophjoaaDoor.GiMatches
set_option linter.unusedVariables false
set_option linter.unusedSimpArgs false
open Go.RowKit
open Go.Proofs.YtdgbigkcophjoaaDoor.Rowed Go.Proofs.YtdgbigkcophjoaaDoor.Turn Go.Proofs.YtdgbigkcophjoaaDoor.Aid Go.Proofs.YtdgbigkcophjoaaDoor.GoP Go.Proofs.YtdgbigkcophjoaaDoor.GoM

def P (x : Go.Proofs.YtdgbigkcophjoaaDoor.PComb.Comb) (wide : Int) (high : Int) (off : Int) : Option (Bool) :=
  unComb x fun (x_id : Int) (x_wide : Int) (x_high : Int) (x_line : Bool) =>
  Option.bind (Go.Proofs.YtdgbigkcophjoaaDoor.GiIsNear.P x_wide wide off) fun (t_6 : Bool) =>
  joinK (fun (t_13 : Bool) =>
  some t_13) fun jt_13 => iteK t_6 (Option.bind (Go.Proofs.YtdgbigkcophjoaaDoor.GiIsNear.P x_high high off) fun (t_12 : Bool) =>
  appK jt_13 t_12) (appK jt_13 false)

set_option maxRecDepth 100000 in
set_option maxHeartbeats 2000000 in
theorem C (x : Go.Proofs.YtdgbigkcophjoaaDoor.PComb.Comb) (wide : Int) (high : Int) (off : Int)   (w : World)   {r : Bool} (H : Hid (P x wide high off = some r)) :
    Calls Tryd.prog 32 #[x.val, .int .i64 wide, .int .i64 high, .int .i64 off] w (Gives (.bool r) w) := by
  have HB := Lib.hid (Below.refl w.heap.size w)
  unfold P at H
  obtain ⟨x_id, x_wide, x_high, x_line⟩ := x
  replace H := unComb_hid H
  unfold Go.Proofs.YtdgbigkcophjoaaDoor.PComb.Comb.val
  go_enter Tryd.func32, Tryd.ntmps32
  obtain ⟨w_x_0, hw_x_0⟩ : ∃ x, w.alloc (.cells #[.int .i64 x_id, .int .i64 x_wide, .int .i64 x_high, .bool x_line] 32) = x := ⟨_, rfl⟩
  have bw_x_0 : Below w.heap.size w w_x_0 := by rw [← hw_x_0]; exact (Below.refl _ _).alloc (Nat.le_refl _) _
  have HBw_x_0 := Lib.hid (Below.step HB.out bw_x_0)
  clear bw_x_0
  have kx_0_0 : w_x_0.cell? ⟨w.heap.size, 0, none⟩ = some (.int .i64 x_id) := by rw [← hw_x_0]; exact box_new _ _ _ 0 _ rfl
  have kx_0_1 : w_x_0.cell? ⟨w.heap.size, 1, none⟩ = some (.int .i64 x_wide) := by rw [← hw_x_0]; exact box_new _ _ _ 1 _ rfl
  have kx_0_2 : w_x_0.cell? ⟨w.heap.size, 2, none⟩ = some (.int .i64 x_high) := by rw [← hw_x_0]; exact box_new _ _ _ 2 _ rfl
  have kx_0_3 : w_x_0.cell? ⟨w.heap.size, 3, none⟩ = some (.bool x_line) := by rw [← hw_x_0]; exact box_new _ _ _ 3 _ rfl
  replace H := bind_hid H
  obtain ⟨t_6, qt_6, H⟩ := H
  go_wp2_with fail
  go_at_call 55
  refine (Go.Proofs.YtdgbigkcophjoaaDoor.GiIsNear.C (x_wide) (wide) (off)  _    qt_6).mono ?_
  rintro e_t_6 wt_6 ⟨rfl, bt_6⟩
  have HBwt_6 := Lib.hid (Below.step HBw_x_0.out bt_6)
  replace kx_0_0 := cell_below bt_6 kx_0_0
  replace kx_0_1 := cell_below bt_6 kx_0_1
  replace kx_0_2 := cell_below bt_6 kx_0_2
  replace kx_0_3 := cell_below bt_6 kx_0_3
  clear bt_6
  replace H := join_hid H
  cases t_6 with
  | false =>
    replace H := ite_f H
    replace H := app_hid H
    obtain rfl := ret_hid H
    go_wp2_with fail
    go_ret
    exact ⟨rfl, HBwt_6.out⟩
  | true =>
    replace H := ite_t H
    replace H := bind_hid H
    obtain ⟨t_12, qt_12, H⟩ := H
    go_wp2_with fail
    go_at_call 55
    refine (Go.Proofs.YtdgbigkcophjoaaDoor.GiIsNear.C (x_high) (high) (off)  _    qt_12).mono ?_
    rintro e_t_12 wt_12 ⟨rfl, bt_12⟩
    have HBwt_12 := Lib.hid (Below.step HBwt_6.out bt_12)
    replace kx_0_0 := cell_below bt_12 kx_0_0
    replace kx_0_1 := cell_below bt_12 kx_0_1
    replace kx_0_2 := cell_below bt_12 kx_0_2
    replace kx_0_3 := cell_below bt_12 kx_0_3
    clear bt_12
    replace H := app_hid H
    obtain rfl := ret_hid H
    go_wp2_with fail
    go_ret
    exact ⟨rfl, HBwt_12.out⟩
end Go.Proofs.YtdgbigkcophjoaaDoor.GiMatches

/- loop.example/g01062/impl.MatchCombs$1 as a plain function, and the contract of the program's: where the plain one has an answer, the program has it. Conditions: slices read as lists. -/
namespace Go.Proofs.YtdgbigkcophjoaaDoor.GiMatchCombs1
set_option linter.unusedVariables false
set_option linter.unusedSimpArgs false
open Go.RowKit
open Go.Proofs.YtdgbigkcophjoaaDoor.Rowed Go.Proofs.YtdgbigkcophjoaaDoor.Turn Go.Proofs.YtdgbigkcophjoaaDoor.Aid Go.Proofs.YtdgbigkcophjoaaDoor.GoP Go.Proofs.YtdgbigkcophjoaaDoor.GoM

def P (x : Go.Proofs.YtdgbigkcophjoaaDoor.PComb.Comb) (hq0 : Int) (hq1 : Int) (hq2 : Int) : Option (Bool) :=
  unComb x fun (x_id : Int) (x_wide : Int) (x_high : Int) (x_line : Bool) =>
  Option.bind (Go.Proofs.YtdgbigkcophjoaaDoor.GiMatches.P (Go.Proofs.YtdgbigkcophjoaaDoor.PComb.Comb.mk x_id x_wide x_high x_line) hq0 hq1 hq2) fun (t_6 : Bool) =>
  some t_6

set_option maxRecDepth 100000 in
set_option maxHeartbeats 2000000 in
theorem C (x : Go.Proofs.YtdgbigkcophjoaaDoor.PComb.Comb) (hq0 : Int) (hq1 : Int) (hq2 : Int)  (gq0 : Nat) (gq1 : Nat) (gq2 : Nat) (w : World)  (Fq0h : Hid (w.cell? ⟨gq0, 0, none⟩ = some (.int .i64 hq0))) (Fq1h : Hid (w.cell? ⟨gq1, 0, none⟩ = some (.int .i64 hq1))) (Fq2h : Hid (w.cell? ⟨gq2, 0, none⟩ = some (.int .i64 hq2))) {r : Bool} (H : Hid (P x hq0 hq1 hq2 = some r)) :
    Calls Tryd.prog 31 #[x.val, .pointer (some ⟨gq0, 0, none⟩), .pointer (some ⟨gq1, 0, none⟩), .pointer (some ⟨gq2, 0, none⟩)] w (Gives (.bool r) w) := by
  have HB := Lib.hid (Below.refl w.heap.size w)
  unfold P at H
  obtain ⟨x_id, x_wide, x_high, x_line⟩ := x
  replace H := unComb_hid H
  unfold Go.Proofs.YtdgbigkcophjoaaDoor.PComb.Comb.val
  have Fq0 := Fq0h.out
  have Fq1 := Fq1h.out
  have Fq2 := Fq2h.out
  go_enter Tryd.func31, Tryd.ntmps31
  obtain ⟨w_x_0, hw_x_0⟩ : ∃ x, w.alloc (.cells #[.int .i64 x_id, .int .i64 x_wide, .int .i64 x_high, .bool x_line] 32) = x := ⟨_, rfl⟩
  have bw_x_0 : Below w.heap.size w w_x_0 := by rw [← hw_x_0]; exact (Below.refl _ _).alloc (Nat.le_refl _) _
  have HBw_x_0 := Lib.hid (Below.step HB.out bw_x_0)
  have Fq0__181 := cell_below bw_x_0 Fq0
  have Fq1__182 := cell_below bw_x_0 Fq1
  have Fq2__183 := cell_below bw_x_0 Fq2
  clear bw_x_0
  have kx_0_0 : w_x_0.cell? ⟨w.heap.size, 0, none⟩ = some (.int .i64 x_id) := by rw [← hw_x_0]; exact box_new _ _ _ 0 _ rfl
  have kx_0_1 : w_x_0.cell? ⟨w.heap.size, 1, none⟩ = some (.int .i64 x_wide) := by rw [← hw_x_0]; exact box_new _ _ _ 1 _ rfl
  have kx_0_2 : w_x_0.cell? ⟨w.heap.size, 2, none⟩ = some (.int .i64 x_high) := by rw [← hw_x_0]; exact box_new _ _ _ 2 _ rfl
  have kx_0_3 : w_x_0.cell? ⟨w.heap.size, 3, none⟩ = some (.bool x_line) := by rw [← hw_x_0]; exact box_new _ _ _ 3 _ rfl
  replace H := bind_hid H
  obtain ⟨t_6, qt_6, H⟩ := H
  go_wp2_with fail
  clear Fq0 Fq1 Fq2
  go_at_call 32
  refine (Go.Proofs.YtdgbigkcophjoaaDoor.GiMatches.C ((Go.Proofs.YtdgbigkcophjoaaDoor.PComb.Comb.mk x_id x_wide x_high x_line)) (hq0) (hq1) (hq2)  _    qt_6).mono ?_
  rintro e_t_6 wt_6 ⟨rfl, bt_6⟩
  have HBwt_6 := Lib.hid (Below.step HBw_x_0.out bt_6)
  replace Fq0__181 := cell_below bt_6 Fq0__181
  replace Fq1__182 := cell_below bt_6 Fq1__182
  replace Fq2__183 := cell_below bt_6 Fq2__183
  replace kx_0_0 := cell_below bt_6 kx_0_0
  replace kx_0_1 := cell_below bt_6 kx_0_1
  replace kx_0_2 := cell_below bt_6 kx_0_2
  replace kx_0_3 := cell_below bt_6 kx_0_3
  clear bt_6
  obtain rfl := ret_hid H
  go_wp2_with fail
  go_ret
  exact ⟨rfl, HBwt_6.out⟩
end Go.Proofs.YtdgbigkcophjoaaDoor.GiMatchCombs1

/- loop.example/g01062/impl.keysWhere[loop.example/g01062/impl.Comb,int] as a plain function, and the contract of the program's: where the plain one has an answer, the program has it. Conditions: slices read as lists. -/
namespace Go.Proofs.YtdgbigkcophjoaaDoor.GiKeysWhereCombIntiIdOfCombiMatchCombs1
set_option linter.unusedVariables false
set_option linter.unusedSimpArgs false
open Go.RowKit
open Go.Proofs.YtdgbigkcophjoaaDoor.Rowed Go.Proofs.YtdgbigkcophjoaaDoor.Turn Go.Proofs.YtdgbigkcophjoaaDoor.Aid Go.Proofs.YtdgbigkcophjoaaDoor.GoP Go.Proofs.YtdgbigkcophjoaaDoor.GoM

def l0 (list : (List Go.Proofs.YtdgbigkcophjoaaDoor.PComb.Comb)) (hf2_0 : Int) (hf2_1 : Int) (hf2_2 : Int) (k0 : Nat) (s : (List Int)) (nx0 bk0 : (List Int) → Option ((List Int))) : Option ((List Int)) :=
  letK s fun keys_7l0 =>
  Option.bind (idx list (k0 : Int)) fun (yt_7 : Go.Proofs.YtdgbigkcophjoaaDoor.PComb.Comb) =>
  unComb yt_7 fun (t_7_id : Int) (t_7_wide : Int) (t_7_high : Int) (t_7_line : Bool) =>
  Option.bind (Go.Proofs.YtdgbigkcophjoaaDoor.GiMatchCombs1.P (Go.Proofs.YtdgbigkcophjoaaDoor.PComb.Comb.mk t_7_id t_7_wide t_7_high t_7_line) hf2_0 hf2_1 hf2_2) fun (t_13 : Bool) =>
  iteK t_13
  (Option.bind (Go.Proofs.YtdgbigkcophjoaaDoor.GiIdOfComb.P (Go.Proofs.YtdgbigkcophjoaaDoor.PComb.Comb.mk t_7_id t_7_wide t_7_high t_7_line)) fun (t_17 : Int) =>
  guardK (keys_7l0.length ≤ 1099511627776) <|
  letK (keys_7l0 ++ [t_17]) fun (t_19 : (List Int)) =>
  appK nx0 (t_19))
  (appK nx0 (keys_7l0))

def e0  (s : (List Int)) : Option ((List Int)) :=
  letK s fun keys_7l0 =>
  some keys_7l0

def P (list : (List Go.Proofs.YtdgbigkcophjoaaDoor.PComb.Comb)) (hf2_0 : Int) (hf2_1 : Int) (hf2_2 : Int) : Option ((List Int)) :=
  cntK (l0 list hf2_0 hf2_1 hf2_2) (list.length) 0 (([] : List Int)) (e0 )

set_option maxRecDepth 100000 in
set_option maxHeartbeats 2000000 in
theorem C (list : (List Go.Proofs.YtdgbigkcophjoaaDoor.PComb.Comb)) (hf2_0 : Int) (hf2_1 : Int) (hf2_2 : Int) (A0 : Option Addr) (c0 : Nat) (gf2_0 : Nat) (gf2_1 : Nat) (gf2_2 : Nat) (w : World) (M0 : Hid (Cells w 4 A0 list.length (Go.Proofs.YtdgbigkcophjoaaDoor.PComb.flat list))) (N0 : Hid (list.length ≤ 9223372036854775807)) (Ff2_0h : Hid (w.cell? ⟨gf2_0, 0, none⟩ = some (.int .i64 hf2_0))) (Ff2_1h : Hid (w.cell? ⟨gf2_1, 0, none⟩ = some (.int .i64 hf2_1))) (Ff2_2h : Hid (w.cell? ⟨gf2_2, 0, none⟩ = some (.int .i64 hf2_2))) {r : (List Int)} (H : Hid (P list hf2_0 hf2_1 hf2_2 = some r)) :
    Calls Tryd.prog 29 #[.slice A0 list.length c0, .func (.func 30) #[] #[], .func (.func 31) #[] #[.pointer (some ⟨gf2_0, 0, none⟩), .pointer (some ⟨gf2_1, 0, none⟩), .pointer (some ⟨gf2_2, 0, none⟩)]] w (fun e w' => ∃ A_r c_r, e = .returned (.slice A_r r.length c_r) ∧ w'.ownsRow w.heap.size 3 1 (.slice A_r r.length c_r) r.length (Go.Proofs.YtdgbigkcophjoaaDoor.HelpInt.iv r) ∧ Below w.heap.size w w') := by
  have HB := Lib.hid (Below.refl w.heap.size w)
  unfold P at H
  have N0o := N0.out
  have Ff2_0 := Ff2_0h.out
  have Ff2_1 := Ff2_1h.out
  have Ff2_2 := Ff2_2h.out
  obtain ⟨i0_3, hi_3, hz0_3, hz1_3, hz2_3⟩ := Aid.info_parts (P := Tryd.prog) (T := 3) (z := .int .i64 0) (s := 1) (b := 8) (by kernel_rfl)
  go_enter Tryd.func29, Tryd.ntmps29
  obtain ⟨w_t_1, hw_t_1⟩ : ∃ x, w.alloc (.cells #[] 3) = x := ⟨_, rfl⟩
  have bw_t_1 : Below w.heap.size w w_t_1 := by rw [← hw_t_1]; exact (Below.refl _ _).alloc (Nat.le_refl _) _
  have Ot_1 : Hid (w_t_1.ownsRow w.heap.size 3 1 (.slice (some ⟨w.heap.size, 0, none⟩) 0 0) 0 []) := Lib.hid (by rw [← hw_t_1]; exact own_empty HB.out.size)
  have HBw_t_1 := Lib.hid (Below.step HB.out bw_t_1)
  have Ff2_0__184 := cell_below bw_t_1 Ff2_0
  have Ff2_1__185 := cell_below bw_t_1 Ff2_1
  have Ff2_2__186 := cell_below bw_t_1 Ff2_2
  clear bw_t_1
  go_wp2_with fail
  clear Ff2_0 Ff2_1 Ff2_2
  go_loopg [13, 7] (list.length) (fun m_ v13_ v7_ wr => ∃ (k0 : Nat) (keys_7l0 : (List Int)) (Akeys_7l0 : Option Addr) (ckeys_7l0 : Nat), k0 + m_ = list.length ∧ v13_ = .int .i64 (k0 : Int) ∧ v7_ = .slice Akeys_7l0 keys_7l0.length ckeys_7l0 ∧ Hid (cntK (l0 list hf2_0 hf2_1 hf2_2) m_ k0 (keys_7l0) (e0 ) = some r) ∧ Hid (Below w.heap.size w wr) ∧ wr.cell? ⟨gf2_0, 0, none⟩ = some (.int .i64 hf2_0) ∧ wr.cell? ⟨gf2_1, 0, none⟩ = some (.int .i64 hf2_1) ∧ wr.cell? ⟨gf2_2, 0, none⟩ = some (.int .i64 hf2_2) ∧ Hid (wr.ownsRow w.heap.size 3 1 (.slice Akeys_7l0 keys_7l0.length ckeys_7l0) keys_7l0.length (Go.Proofs.YtdgbigkcophjoaaDoor.HelpInt.iv keys_7l0)))
  case atStart => exact ⟨0, _, _, _, by omega, rfl, rfl, H, HBw_t_1, Ff2_0__184, Ff2_1__185, Ff2_2__186, Ot_1⟩
  case round =>
    obtain ⟨k0, keys_7l0, Akeys_7l0, ckeys_7l0, hkm0, rfl, rfl, H, HBwr0, Ff2_0__184, Ff2_1__185, Ff2_2__186, Okeys_7l0⟩ := hrel
    rename World => wr0
    cases gk with
    | zero =>
      obtain rfl : k0 = list.length := by omega
      have hc0 : decide (((list.length : Nat) : Int) < ((list.length : Nat) : Int)) = false := by simp
      replace H := cnt_zero H
      unfold e0 at H
      replace H := let_hid H
      obtain ⟨_, rfl, H⟩ := H
      obtain rfl := ret_hid H
      go_wp2_with fail
      go_ret
      exact ⟨Akeys_7l0, ckeys_7l0, rfl, Okeys_7l0.out, HBwr0.out⟩
    | succ m0 =>
      have hlt0 : k0 < list.length := by omega
      have hc0 : decide ((k0 : Int) < ((list.length : Nat) : Int)) = true := by simp; omega
      replace H := cnt_succ H
      unfold l0 at H
      replace H := let_hid H
      obtain ⟨_, rfl, H⟩ := H
      replace H := idx_hid H
      obtain ⟨nt_7, yt_7, et_7, lt_7, gt_7, H⟩ := H
      obtain rfl : k0 = nt_7 := by omega
      clear et_7
      obtain ⟨t_7_id, t_7_wide, t_7_high, t_7_line⟩ := yt_7
      replace H := unComb_hid H
      obtain ⟨ab_t_7, ao_t_7, zt_7, At_7, z_t_7, ct_7_0, ct_7_1, ct_7_2, ct_7_3⟩ := Go.Proofs.YtdgbigkcophjoaaDoor.OComb.at_ M0.out lt_7
      obtain rfl := Option.some.inj (gt_7.out.symm.trans z_t_7)
      subst At_7
      have ltt_7 := cell_lt ct_7_0
      replace ct_7_0 := cell_below HBwr0.out ct_7_0
      replace ct_7_1 := cell_below HBwr0.out ct_7_1
      replace ct_7_2 := cell_below HBwr0.out ct_7_2
      replace ct_7_3 := cell_below HBwr0.out ct_7_3
      clear z_t_7
      have b0t_7 : (0 : Int) ≤ (k0 : Int) := by omega
      have b1t_7 : (k0 : Int) < ((list.length : Nat) : Int) := by omega
      have b2t_7 : ((k0 : Int)).toNat = k0 := by omega
      obtain ⟨w_e_9, hw_e_9⟩ : ∃ x, wr0.alloc (.cells #[.int .i64 t_7_id, .int .i64 t_7_wide, .int .i64 t_7_high, .bool t_7_line] 32) = x := ⟨_, rfl⟩
      have bw_e_9 : Below wr0.heap.size wr0 w_e_9 := by rw [← hw_e_9]; exact (Below.refl _ _).alloc (Nat.le_refl _) _
      have De_9_keys_7l0 := Lib.hid (apart_fresh Okeys_7l0.out)
      have HBw_e_9 := Lib.hid (Below.step HBwr0.out bw_e_9)
      have Ff2_0__187 := cell_below bw_e_9 Ff2_0__184
      have Ff2_1__188 := cell_below bw_e_9 Ff2_1__185
      have Ff2_2__189 := cell_below bw_e_9 Ff2_2__186
      have ct_7_0__190 := cell_below bw_e_9 ct_7_0
      have ct_7_1__191 := cell_below bw_e_9 ct_7_1
      have ct_7_2__192 := cell_below bw_e_9 ct_7_2
      have ct_7_3__193 := cell_below bw_e_9 ct_7_3
      replace Okeys_7l0 := Lib.hid (own_below Okeys_7l0.out bw_e_9)
      clear bw_e_9
      have ke_9_0 : w_e_9.cell? ⟨wr0.heap.size, 0, none⟩ = some (.int .i64 t_7_id) := by rw [← hw_e_9]; exact box_new _ _ _ 0 _ rfl
      have ke_9_1 : w_e_9.cell? ⟨wr0.heap.size, 1, none⟩ = some (.int .i64 t_7_wide) := by rw [← hw_e_9]; exact box_new _ _ _ 1 _ rfl
      have ke_9_2 : w_e_9.cell? ⟨wr0.heap.size, 2, none⟩ = some (.int .i64 t_7_high) := by rw [← hw_e_9]; exact box_new _ _ _ 2 _ rfl
      have ke_9_3 : w_e_9.cell? ⟨wr0.heap.size, 3, none⟩ = some (.bool t_7_line) := by rw [← hw_e_9]; exact box_new _ _ _ 3 _ rfl
      replace H := bind_hid H
      obtain ⟨t_13, qt_13, H⟩ := H
      go_wp2_with fail
      clear Ff2_0__184 Ff2_1__185 Ff2_2__186 ct_7_0 ct_7_1 ct_7_2 ct_7_3
      go_at_call 31
      refine (Go.Proofs.YtdgbigkcophjoaaDoor.GiMatchCombs1.C ((Go.Proofs.YtdgbigkcophjoaaDoor.PComb.Comb.mk t_7_id t_7_wide t_7_high t_7_line)) (hf2_0) (hf2_1) (hf2_2) (gf2_0) (gf2_1) (gf2_2) _   (Lib.hid Ff2_0__187) (Lib.hid Ff2_1__188) (Lib.hid Ff2_2__189) qt_13).mono ?_
      rintro e_t_13 wt_13 ⟨rfl, bt_13⟩
      have HBwt_13 := Lib.hid (Below.step HBw_e_9.out bt_13)
      replace Ff2_0__187 := cell_below bt_13 Ff2_0__187
      replace Ff2_1__188 := cell_below bt_13 Ff2_1__188
      replace Ff2_2__189 := cell_below bt_13 Ff2_2__189
      replace ct_7_0__190 := cell_below bt_13 ct_7_0__190
      replace ct_7_1__191 := cell_below bt_13 ct_7_1__191
      replace ct_7_2__192 := cell_below bt_13 ct_7_2__192
      replace ct_7_3__193 := cell_below bt_13 ct_7_3__193
      replace ke_9_0 := cell_below bt_13 ke_9_0
      replace ke_9_1 := cell_below bt_13 ke_9_1
      replace ke_9_2 := cell_below bt_13 ke_9_2
      replace ke_9_3 := cell_below bt_13 ke_9_3
      replace Okeys_7l0 := Lib.hid (own_below Okeys_7l0.out bt_13)
      clear bt_13
      cases t_13 with
      | false =>
        replace H := ite_f H
        replace H := app_hid H
        go_wp2_with fail
        go_roundg m0
        case measure => omega
        case rel => exact ⟨k0 + 1, _, _, _, by omega, by go_num, rfl, H, HBwt_13, Ff2_0__187, Ff2_1__188, Ff2_2__189, Okeys_7l0⟩
      | true =>
        replace H := ite_t H
        replace H := bind_hid H
        obtain ⟨t_17, qt_17, H⟩ := H
        go_wp2_with fail
        go_at_call 30
        refine (Go.Proofs.YtdgbigkcophjoaaDoor.GiIdOfComb.C ((Go.Proofs.YtdgbigkcophjoaaDoor.PComb.Comb.mk t_7_id t_7_wide t_7_high t_7_line))  _    qt_17).mono ?_
        rintro e_t_17 wt_17 ⟨rfl, bt_17⟩
        have HBwt_17 := Lib.hid (Below.step HBwt_13.out bt_17)
        replace Ff2_0__187 := cell_below bt_17 Ff2_0__187
        replace Ff2_1__188 := cell_below bt_17 Ff2_1__188
        replace Ff2_2__189 := cell_below bt_17 Ff2_2__189
        replace ct_7_0__190 := cell_below bt_17 ct_7_0__190
        replace ct_7_1__191 := cell_below bt_17 ct_7_1__191
        replace ct_7_2__192 := cell_below bt_17 ct_7_2__192
        replace ct_7_3__193 := cell_below bt_17 ct_7_3__193
        replace ke_9_0 := cell_below bt_17 ke_9_0
        replace ke_9_1 := cell_below bt_17 ke_9_1
        replace ke_9_2 := cell_below bt_17 ke_9_2
        replace ke_9_3 := cell_below bt_17 ke_9_3
        replace Okeys_7l0 := Lib.hid (own_below Okeys_7l0.out bt_17)
        clear bt_17
        obtain ⟨w_t_18, hw_t_18⟩ : ∃ x, wt_17.alloc (.cells #[.int .i64 t_17] 3) = x := ⟨_, rfl⟩
        have bw_t_18 : Below wt_17.heap.size wt_17 w_t_18 := by rw [← hw_t_18]; exact (Below.refl _ _).alloc (Nat.le_refl _) _
        have HBw_t_18 := Lib.hid (Below.step HBwt_17.out bw_t_18)
        have Ff2_0__194 := cell_below bw_t_18 Ff2_0__187
        have Ff2_1__195 := cell_below bw_t_18 Ff2_1__188
        have Ff2_2__196 := cell_below bw_t_18 Ff2_2__189
        have ct_7_0__197 := cell_below bw_t_18 ct_7_0__190
        have ct_7_1__198 := cell_below bw_t_18 ct_7_1__191
        have ct_7_2__199 := cell_below bw_t_18 ct_7_2__192
        have ct_7_3__200 := cell_below bw_t_18 ct_7_3__193
        have ke_9_0__201 := cell_below bw_t_18 ke_9_0
        have ke_9_1__202 := cell_below bw_t_18 ke_9_1
        have ke_9_2__203 := cell_below bw_t_18 ke_9_2
        have ke_9_3__204 := cell_below bw_t_18 ke_9_3
        replace Okeys_7l0 := Lib.hid (own_below Okeys_7l0.out bw_t_18)
        clear bw_t_18
        replace H := guard_hid H
        obtain ⟨hlt_19, H⟩ := H
        replace H := let_hid H
        obtain ⟨t_19, ht_19, H⟩ := H
        have hht_19 := Lib.hid ht_19
        clear ht_19
        have hst_19 := HBw_t_18.out.size
        go_wp2_with (at_builtin; refine wpList_append_own_at _ rfl _ _ 27 rfl w.heap.size 3 i0_3 (.int .i64 0) 1 8 Tryd.underlying27 hi_3 hz0_3 hz1_3 hz2_3 rfl (by decide) _ _ _ rfl Okeys_7l0.out ⟨wt_17.heap.size, 0, none⟩ 1 1 [.int .i64 t_17] rfl rfl (news_new hw_t_18) (one_cells rfl) (by unfold maxLen; omega) (by omega) hst_19 ?_; intro vt_19 wt_19 ot_19 gt_19 zt_19 yt_19; clear zt_19; obtain ⟨qt_19, ct_19, rfl, pt_19⟩ := own_push hht_19.out (Go.Proofs.YtdgbigkcophjoaaDoor.HelpInt.iv_snoc _ _) rfl ot_19; have Pt_19 := Lib.hid pt_19; have Yt_19 := Lib.hid yt_19; have Gt_19 := Lib.hid gt_19; clear ot_19 gt_19 pt_19 yt_19; refine stop_in ?_)
        refine stop_out ?_
        have HBwt_19 := Lib.hid (HBw_t_18.out.grown Gt_19.out hst_19 (fun q hq => (Okeys_7l0.out.lt q hq).1))
        clear hst_19
        have Dt_19_e_9 : Hid (Apart (some ⟨qt_19, 0, none⟩) _) := Lib.hid (apart_app (Apart.symm De_9_keys_7l0.out) (fun a_ ha_ => by cases ha_; exact cell_lt ke_9_0__201) Yt_19.out)
        replace Ff2_0__194 := cell_below HBwt_19.out Ff2_0h.out
        replace Ff2_1__195 := cell_below HBwt_19.out Ff2_1h.out
        replace Ff2_2__196 := cell_below HBwt_19.out Ff2_2h.out
        replace ct_7_0__197 := cell_other ct_7_0__197 Gt_19.out (apart_old Okeys_7l0.out ltt_7)
        replace ct_7_1__198 := cell_other ct_7_1__198 Gt_19.out (apart_old Okeys_7l0.out ltt_7)
        replace ct_7_2__199 := cell_other ct_7_2__199 Gt_19.out (apart_old Okeys_7l0.out ltt_7)
        replace ct_7_3__200 := cell_other ct_7_3__200 Gt_19.out (apart_old Okeys_7l0.out ltt_7)
        replace ke_9_0__201 := cell_other ke_9_0__201 Gt_19.out (Apart.symm De_9_keys_7l0.out)
        replace ke_9_1__202 := cell_other ke_9_1__202 Gt_19.out (Apart.symm De_9_keys_7l0.out)
        replace ke_9_2__203 := cell_other ke_9_2__203 Gt_19.out (Apart.symm De_9_keys_7l0.out)
        replace ke_9_3__204 := cell_other ke_9_3__204 Gt_19.out (Apart.symm De_9_keys_7l0.out)
        clear Ff2_0__187 Ff2_1__188 Ff2_2__189 ct_7_0__190 ct_7_1__191 ct_7_2__192 ct_7_3__193 ke_9_0 ke_9_1 ke_9_2 ke_9_3
        clear Okeys_7l0 Yt_19 Gt_19
        replace H := app_hid H
        go_wp2_with fail
        go_roundg m0
        case measure => omega
        case rel => exact ⟨k0 + 1, _, _, _, by omega, by go_num, rfl, H, HBwt_19, Ff2_0__194, Ff2_1__195, Ff2_2__196, Pt_19⟩
end Go.Proofs.YtdgbigkcophjoaaDoor.GiKeysWhereCombIntiIdOfCombiMatchCombs1

/- loop.example/g01062/impl.MatchCombs as a plain function, and the contract of the program's: where the plain one has an answer, the program has it. Conditions: slices read as lists. -/
namespace Go.Proofs.YtdgbigkcophjoaaDoor.GiMatchCombs
set_option linter.unusedVariables false
set_option linter.unusedSimpArgs false
open Go.RowKit
open Go.Proofs.YtdgbigkcophjoaaDoor.Rowed Go.Proofs.YtdgbigkcophjoaaDoor.Turn Go.Proofs.YtdgbigkcophjoaaDoor.Aid Go.Proofs.YtdgbigkcophjoaaDoor.GoP Go.Proofs.YtdgbigkcophjoaaDoor.GoM

def P (list : (List Go.Proofs.YtdgbigkcophjoaaDoor.PComb.Comb)) (wide : Int) (high : Int) (off : Int) : Option ((List Int) × Bool) :=
  Option.bind (Go.Proofs.YtdgbigkcophjoaaDoor.GiCanMatch.P list wide high off) fun (t_9 : Bool) =>
  letK (!t_9) fun (t_10 : Bool) =>
  iteK t_10
  (some (([] : List Int), false))
  (Option.bind (Go.Proofs.YtdgbigkcophjoaaDoor.GiKeysWhereCombIntiIdOfCombiMatchCombs1.P list wide high off) fun (t_16 : (List Int)) =>
  some (t_16, true))

set_option maxRecDepth 100000 in
set_option maxHeartbeats 2000000 in
theorem C (list : (List Go.Proofs.YtdgbigkcophjoaaDoor.PComb.Comb)) (wide : Int) (high : Int) (off : Int) (A0 : Option Addr) (c0 : Nat)  (w : World) (M0 : Hid (Cells w 4 A0 list.length (Go.Proofs.YtdgbigkcophjoaaDoor.PComb.flat list))) (N0 : Hid (list.length ≤ 9223372036854775807))  {r0 : (List Int)} {r1 : Bool} (H : Hid (P list wide high off = some (r0, r1))) :
    Calls Tryd.prog 6 #[.slice A0 list.length c0, .int .i64 wide, .int .i64 high, .int .i64 off] w (fun e w' => ∃ A_r0 c_r0, e = .returned (.tuple #[.slice A_r0 r0.length c_r0, .bool r1]) ∧ w'.ownsRow w.heap.size 3 1 (.slice A_r0 r0.length c_r0) r0.length (Go.Proofs.YtdgbigkcophjoaaDoor.HelpInt.iv r0) ∧ Below w.heap.size w w') := by
  have HB := Lib.hid (Below.refl w.heap.size w)
  unfold P at H
  have N0o := N0.out
  go_enter Tryd.func6, Tryd.ntmps6
  obtain ⟨w_wide_0, hw_wide_0⟩ : ∃ x, w.alloc (.cells #[.int .i64 wide] 3) = x := ⟨_, rfl⟩
  have bw_wide_0 : Below w.heap.size w w_wide_0 := by rw [← hw_wide_0]; exact (Below.refl _ _).alloc (Nat.le_refl _) _
  have HBw_wide_0 := Lib.hid (Below.step HB.out bw_wide_0)
  clear bw_wide_0
  have kwide_0_0 : w_wide_0.cell? ⟨w.heap.size, 0, none⟩ = some (.int .i64 wide) := by rw [← hw_wide_0]; exact box_new _ _ _ 0 _ rfl
  obtain ⟨w_high_1, hw_high_1⟩ : ∃ x, w_wide_0.alloc (.cells #[.int .i64 high] 3) = x := ⟨_, rfl⟩
  have bw_high_1 : Below w_wide_0.heap.size w_wide_0 w_high_1 := by rw [← hw_high_1]; exact (Below.refl _ _).alloc (Nat.le_refl _) _
  have HBw_high_1 := Lib.hid (Below.step HBw_wide_0.out bw_high_1)
  have kwide_0_0__205 := cell_below bw_high_1 kwide_0_0
  clear bw_high_1
  have khigh_1_0 : w_high_1.cell? ⟨w_wide_0.heap.size, 0, none⟩ = some (.int .i64 high) := by rw [← hw_high_1]; exact box_new _ _ _ 0 _ rfl
  obtain ⟨w_off_2, hw_off_2⟩ : ∃ x, w_high_1.alloc (.cells #[.int .i64 off] 3) = x := ⟨_, rfl⟩
  have bw_off_2 : Below w_high_1.heap.size w_high_1 w_off_2 := by rw [← hw_off_2]; exact (Below.refl _ _).alloc (Nat.le_refl _) _
  have HBw_off_2 := Lib.hid (Below.step HBw_high_1.out bw_off_2)
  have kwide_0_0__206 := cell_below bw_off_2 kwide_0_0__205
  have khigh_1_0__207 := cell_below bw_off_2 khigh_1_0
  clear bw_off_2
  have koff_2_0 : w_off_2.cell? ⟨w_high_1.heap.size, 0, none⟩ = some (.int .i64 off) := by rw [← hw_off_2]; exact box_new _ _ _ 0 _ rfl
  replace H := bind_hid H
  obtain ⟨t_9, qt_9, H⟩ := H
  go_wp2_with fail
  clear kwide_0_0 kwide_0_0__205 khigh_1_0
  go_at_call 28
  refine (Go.Proofs.YtdgbigkcophjoaaDoor.GiCanMatch.C (list) (wide) (high) (off) A0 c0 _   (Lib.hid (Cells.below M0.out HBw_off_2.out)) N0 qt_9).mono ?_
  rintro e_t_9 wt_9 ⟨rfl, bt_9⟩
  have HBwt_9 := Lib.hid (Below.step HBw_off_2.out bt_9)
  replace kwide_0_0__206 := cell_below bt_9 kwide_0_0__206
  replace khigh_1_0__207 := cell_below bt_9 khigh_1_0__207
  replace koff_2_0 := cell_below bt_9 koff_2_0
  clear bt_9
  cases t_9 with
  | false =>
    replace H := let_hid H
    obtain ⟨t_10, ht_10, H⟩ := H
    obtain rfl : t_10 = true := ht_10.symm
    replace H := ite_t H
    obtain ⟨w_t_11, hw_t_11⟩ : ∃ x, wt_9.alloc (.cells #[] 3) = x := ⟨_, rfl⟩
    have bw_t_11 : Below wt_9.heap.size wt_9 w_t_11 := by rw [← hw_t_11]; exact (Below.refl _ _).alloc (Nat.le_refl _) _
    have Ot_11 : Hid (w_t_11.ownsRow w.heap.size 3 1 (.slice (some ⟨wt_9.heap.size, 0, none⟩) 0 0) 0 []) := Lib.hid (by rw [← hw_t_11]; exact own_empty HBwt_9.out.size)
    have Dt_11_wide_0 := Lib.hid (apart_box kwide_0_0__206)
    have Dt_11_high_1 := Lib.hid (apart_box khigh_1_0__207)
    have Dt_11_off_2 := Lib.hid (apart_box koff_2_0)
    have HBw_t_11 := Lib.hid (Below.step HBwt_9.out bw_t_11)
    have kwide_0_0__208 := cell_below bw_t_11 kwide_0_0__206
    have khigh_1_0__209 := cell_below bw_t_11 khigh_1_0__207
    have koff_2_0__210 := cell_below bw_t_11 koff_2_0
    clear bw_t_11
    cases ret_hid H
    go_wp2_with fail
    go_ret2
    exact ⟨(some ⟨wt_9.heap.size, 0, none⟩), 0, rfl, Ot_11.out, HBw_t_11.out⟩
  | true =>
    replace H := let_hid H
    obtain ⟨t_10, ht_10, H⟩ := H
    obtain rfl : t_10 = false := ht_10.symm
    replace H := ite_f H
    replace H := bind_hid H
    obtain ⟨t_16, qt_16, H⟩ := H
    go_wp2_with fail
    go_at_call 29
    refine (Go.Proofs.YtdgbigkcophjoaaDoor.GiKeysWhereCombIntiIdOfCombiMatchCombs1.C (list) (wide) (high) (off) A0 c0 (w.heap.size) (w_wide_0.heap.size) (w_high_1.heap.size) _   (Lib.hid (Cells.below M0.out HBwt_9.out)) N0 (Lib.hid kwide_0_0__206) (Lib.hid khigh_1_0__207) (Lib.hid koff_2_0) qt_16).mono ?_
    rintro e_t_16 wt_16 ⟨At_16, ct_16, rfl, ot_16, bt_16⟩
    have Dt_16_wide_0 := Lib.hid (apart_callbox ot_16 kwide_0_0__206)
    have Dt_16_high_1 := Lib.hid (apart_callbox ot_16 khigh_1_0__207)
    have Dt_16_off_2 := Lib.hid (apart_callbox ot_16 koff_2_0)
    have Ot_16 := Lib.hid (own_lower ot_16 HBwt_9.out.size)
    clear ot_16
    have HBwt_16 := Lib.hid (Below.step HBwt_9.out bt_16)
    replace kwide_0_0__206 := cell_below bt_16 kwide_0_0__206
    replace khigh_1_0__207 := cell_below bt_16 khigh_1_0__207
    replace koff_2_0 := cell_below bt_16 koff_2_0
    clear bt_16
    cases ret_hid H
    go_wp2_with fail
    go_ret2
    exact ⟨At_16, ct_16, rfl, Ot_16.out, HBwt_16.out⟩
end Go.Proofs.YtdgbigkcophjoaaDoor.GiMatchCombs

/- loop.example/g01062/spec.l1In as a plain function, and the contract of the program's: where the plain one has an answer, the program has it. Conditions: slices read as lists. -/
namespace Go.Proofs.YtdgbigkcophjoaaDoor.GsL1In
set_option linter.unusedVariables false
set_option linter.unusedSimpArgs false
open Go.RowKit
open Go.Proofs.YtdgbigkcophjoaaDoor.Rowed Go.Proofs.YtdgbigkcophjoaaDoor.Turn Go.Proofs.YtdgbigkcophjoaaDoor.Aid Go.Proofs.YtdgbigkcophjoaaDoor.GoP Go.Proofs.YtdgbigkcophjoaaDoor.GoM

def P (x : Int) (a : Int) (b : Int) : Option (Bool) :=
  letK (decide (a ≤ x)) fun (t_3 : Bool) =>
  joinK (fun (t_8 : Bool) =>
  some t_8) fun jt_8 => iteK t_3 (letK (decide (x ≤ b)) fun (t_7 : Bool) =>
  appK jt_8 t_7) (appK jt_8 false)

set_option maxRecDepth 100000 in
set_option maxHeartbeats 2000000 in
theorem C (x : Int) (a : Int) (b : Int)   (w : World)   {r : Bool} (H : Hid (P x a b = some r)) :
    Calls Tryd.prog 56 #[.int .i64 x, .int .i64 a, .int .i64 b] w (Gives (.bool r) w) := by
  have HB := Lib.hid (Below.refl w.heap.size w)
  unfold P at H
  go_enter Tryd.func56, Tryd.ntmps56
  replace H := let_hid H
  obtain ⟨t_3, ht_3, H⟩ := H
  replace H := join_hid H
  cases t_3 with
  | false =>
    replace H := ite_f H
    replace H := app_hid H
    obtain rfl := ret_hid H
    go_wp2_with fail
    go_ret
    exact ⟨rfl, HB.out⟩
  | true =>
    replace H := ite_t H
    replace H := let_hid H
    obtain ⟨t_7, ht_7, H⟩ := H
    replace H := app_hid H
    obtain rfl := ret_hid H
    go_wp2_with fail
    go_ret
    exact ⟨rfl, HB.out⟩

set_option maxRecDepth 100000 in
set_option maxHeartbeats 2000000 in
theorem C0 (x : Int) (a : Int) (b : Int)   (w : World)   {r : Bool} (H : Hid (P x a b = some r)) :
    Calls Tryd.prog 56 #[.int .i64 x, .int .i64 a, .int .i64 b] w (fun e w'' => e = .returned (.bool r) ∧ w'' = w) := by
  have HB := Lib.hid (Below.refl w.heap.size w)
  unfold P at H
  go_enter Tryd.func56, Tryd.ntmps56
  replace H := let_hid H
  obtain ⟨t_3, ht_3, H⟩ := H
  replace H := join_hid H
  cases t_3 with
  | false =>
    replace H := ite_f H
    replace H := app_hid H
    obtain rfl := ret_hid H
    go_wp2_with fail
    go_ret
    exact ⟨rfl, rfl⟩
  | true =>
    replace H := ite_t H
    replace H := let_hid H
    obtain ⟨t_7, ht_7, H⟩ := H
    replace H := app_hid H
    obtain rfl := ret_hid H
    go_wp2_with fail
    go_ret
    exact ⟨rfl, rfl⟩
end Go.Proofs.YtdgbigkcophjoaaDoor.GsL1In

/- loop.example/g01062/spec.l5Gauge as a plain function, and the contract of the program's: where the plain one has an answer, the program has it. Conditions: slices read as lists. -/
namespace Go.Proofs.YtdgbigkcophjoaaDoor.GsL5Gauge
set_option linter.unusedVariables false
set_option linter.unusedSimpArgs false
open Go.RowKit
open Go.Proofs.YtdgbigkcophjoaaDoor.Rowed Go.Proofs.YtdgbigkcophjoaaDoor.Turn Go.Proofs.YtdgbigkcophjoaaDoor.Aid Go.Proofs.YtdgbigkcophjoaaDoor.GoP Go.Proofs.YtdgbigkcophjoaaDoor.GoM

def P (n_0 : Int) : Option (Bool) :=
  Option.bind (Go.Proofs.YtdgbigkcophjoaaDoor.GsL1In.P n_0 500 2000) fun (t_2 : Bool) =>
  some t_2

set_option maxRecDepth 100000 in
set_option maxHeartbeats 2000000 in
theorem C (n_0 : Int)   (w : World)   {r : Bool} (H : Hid (P n_0 = some r)) :
    Calls Tryd.prog 43 #[.int .i64 n_0] w (Gives (.bool r) w) := by
  have HB := Lib.hid (Below.refl w.heap.size w)
  unfold P at H
  go_enter Tryd.func43, Tryd.ntmps43
  replace H := bind_hid H
  obtain ⟨t_2, qt_2, H⟩ := H
  go_wp2_with fail
  go_at_call 56
  refine (Go.Proofs.YtdgbigkcophjoaaDoor.GsL1In.C (n_0) (500) (2000)  _    qt_2).mono ?_
  rintro e_t_2 wt_2 ⟨rfl, bt_2⟩
  have HBwt_2 := Lib.hid (Below.step HB.out bt_2)
  clear bt_2
  obtain rfl := ret_hid H
  go_wp2_with fail
  go_ret
  exact ⟨rfl, HBwt_2.out⟩
end Go.Proofs.YtdgbigkcophjoaaDoor.GsL5Gauge

/- loop.example/g01062/spec.l5One as a plain function, and the contract of the program's: where the plain one has an answer, the program has it. Conditions: slices read as lists. -/
namespace Go.Proofs.YtdgbigkcophjoaaDoor.GsL5One
set_option linter.unusedVariables false
set_option linter.unusedSimpArgs false
open Go.RowKit
open Go.Proofs.YtdgbigkcophjoaaDoor.Rowed Go.Proofs.YtdgbigkcophjoaaDoor.Turn Go.Proofs.YtdgbigkcophjoaaDoor.Aid Go.Proofs.YtdgbigkcophjoaaDoor.GoP Go.Proofs.YtdgbigkcophjoaaDoor.GoM

def P (x : Go.Proofs.YtdgbigkcophjoaaDoor.PComb.Comb) : Option (Bool) :=
  unComb x fun (x_id : Int) (x_wide : Int) (x_high : Int) (x_line : Bool) =>
  Option.bind (Go.Proofs.YtdgbigkcophjoaaDoor.GsL1In.P x_id 1 99) fun (t_4 : Bool) =>
  joinK (fun (t_9 : Bool) =>
  joinK (fun (t_14 : Bool) =>
  some t_14) fun jt_14 => iteK t_9 (Option.bind (Go.Proofs.YtdgbigkcophjoaaDoor.GsL5Gauge.P x_high) fun (t_13 : Bool) =>
  appK jt_14 t_13) (appK jt_14 false)) fun jt_9 => iteK t_4 (Option.bind (Go.Proofs.YtdgbigkcophjoaaDoor.GsL5Gauge.P x_wide) fun (t_8 : Bool) =>
  appK jt_9 t_8) (appK jt_9 false)

set_option maxRecDepth 100000 in
set_option maxHeartbeats 2000000 in
theorem C (x : Go.Proofs.YtdgbigkcophjoaaDoor.PComb.Comb)   (w : World)   {r : Bool} (H : Hid (P x = some r)) :
    Calls Tryd.prog 48 #[x.val] w (Gives (.bool r) w) := by
  have HB := Lib.hid (Below.refl w.heap.size w)
  unfold P at H
  obtain ⟨x_id, x_wide, x_high, x_line⟩ := x
  replace H := unComb_hid H
  unfold Go.Proofs.YtdgbigkcophjoaaDoor.PComb.Comb.val
  go_enter Tryd.func48, Tryd.ntmps48
  obtain ⟨w_x_0, hw_x_0⟩ : ∃ x, w.alloc (.cells #[.int .i64 x_id, .int .i64 x_wide, .int .i64 x_high, .bool x_line] 32) = x := ⟨_, rfl⟩
  have bw_x_0 : Below w.heap.size w w_x_0 := by rw [← hw_x_0]; exact (Below.refl _ _).alloc (Nat.le_refl _) _
  have HBw_x_0 := Lib.hid (Below.step HB.out bw_x_0)
  clear bw_x_0
  have kx_0_0 : w_x_0.cell? ⟨w.heap.size, 0, none⟩ = some (.int .i64 x_id) := by rw [← hw_x_0]; exact box_new _ _ _ 0 _ rfl
  have kx_0_1 : w_x_0.cell? ⟨w.heap.size, 1, none⟩ = some (.int .i64 x_wide) := by rw [← hw_x_0]; exact box_new _ _ _ 1 _ rfl
  have kx_0_2 : w_x_0.cell? ⟨w.heap.size, 2, none⟩ = some (.int .i64 x_high) := by rw [← hw_x_0]; exact box_new _ _ _ 2 _ rfl
  have kx_0_3 : w_x_0.cell? ⟨w.heap.size, 3, none⟩ = some (.bool x_line) := by rw [← hw_x_0]; exact box_new _ _ _ 3 _ rfl
  replace H := bind_hid H
  obtain ⟨t_4, qt_4, H⟩ := H
  go_wp2_with fail
  go_at_call 56
  refine (Go.Proofs.YtdgbigkcophjoaaDoor.GsL1In.C (x_id) (1) (99)  _    qt_4).mono ?_
  rintro e_t_4 wt_4 ⟨rfl, bt_4⟩
  have HBwt_4 := Lib.hid (Below.step HBw_x_0.out bt_4)
  replace kx_0_0 := cell_below bt_4 kx_0_0
  replace kx_0_1 := cell_below bt_4 kx_0_1
  replace kx_0_2 := cell_below bt_4 kx_0_2
  replace kx_0_3 := cell_below bt_4 kx_0_3
  clear bt_4
  replace H := join_hid H
  cases t_4 with
  | false =>
    replace H := ite_f H
    replace H := app_hid H
    replace H := join_hid H
    replace H := ite_f H
    replace H := app_hid H
    obtain rfl := ret_hid H
    go_wp2_with fail
    go_ret
    exact ⟨rfl, HBwt_4.out⟩
  | true =>
    replace H := ite_t H
    replace H := bind_hid H
    obtain ⟨t_8, qt_8, H⟩ := H
    go_wp2_with fail
    go_at_call 43
    refine (Go.Proofs.YtdgbigkcophjoaaDoor.GsL5Gauge.C (x_wide)  _    qt_8).mono ?_
    rintro e_t_8 wt_8 ⟨rfl, bt_8⟩
    have HBwt_8 := Lib.hid (Below.step HBwt_4.out bt_8)
    replace kx_0_0 := cell_below bt_8 kx_0_0
    replace kx_0_1 := cell_below bt_8 kx_0_1
    replace kx_0_2 := cell_below bt_8 kx_0_2
    replace kx_0_3 := cell_below bt_8 kx_0_3
    clear bt_8
    replace H := app_hid H
    replace H := join_hid H
    cases t_8 with
    | false =>
      replace H := ite_f H
      replace H := app_hid H
      obtain rfl := ret_hid H
      go_wp2_with fail
      go_ret
      exact ⟨rfl, HBwt_8.out⟩
    | true =>
      replace H := ite_t H
      replace H := bind_hid H
      obtain ⟨t_13, qt_13, H⟩ := H
      go_wp2_with fail
      go_at_call 43
      refine (Go.Proofs.YtdgbigkcophjoaaDoor.GsL5Gauge.C (x_high)  _    qt_13).mono ?_
      rintro e_t_13 wt_13 ⟨rfl, bt_13⟩
      have HBwt_13 := Lib.hid (Below.step HBwt_8.out bt_13)
      replace kx_0_0 := cell_below bt_13 kx_0_0
      replace kx_0_1 := cell_below bt_13 kx_0_1
      replace kx_0_2 := cell_below bt_13 kx_0_2
      replace kx_0_3 := cell_below bt_13 kx_0_3
      clear bt_13
      replace H := app_hid H
      obtain rfl := ret_hid H
      go_wp2_with fail
      go_ret
      exact ⟨rfl, HBwt_13.out⟩
end Go.Proofs.YtdgbigkcophjoaaDoor.GsL5One

/- loop.example/g01062/spec.l5Good as a plain function, and the contract of the program's: where the plain one has an answer, the program has it. Conditions: slices read as lists. -/
namespace Go.Proofs.YtdgbigkcophjoaaDoor.GsL5Good
set_option linter.unusedVariables false
set_option linter.unusedSimpArgs false
open Go.RowKit
open Go.Proofs.YtdgbigkcophjoaaDoor.Rowed Go.Proofs.YtdgbigkcophjoaaDoor.Turn Go.Proofs.YtdgbigkcophjoaaDoor.Aid Go.Proofs.YtdgbigkcophjoaaDoor.GoP Go.Proofs.YtdgbigkcophjoaaDoor.GoM

def l0 (list : (List Go.Proofs.YtdgbigkcophjoaaDoor.PComb.Comb)) (k0 : Nat) (s : Unit) (nx0 bk0 : Unit → Option (Bool)) : Option (Bool) :=
  
  Option.bind (idx list (k0 : Int)) fun (yt_8 : Go.Proofs.YtdgbigkcophjoaaDoor.PComb.Comb) =>
  unComb yt_8 fun (t_8_id : Int) (t_8_wide : Int) (t_8_high : Int) (t_8_line : Bool) =>
  Option.bind (Go.Proofs.YtdgbigkcophjoaaDoor.GsL5One.P (Go.Proofs.YtdgbigkcophjoaaDoor.PComb.Comb.mk t_8_id t_8_wide t_8_high t_8_line)) fun (t_10 : Bool) =>
  letK (!t_10) fun (t_11 : Bool) =>
  joinK (fun (t_29 : Bool) =>
  iteK t_29
  (some false)
  (appK nx0 ())) fun jt_29 => iteK t_11 (appK jt_29 true) (letK (decide (0 < (k0 : Int))) fun (t_14 : Bool) =>
  joinK (fun (t_28 : Bool) =>
  appK jt_29 t_28) fun jt_28 => iteK t_14 (letK (IntKind.i64.wrap ((k0 : Int) - 1)) fun (t_18 : Int) =>
  Option.bind (idx list t_18) fun (yt_19 : Go.Proofs.YtdgbigkcophjoaaDoor.PComb.Comb) =>
  unComb yt_19 fun (t_19_id : Int) (t_19_wide : Int) (t_19_high : Int) (t_19_line : Bool) =>
  Option.bind (idx list (k0 : Int)) fun (yt_24 : Go.Proofs.YtdgbigkcophjoaaDoor.PComb.Comb) =>
  unComb yt_24 fun (t_24_id : Int) (t_24_wide : Int) (t_24_high : Int) (t_24_line : Bool) =>
  letK (decide (t_24_id ≤ t_19_id)) fun (t_27 : Bool) =>
  appK jt_28 t_27) (appK jt_28 false))

def e0 (list : (List Go.Proofs.YtdgbigkcophjoaaDoor.PComb.Comb)) (s : Unit) : Option (Bool) :=
  
  letK (decide ((list.length : Int) ≤ 10)) fun (t_36 : Bool) =>
  some t_36

def P (list : (List Go.Proofs.YtdgbigkcophjoaaDoor.PComb.Comb)) : Option (Bool) :=
  cntK (l0 list) (list.length) 0 () (e0 list)

set_option maxRecDepth 100000 in
set_option maxHeartbeats 2000000 in
theorem C (list : (List Go.Proofs.YtdgbigkcophjoaaDoor.PComb.Comb)) (A0 : Option Addr) (c0 : Nat)  (w : World) (M0 : Hid (Cells w 4 A0 list.length (Go.Proofs.YtdgbigkcophjoaaDoor.PComb.flat list))) (N0 : Hid (list.length ≤ 9223372036854775807))  {r : Bool} (H : Hid (P list = some r)) :
    Calls Tryd.prog 38 #[.slice A0 list.length c0] w (Gives (.bool r) w) := by
  have HB := Lib.hid (Below.refl w.heap.size w)
  unfold P at H
  have N0o := N0.out
  go_enter Tryd.func38, Tryd.ntmps38
  go_wp2_with fail
  go_loopg [3] (list.length) (fun m_ v3_ wr => ∃ (k0 : Nat) , k0 + m_ = list.length ∧ v3_ = .int .i64 (k0 : Int) ∧ Hid (cntK (l0 list) m_ k0 () (e0 list) = some r) ∧ Hid (Below w.heap.size w wr))
  case atStart => exact ⟨0, by omega, rfl, H, HB⟩
  case round =>
    obtain ⟨k0, hkm0, rfl, H, HBwr0⟩ := hrel
    rename World => wr0
    cases gk with
    | zero =>
      obtain rfl : k0 = list.length := by omega
      have hc0 : decide (((list.length : Nat) : Int) < ((list.length : Nat) : Int)) = false := by simp
      replace H := cnt_zero H
      unfold e0 at H
      replace H := let_hid H
      obtain ⟨t_36, ht_36, H⟩ := H
      obtain rfl := ret_hid H
      go_wp2_with fail
      go_ret
      exact ⟨rfl, HBwr0.out⟩
    | succ m0 =>
      have hlt0 : k0 < list.length := by omega
      have hc0 : decide ((k0 : Int) < ((list.length : Nat) : Int)) = true := by simp; omega
      replace H := cnt_succ H
      unfold l0 at H
      go_wp2_with fail
      replace H := idx_hid H
      obtain ⟨nt_8, yt_8, et_8, lt_8, gt_8, H⟩ := H
      obtain rfl : k0 = nt_8 := by omega
      clear et_8
      obtain ⟨t_8_id, t_8_wide, t_8_high, t_8_line⟩ := yt_8
      replace H := unComb_hid H
      obtain ⟨ab_t_8, ao_t_8, zt_8, At_8, z_t_8, ct_8_0, ct_8_1, ct_8_2, ct_8_3⟩ := Go.Proofs.YtdgbigkcophjoaaDoor.OComb.at_ M0.out lt_8
      obtain rfl := Option.some.inj (gt_8.out.symm.trans z_t_8)
      subst At_8
      have ltt_8 := cell_lt ct_8_0
      replace ct_8_0 := cell_below HBwr0.out ct_8_0
      replace ct_8_1 := cell_below HBwr0.out ct_8_1
      replace ct_8_2 := cell_below HBwr0.out ct_8_2
      replace ct_8_3 := cell_below HBwr0.out ct_8_3
      clear z_t_8
      have b0t_8 : (0 : Int) ≤ (k0 : Int) := by omega
      have b1t_8 : (k0 : Int) < ((list.length : Nat) : Int) := by omega
      have b2t_8 : ((k0 : Int)).toNat = k0 := by omega
      have Hct_8_0 := Lib.hid ct_8_0
      replace ct_8_0 := cell_regrown ct_8_0
      have Hct_8_1 := Lib.hid ct_8_1
      replace ct_8_1 := cell_regrown ct_8_1
      have Hct_8_2 := Lib.hid ct_8_2
      replace ct_8_2 := cell_regrown ct_8_2
      have Hct_8_3 := Lib.hid ct_8_3
      replace ct_8_3 := cell_regrown ct_8_3
      replace H := bind_hid H
      obtain ⟨t_10, qt_10, H⟩ := H
      have nt_10 : ∀ d os, Calls Tryd.prog 48 #[.agg #[.int .i64 t_8_id, .int .i64 t_8_wide, .int .i64 t_8_high, .bool t_8_line]] (Go.Sort.grow (redrawn wr0 d) os) fun e w'' => e = .returned (.bool t_10) ∧ ∃ p : Regrown, w'' = Go.Sort.grow (redrawn wr0 p.d) p.os := fun d os => Calls.regrown_of (Go.Proofs.YtdgbigkcophjoaaDoor.GsL5One.C ((Go.Proofs.YtdgbigkcophjoaaDoor.PComb.Comb.mk t_8_id t_8_wide t_8_high t_8_line))  _    qt_10)
      cases t_10 with
      | false =>
        replace H := let_hid H
        obtain ⟨t_11, ht_11, H⟩ := H
        obtain rfl : t_11 = true := ht_11.symm
        replace H := join_hid H
        replace H := ite_t H
        replace H := app_hid H
        refine wp_region_quiet_below (by kernel_rfl) (by kernel_rfl) ?_
        repeat (go_big_quiet_step (first | (go_at_call 48; exact nt_10 _ _)))
        refine wpQuiet_nil ?_
        intro Y4 hY4
        replace hY4 := below_class hY4
        clear nt_10
        replace ct_8_0 := Hct_8_0.out
        clear Hct_8_0
        replace ct_8_1 := Hct_8_1.out
        clear Hct_8_1
        replace ct_8_2 := Hct_8_2.out
        clear Hct_8_2
        replace ct_8_3 := Hct_8_3.out
        clear Hct_8_3
        have HBY4 := Lib.hid (Below.step HBwr0.out hY4)
        replace ct_8_0 := cell_below hY4 ct_8_0
        replace ct_8_1 := cell_below hY4 ct_8_1
        replace ct_8_2 := cell_below hY4 ct_8_2
        replace ct_8_3 := cell_below hY4 ct_8_3
        clear hY4
        replace H := ite_t H
        obtain rfl := ret_hid H
        go_wp2_with fail
        go_ret
        exact ⟨rfl, HBY4.out⟩
      | true =>
        replace H := let_hid H
        obtain ⟨t_11, ht_11, H⟩ := H
        obtain rfl : t_11 = false := ht_11.symm
        replace H := join_hid H
        replace H := ite_f H
        replace H := let_hid H
        obtain ⟨t_14, ht_14, H⟩ := H
        replace H := join_hid H
        cases t_14 with
        | false =>
          have nht_14 : ¬ (0 < k0) := by have := of_decide_eq_false ht_14; omega
          replace H := ite_f H
          replace H := app_hid H
          replace H := app_hid H
          refine wp_region_quiet_below (by kernel_rfl) (by kernel_rfl) ?_
          repeat (go_big_quiet_step (first | (go_at_call 48; exact nt_10 _ _)))
          refine wpQuiet_nil ?_
          intro Y4 hY4
          replace hY4 := below_class hY4
          clear nt_10
          replace ct_8_0 := Hct_8_0.out
          clear Hct_8_0
          replace ct_8_1 := Hct_8_1.out
          clear Hct_8_1
          replace ct_8_2 := Hct_8_2.out
          clear Hct_8_2
          replace ct_8_3 := Hct_8_3.out
          clear Hct_8_3
          have HBY4 := Lib.hid (Below.step HBwr0.out hY4)
          replace ct_8_0 := cell_below hY4 ct_8_0
          replace ct_8_1 := cell_below hY4 ct_8_1
          replace ct_8_2 := cell_below hY4 ct_8_2
          replace ct_8_3 := cell_below hY4 ct_8_3
          clear hY4
          replace H := ite_f H
          replace H := app_hid H
          go_wp2_with fail
          go_roundg m0
          case measure => omega
          case rel => exact ⟨k0 + 1, by omega, by go_num, H, HBY4⟩
        | true =>
          have nht_14 : 0 < k0 := by have := of_decide_eq_true ht_14; omega
          replace H := ite_t H
          replace H := let_hid H
          obtain ⟨t_18, ht_18, H⟩ := H
          replace H := idx_hid H
          obtain ⟨nt_19, yt_19, et_19, lt_19, gt_19, H⟩ := H
          subst et_19
          obtain ⟨t_19_id, t_19_wide, t_19_high, t_19_line⟩ := yt_19
          replace H := unComb_hid H
          obtain ⟨ab_t_19, ao_t_19, zt_19, At_19, z_t_19, ct_19_0, ct_19_1, ct_19_2, ct_19_3⟩ := Go.Proofs.YtdgbigkcophjoaaDoor.OComb.at_ M0.out lt_19
          obtain rfl := Option.some.inj (gt_19.out.symm.trans z_t_19)
          simp only [Option.some.injEq, Addr.mk.injEq] at At_19
          obtain ⟨rfl, rfl, _⟩ := At_19
          have ltt_19 := cell_lt ct_19_0
          replace ct_19_0 := cell_below HBwr0.out ct_19_0
          replace ct_19_1 := cell_below HBwr0.out ct_19_1
          replace ct_19_2 := cell_below HBwr0.out ct_19_2
          replace ct_19_3 := cell_below HBwr0.out ct_19_3
          clear z_t_19
          have b0t_19 : (0 : Int) ≤ (nt_19 : Int) := by omega
          have b1t_19 : (nt_19 : Int) < ((list.length : Nat) : Int) := by omega
          have b2t_19 : ((nt_19 : Int)).toNat = nt_19 := by omega
          have Hct_19_0 := Lib.hid ct_19_0
          replace ct_19_0 := cell_regrown ct_19_0
          have Hct_19_1 := Lib.hid ct_19_1
          replace ct_19_1 := cell_regrown ct_19_1
          have Hct_19_2 := Lib.hid ct_19_2
          replace ct_19_2 := cell_regrown ct_19_2
          have Hct_19_3 := Lib.hid ct_19_3
          replace ct_19_3 := cell_regrown ct_19_3
          replace H := idx_hid H
          obtain ⟨nt_24, yt_24, et_24, lt_24, gt_24, H⟩ := H
          obtain rfl : k0 = nt_24 := by omega
          clear et_24
          obtain rfl := Option.some.inj (gt_8.out.symm.trans gt_24.out)
          clear gt_24 lt_24
          replace H := unComb_hid H
          replace H := let_hid H
          obtain ⟨t_27, ht_27, H⟩ := H
          replace H := app_hid H
          replace H := app_hid H
          refine wp_region_quiet_below (by kernel_rfl) (by kernel_rfl) ?_
          repeat (go_big_quiet_step (first | (go_at_call 48; exact nt_10 _ _)))
          refine wpQuiet_nil ?_
          intro Y4 hY4
          replace hY4 := below_class hY4
          clear nt_10
          replace ct_8_0 := Hct_8_0.out
          clear Hct_8_0
          replace ct_8_1 := Hct_8_1.out
          clear Hct_8_1
          replace ct_8_2 := Hct_8_2.out
          clear Hct_8_2
          replace ct_8_3 := Hct_8_3.out
          clear Hct_8_3
          replace ct_19_0 := Hct_19_0.out
          clear Hct_19_0
          replace ct_19_1 := Hct_19_1.out
          clear Hct_19_1
          replace ct_19_2 := Hct_19_2.out
          clear Hct_19_2
          replace ct_19_3 := Hct_19_3.out
          clear Hct_19_3
          have HBY4 := Lib.hid (Below.step HBwr0.out hY4)
          replace ct_8_0 := cell_below hY4 ct_8_0
          replace ct_8_1 := cell_below hY4 ct_8_1
          replace ct_8_2 := cell_below hY4 ct_8_2
          replace ct_8_3 := cell_below hY4 ct_8_3
          replace ct_19_0 := cell_below hY4 ct_19_0
          replace ct_19_1 := cell_below hY4 ct_19_1
          replace ct_19_2 := cell_below hY4 ct_19_2
          replace ct_19_3 := cell_below hY4 ct_19_3
          clear hY4
          cases t_27 with
          | false =>
            replace H := ite_f H
            replace H := app_hid H
            go_wp2_with fail
            go_roundg m0
            case measure => omega
            case rel => exact ⟨k0 + 1, by omega, by go_num, H, HBY4⟩
          | true =>
            replace H := ite_t H
            obtain rfl := ret_hid H
            go_wp2_with fail
            go_ret
            exact ⟨rfl, HBY4.out⟩
end Go.Proofs.YtdgbigkcophjoaaDoor.GsL5Good

/- loop.example/g01062/spec.l5Asked as a plain function, and the contract of the program's: where the plain one has an answer, the program has it. Conditions: slices read as lists. -/
namespace Go.Proofs.YtdgbigkcophjoaaDoor.GsL5Asked
set_option linter.unusedVariables false
set_option linter.unusedSimpArgs false
open Go.RowKit
open Go.Proofs.YtdgbigkcophjoaaDoor.Rowed Go.Proofs.YtdgbigkcophjoaaDoor.Turn Go.Proofs.YtdgbigkcophjoaaDoor.Aid Go.Proofs.YtdgbigkcophjoaaDoor.GoP Go.Proofs.YtdgbigkcophjoaaDoor.GoM

def P (list : (List Go.Proofs.YtdgbigkcophjoaaDoor.PComb.Comb)) (wide : Int) (high : Int) (off : Int) : Option (Bool) :=
  Option.bind (Go.Proofs.YtdgbigkcophjoaaDoor.GsL5Good.P list) fun (t_2 : Bool) =>
  joinK (fun (t_10 : Bool) =>
  joinK (fun (t_18 : Bool) =>
  joinK (fun (t_22 : Bool) =>
  some t_22) fun jt_22 => iteK t_18 (Option.bind (Go.Proofs.YtdgbigkcophjoaaDoor.GsL1In.P off 0 100) fun (t_21 : Bool) =>
  appK jt_22 t_21) (appK jt_22 false)) fun jt_18 => iteK t_10 (letK (high == 0) fun (t_13 : Bool) =>
  joinK (fun (t_17 : Bool) =>
  appK jt_18 t_17) fun jt_17 => iteK t_13 (appK jt_17 true) (Option.bind (Go.Proofs.YtdgbigkcophjoaaDoor.GsL5Gauge.P high) fun (t_16 : Bool) =>
  appK jt_17 t_16)) (appK jt_18 false)) fun jt_10 => iteK t_2 (letK (wide == 0) fun (t_5 : Bool) =>
  joinK (fun (t_9 : Bool) =>
  appK jt_10 t_9) fun jt_9 => iteK t_5 (appK jt_9 true) (Option.bind (Go.Proofs.YtdgbigkcophjoaaDoor.GsL5Gauge.P wide) fun (t_8 : Bool) =>
  appK jt_9 t_8)) (appK jt_10 false)

set_option maxRecDepth 100000 in
set_option maxHeartbeats 2000000 in
theorem C (list : (List Go.Proofs.YtdgbigkcophjoaaDoor.PComb.Comb)) (wide : Int) (high : Int) (off : Int) (A0 : Option Addr) (c0 : Nat)  (w : World) (M0 : Hid (Cells w 4 A0 list.length (Go.Proofs.YtdgbigkcophjoaaDoor.PComb.flat list))) (N0 : Hid (list.length ≤ 9223372036854775807))  {r : Bool} (H : Hid (P list wide high off = some r)) :
    Calls Tryd.prog 33 #[.slice A0 list.length c0, .int .i64 wide, .int .i64 high, .int .i64 off] w (Gives (.bool r) w) := by
  have HB := Lib.hid (Below.refl w.heap.size w)
  unfold P at H
  have N0o := N0.out
  go_enter Tryd.func33, Tryd.ntmps33
  replace H := bind_hid H
  obtain ⟨t_2, qt_2, H⟩ := H
  go_wp2_with fail
  go_at_call 38
  refine (Go.Proofs.YtdgbigkcophjoaaDoor.GsL5Good.C (list) A0 c0 _   (Lib.hid (Cells.below M0.out HB.out)) N0 qt_2).mono ?_
  rintro e_t_2 wt_2 ⟨rfl, bt_2⟩
  have HBwt_2 := Lib.hid (Below.step HB.out bt_2)
  clear bt_2
  replace H := join_hid H
  cases t_2 with
  | false =>
    replace H := ite_f H
    replace H := app_hid H
    replace H := join_hid H
    replace H := ite_f H
    replace H := app_hid H
    replace H := join_hid H
    replace H := ite_f H
    replace H := app_hid H
    obtain rfl := ret_hid H
    go_wp2_with fail
    go_ret
    exact ⟨rfl, HBwt_2.out⟩
  | true =>
    replace H := ite_t H
    replace H := let_hid H
    obtain ⟨t_5, ht_5, H⟩ := H
    replace H := join_hid H
    cases t_5 with
    | false =>
      replace H := ite_f H
      replace H := bind_hid H
      obtain ⟨t_8, qt_8, H⟩ := H
      go_wp2_with fail
      go_at_call 43
      refine (Go.Proofs.YtdgbigkcophjoaaDoor.GsL5Gauge.C (wide)  _    qt_8).mono ?_
      rintro e_t_8 wt_8 ⟨rfl, bt_8⟩
      have HBwt_8 := Lib.hid (Below.step HBwt_2.out bt_8)
      clear bt_8
      replace H := app_hid H
      replace H := app_hid H
      replace H := join_hid H
      cases t_8 with
      | false =>
        replace H := ite_f H
        replace H := app_hid H
        replace H := join_hid H
        replace H := ite_f H
        replace H := app_hid H
        obtain rfl := ret_hid H
        go_wp2_with fail
        go_ret
        exact ⟨rfl, HBwt_8.out⟩
      | true =>
        replace H := ite_t H
        replace H := let_hid H
        obtain ⟨t_13, ht_13, H⟩ := H
        replace H := join_hid H
        cases t_13 with
        | false =>
          replace H := ite_f H
          replace H := bind_hid H
          obtain ⟨t_16, qt_16, H⟩ := H
          go_wp2_with fail
          go_at_call 43
          refine (Go.Proofs.YtdgbigkcophjoaaDoor.GsL5Gauge.C (high)  _    qt_16).mono ?_
          rintro e_t_16 wt_16 ⟨rfl, bt_16⟩
          have HBwt_16 := Lib.hid (Below.step HBwt_8.out bt_16)
          clear bt_16
          replace H := app_hid H
          replace H := app_hid H
          replace H := join_hid H
          cases t_16 with
          | false =>
            replace H := ite_f H
            replace H := app_hid H
            obtain rfl := ret_hid H
            go_wp2_with fail
            go_ret
            exact ⟨rfl, HBwt_16.out⟩
          | true =>
            replace H := ite_t H
            replace H := bind_hid H
            obtain ⟨t_21, qt_21, H⟩ := H
            go_wp2_with fail
            go_at_call 56
            refine (Go.Proofs.YtdgbigkcophjoaaDoor.GsL1In.C (off) (0) (100)  _    qt_21).mono ?_
            rintro e_t_21 wt_21 ⟨rfl, bt_21⟩
            have HBwt_21 := Lib.hid (Below.step HBwt_16.out bt_21)
            clear bt_21
            replace H := app_hid H
            obtain rfl := ret_hid H
            go_wp2_with fail
            go_ret
            exact ⟨rfl, HBwt_21.out⟩
        | true =>
          replace H := ite_t H
          replace H := app_hid H
          replace H := app_hid H
          replace H := join_hid H
          replace H := ite_t H
          replace H := bind_hid H
          obtain ⟨t_21, qt_21, H⟩ := H
          go_wp2_with fail
          go_at_call 56
          refine (Go.Proofs.YtdgbigkcophjoaaDoor.GsL1In.C (off) (0) (100)  _    qt_21).mono ?_
          rintro e_t_21 wt_21 ⟨rfl, bt_21⟩
          have HBwt_21 := Lib.hid (Below.step HBwt_8.out bt_21)
          clear bt_21
          replace H := app_hid H
          obtain rfl := ret_hid H
          go_wp2_with fail
          go_ret
          exact ⟨rfl, HBwt_21.out⟩
    | true =>
      replace H := ite_t H
      replace H := app_hid H
      replace H := app_hid H
      replace H := join_hid H
      replace H := ite_t H
      replace H := let_hid H
      obtain ⟨t_13, ht_13, H⟩ := H
      replace H := join_hid H
      cases t_13 with
      | false =>
        replace H := ite_f H
        replace H := bind_hid H
        obtain ⟨t_16, qt_16, H⟩ := H
        go_wp2_with fail
        go_at_call 43
        refine (Go.Proofs.YtdgbigkcophjoaaDoor.GsL5Gauge.C (high)  _    qt_16).mono ?_
        rintro e_t_16 wt_16 ⟨rfl, bt_16⟩
        have HBwt_16 := Lib.hid (Below.step HBwt_2.out bt_16)
        clear bt_16
        replace H := app_hid H
        replace H := app_hid H
        replace H := join_hid H
        cases t_16 with
        | false =>
          replace H := ite_f H
          replace H := app_hid H
          obtain rfl := ret_hid H
          go_wp2_with fail
          go_ret
          exact ⟨rfl, HBwt_16.out⟩
        | true =>
          replace H := ite_t H
          replace H := bind_hid H
          obtain ⟨t_21, qt_21, H⟩ := H
          go_wp2_with fail
          go_at_call 56
          refine (Go.Proofs.YtdgbigkcophjoaaDoor.GsL1In.C (off) (0) (100)  _    qt_21).mono ?_
          rintro e_t_21 wt_21 ⟨rfl, bt_21⟩
          have HBwt_21 := Lib.hid (Below.step HBwt_16.out bt_21)
          clear bt_21
          replace H := app_hid H
          obtain rfl := ret_hid H
          go_wp2_with fail
          go_ret
          exact ⟨rfl, HBwt_21.out⟩
      | true =>
        replace H := ite_t H
        replace H := app_hid H
        replace H := app_hid H
        replace H := join_hid H
        replace H := ite_t H
        replace H := bind_hid H
        obtain ⟨t_21, qt_21, H⟩ := H
        go_wp2_with fail
        go_at_call 56
        refine (Go.Proofs.YtdgbigkcophjoaaDoor.GsL1In.C (off) (0) (100)  _    qt_21).mono ?_
        rintro e_t_21 wt_21 ⟨rfl, bt_21⟩
        have HBwt_21 := Lib.hid (Below.step HBwt_2.out bt_21)
        clear bt_21
        replace H := app_hid H
        obtain rfl := ret_hid H
        go_wp2_with fail
        go_ret
        exact ⟨rfl, HBwt_21.out⟩
end Go.Proofs.YtdgbigkcophjoaaDoor.GsL5Asked

/- loop.example/g01062/spec.l5Near as a plain function, and the contract of the program's: where the plain one has an answer, the program has it. Conditions: slices read as lists. -/
namespace Go.Proofs.YtdgbigkcophjoaaDoor.GsL5Near
set_option linter.unusedVariables false
set_option linter.unusedSimpArgs false
open Go.RowKit
open Go.Proofs.YtdgbigkcophjoaaDoor.Rowed Go.Proofs.YtdgbigkcophjoaaDoor.Turn Go.Proofs.YtdgbigkcophjoaaDoor.Aid Go.Proofs.YtdgbigkcophjoaaDoor.GoP Go.Proofs.YtdgbigkcophjoaaDoor.GoM

def P (gauge : Int) (measured : Int) (off : Int) : Option (Bool) :=
  letK (measured == 0) fun (t_2 : Bool) =>
  joinK (fun (t_12 : Bool) =>
  some t_12) fun jt_12 => iteK t_2 (appK jt_12 true) (letK (IntKind.i64.wrap (measured - off)) fun (t_7 : Int) =>
  letK (IntKind.i64.wrap (measured + off)) fun (t_10 : Int) =>
  Option.bind (Go.Proofs.YtdgbigkcophjoaaDoor.GsL1In.P gauge t_7 t_10) fun (t_11 : Bool) =>
  appK jt_12 t_11)

set_option maxRecDepth 100000 in
set_option maxHeartbeats 2000000 in
theorem C (gauge : Int) (measured : Int) (off : Int)   (w : World)   {r : Bool} (H : Hid (P gauge measured off = some r)) :
    Calls Tryd.prog 57 #[.int .i64 gauge, .int .i64 measured, .int .i64 off] w (Gives (.bool r) w) := by
  have HB := Lib.hid (Below.refl w.heap.size w)
  unfold P at H
  go_enter Tryd.func57, Tryd.ntmps57
  replace H := let_hid H
  obtain ⟨t_2, ht_2, H⟩ := H
  replace H := join_hid H
  cases t_2 with
  | false =>
    replace H := ite_f H
    replace H := let_hid H
    obtain ⟨t_7, ht_7, H⟩ := H
    replace H := let_hid H
    obtain ⟨t_10, ht_10, H⟩ := H
    replace H := bind_hid H
    obtain ⟨t_11, qt_11, H⟩ := H
    go_wp2_with fail
    go_at_call 56
    refine (Go.Proofs.YtdgbigkcophjoaaDoor.GsL1In.C (gauge) (t_7) (t_10)  _    qt_11).mono ?_
    rintro e_t_11 wt_11 ⟨rfl, bt_11⟩
    have HBwt_11 := Lib.hid (Below.step HB.out bt_11)
    clear bt_11
    replace H := app_hid H
    obtain rfl := ret_hid H
    go_wp2_with fail
    go_ret
    exact ⟨rfl, HBwt_11.out⟩
  | true =>
    replace H := ite_t H
    replace H := app_hid H
    obtain rfl := ret_hid H
    go_wp2_with fail
    go_ret
    exact ⟨rfl, HB.out⟩
end Go.Proofs.YtdgbigkcophjoaaDoor.GsL5Near

/- loop.example/g01062/spec.l5Match as a plain function, and the contract of the program's: where the plain one has an answer, the program has it. Conditions: slices read as lists. -/
namespace Go.Proofs.YtdgbigkcophjoaaDoor.GsL5Match
set_option linter.unusedVariables false
set_option linter.unusedSimpArgs false
open Go.RowKit
open Go.Proofs.YtdgbigkcophjoaaDoor.Rowed Go.Proofs.YtdgbigkcophjoaaDoor.Turn Go.Proofs.YtdgbigkcophjoaaDoor.Aid Go.Proofs.YtdgbigkcophjoaaDoor.GoP Go.Proofs.YtdgbigkcophjoaaDoor.GoM

def P (x : Go.Proofs.YtdgbigkcophjoaaDoor.PComb.Comb) (wide : Int) (high : Int) (off : Int) : Option (Bool) :=
  unComb x fun (x_id : Int) (x_wide : Int) (x_high : Int) (x_line : Bool) =>
  Option.bind (Go.Proofs.YtdgbigkcophjoaaDoor.GsL5Near.P x_wide wide off) fun (t_6 : Bool) =>
  joinK (fun (t_13 : Bool) =>
  some t_13) fun jt_13 => iteK t_6 (Option.bind (Go.Proofs.YtdgbigkcophjoaaDoor.GsL5Near.P x_high high off) fun (t_12 : Bool) =>
  appK jt_13 t_12) (appK jt_13 false)

set_option maxRecDepth 100000 in
set_option maxHeartbeats 2000000 in
theorem C (x : Go.Proofs.YtdgbigkcophjoaaDoor.PComb.Comb) (wide : Int) (high : Int) (off : Int)   (w : World)   {r : Bool} (H : Hid (P x wide high off = some r)) :
    Calls Tryd.prog 34 #[x.val, .int .i64 wide, .int .i64 high, .int .i64 off] w (Gives (.bool r) w) := by
  have HB := Lib.hid (Below.refl w.heap.size w)
  unfold P at H
  obtain ⟨x_id, x_wide, x_high, x_line⟩ := x
  replace H := unComb_hid H
  unfold Go.Proofs.YtdgbigkcophjoaaDoor.PComb.Comb.val
  go_enter Tryd.func34, Tryd.ntmps34
  obtain ⟨w_x_0, hw_x_0⟩ : ∃ x, w.alloc (.cells #[.int .i64 x_id, .int .i64 x_wide, .int .i64 x_high, .bool x_line] 32) = x := ⟨_, rfl⟩
  have bw_x_0 : Below w.heap.size w w_x_0 := by rw [← hw_x_0]; exact (Below.refl _ _).alloc (Nat.le_refl _) _
  have HBw_x_0 := Lib.hid (Below.step HB.out bw_x_0)
  clear bw_x_0
  have kx_0_0 : w_x_0.cell? ⟨w.heap.size, 0, none⟩ = some (.int .i64 x_id) := by rw [← hw_x_0]; exact box_new _ _ _ 0 _ rfl
  have kx_0_1 : w_x_0.cell? ⟨w.heap.size, 1, none⟩ = some (.int .i64 x_wide) := by rw [← hw_x_0]; exact box_new _ _ _ 1 _ rfl
  have kx_0_2 : w_x_0.cell? ⟨w.heap.size, 2, none⟩ = some (.int .i64 x_high) := by rw [← hw_x_0]; exact box_new _ _ _ 2 _ rfl
  have kx_0_3 : w_x_0.cell? ⟨w.heap.size, 3, none⟩ = some (.bool x_line) := by rw [← hw_x_0]; exact box_new _ _ _ 3 _ rfl
  replace H := bind_hid H
  obtain ⟨t_6, qt_6, H⟩ := H
  go_wp2_with fail
  go_at_call 57
  refine (Go.Proofs.YtdgbigkcophjoaaDoor.GsL5Near.C (x_wide) (wide) (off)  _    qt_6).mono ?_
  rintro e_t_6 wt_6 ⟨rfl, bt_6⟩
  have HBwt_6 := Lib.hid (Below.step HBw_x_0.out bt_6)
  replace kx_0_0 := cell_below bt_6 kx_0_0
  replace kx_0_1 := cell_below bt_6 kx_0_1
  replace kx_0_2 := cell_below bt_6 kx_0_2
  replace kx_0_3 := cell_below bt_6 kx_0_3
  clear bt_6
  replace H := join_hid H
  cases t_6 with
  | false =>
    replace H := ite_f H
    replace H := app_hid H
    obtain rfl := ret_hid H
    go_wp2_with fail
    go_ret
    exact ⟨rfl, HBwt_6.out⟩
  | true =>
    replace H := ite_t H
    replace H := bind_hid H
    obtain ⟨t_12, qt_12, H⟩ := H
    go_wp2_with fail
    go_at_call 57
    refine (Go.Proofs.YtdgbigkcophjoaaDoor.GsL5Near.C (x_high) (high) (off)  _    qt_12).mono ?_
    rintro e_t_12 wt_12 ⟨rfl, bt_12⟩
    have HBwt_12 := Lib.hid (Below.step HBwt_6.out bt_12)
    replace kx_0_0 := cell_below bt_12 kx_0_0
    replace kx_0_1 := cell_below bt_12 kx_0_1
    replace kx_0_2 := cell_below bt_12 kx_0_2
    replace kx_0_3 := cell_below bt_12 kx_0_3
    clear bt_12
    replace H := app_hid H
    obtain rfl := ret_hid H
    go_wp2_with fail
    go_ret
    exact ⟨rfl, HBwt_12.out⟩
end Go.Proofs.YtdgbigkcophjoaaDoor.GsL5Match

