/- Texts on which the proofs of several laws stand, one behind the other (10 of 14). No condition of their own. -/
import Derived.Test.YtgimcnpkngpmiaaDoorChecked
import Derived.Test.YtgimcnpkngpmiaaDoorX12P1
import Derived.Test.YtgimcnpkngpmiaaDoorX12P2
import Derived.Test.YtgimcnpkngpmiaaDoorX12P3
import Derived.Test.YtgimcnpkngpmiaaDoorX12P9
import Derived.WalkKit
import Derived.WalkSpells
import Derived.WalkLawsBesides
import Derived.BigQuiet
import Derived.OwnWalk
import Derived.Deep.LoopGhost
import Derived.Deep.QuietTactic
import Derived.IntWalk
import Derived.Lib.QuietBelow
import Derived.Test.YtgimcnpkngpmiaaDoorX12P5
import Derived.Test.YtgimcnpkngpmiaaDoorX12P6
import Derived.Test.YtgimcnpkngpmiaaDoorX12P7
import Derived.Test.YtgimcnpkngpmiaaDoorX12P4
/- (*loop.example/g01062/spec.l1Cur).day11 as a plain function, and the contract of the program's: where the plain one has an answer, the program has it. Conditions: slices read as lists. -/
namespace Go.Proofs.YtgimcnpkngpmiaaDoor.GsL1CurDay11
set_option linter.unusedVariables false
set_option linter.unusedSimpArgs false
open Go.RowKit
open Go.Proofs.YtgimcnpkngpmiaaDoor.Rowed Go.Proofs.YtgimcnpkngpmiaaDoor.Turn Go.Proofs.YtgimcnpkngpmiaaDoor.Aid Go.Proofs.YtgimcnpkngpmiaaDoor.GoP Go.Proofs.YtgimcnpkngpmiaaDoor.GoM

def P (c : Go.Proofs.YtgimcnpkngpmiaaDoor.GoC.Tape) (list : (List Go.Proofs.YtgimcnpkngpmiaaDoor.PPostmark.Postmark)) : Option (Int × Go.Proofs.YtgimcnpkngpmiaaDoor.GoC.Tape) :=
  letK ((list.length : Int) == 0) fun (t_3 : Bool) =>
  joinK (fun (st_7 : Bool × Go.Proofs.YtgimcnpkngpmiaaDoor.GoC.Tape) => unp2 st_7 fun t_7 t_7_tp =>
  iteK t_7
  (letK ([0, 150, 4000, (-1), 4001]) fun (t_9 : (List Int)) =>
  bind2 (Go.Proofs.YtgimcnpkngpmiaaDoor.GsL1CurPick.P t_7_tp 24) fun (t_11 : Int) (t_11_tp : Go.Proofs.YtgimcnpkngpmiaaDoor.GoC.Tape) =>
  letK (IntKind.i64.wrap (Int.tdiv t_11 12)) fun (t_12 : Int) =>
  letK (IntKind.i64.wrap (4 + t_12)) fun (t_13 : Int) =>
  guardK ((0 : Int) ≤ t_13 ∧ (t_13 : Int) ≤ (t_9.length : Int)) <|
  letK (List.take (Int.toNat t_13) t_9) fun (t_14 : (List Int)) =>
  bind2 (Go.Proofs.YtgimcnpkngpmiaaDoor.GsL1CurAmong.P t_11_tp t_14) fun (t_15 : Int) (t_15_tp : Go.Proofs.YtgimcnpkngpmiaaDoor.GoC.Tape) =>
  some (t_15, t_15_tp))
  (bind2 (Go.Proofs.YtgimcnpkngpmiaaDoor.GsL1CurPick.P t_7_tp (list.length : Int)) fun (t_21 : Int) (t_21_tp : Go.Proofs.YtgimcnpkngpmiaaDoor.GoC.Tape) =>
  Option.bind (idx list t_21) fun (yt_22 : Go.Proofs.YtgimcnpkngpmiaaDoor.PPostmark.Postmark) =>
  unPostmark yt_22 fun (t_22_id : Int) (t_22_town : ByteArray) (t_22_kind_ : Int) (t_22_first : Int) (t_22_last : Int) (t_22_lost : ByteArray) =>
  letK (IntKind.i64.wrap (t_22_first - 1)) fun (t_31 : Int) =>
  letK (IntKind.i64.wrap (t_22_last + 1)) fun (t_36 : Int) =>
  letK (IntKind.i64.wrap (t_22_first + 5)) fun (t_39 : Int) =>
  letK ([t_22_first, t_31, t_22_last, t_36, t_39]) fun (t_40 : (List Int)) =>
  bind2 (Go.Proofs.YtgimcnpkngpmiaaDoor.GsL1CurAmong.P t_21_tp t_40) fun (t_41 : Int) (t_41_tp : Go.Proofs.YtgimcnpkngpmiaaDoor.GoC.Tape) =>
  Option.bind (Go.Proofs.YtgimcnpkngpmiaaDoor.GsL1Most.P 0 t_41) fun (t_42 : Int) =>
  Option.bind (Go.Proofs.YtgimcnpkngpmiaaDoor.GsL1Least.P 4000 t_42) fun (t_43 : Int) =>
  some (t_43, t_41_tp))) fun jt_7 => iteK t_3 (appK jt_7 (true, c)) (bind2 (Go.Proofs.YtgimcnpkngpmiaaDoor.GsL1CurOne.P c 5) fun (t_6 : Bool) (t_6_tp : Go.Proofs.YtgimcnpkngpmiaaDoor.GoC.Tape) =>
  appK jt_7 (t_6, t_6_tp))

set_option maxRecDepth 100000 in
set_option maxHeartbeats 2000000 in
theorem C (c : Go.Proofs.YtgimcnpkngpmiaaDoor.GoC.Tape) (list : (List Go.Proofs.YtgimcnpkngpmiaaDoor.PPostmark.Postmark)) (A1 : Option Addr) (c1 : Nat)  (g0 : Nat) (Ac0 : Option Addr) (cc0 : Nat) (bc0 : Nat) (w : World) (M1 : Hid (Cells w 6 A1 list.length (Go.Proofs.YtgimcnpkngpmiaaDoor.PPostmark.flat list))) (N1 : Hid (list.length ≤ 9223372036854775807))  (K0 : Hid (Go.Proofs.YtgimcnpkngpmiaaDoor.GoC.CurIs w bc0 g0 Ac0 cc0 c)) (X1 : Hid (0 < list.length → Apart A1 (some ⟨g0, 0, none⟩))) {r : Int} {t_ : Go.Proofs.YtgimcnpkngpmiaaDoor.GoC.Tape} (H : Hid (P c list = some (r, t_))) :
    Calls Tryd.prog 76 #[.pointer (some ⟨g0, 0, none⟩), .slice A1 list.length c1] w (fun e w' => e = .returned (.int .i64 r) ∧ Go.Proofs.YtgimcnpkngpmiaaDoor.GoC.CurIs w' bc0 g0 Ac0 cc0 t_ ∧ w.grownBy w' (Value.slice (some ⟨g0, 0, none⟩) 1 1).ownBlock) := by
  have HB := Lib.hid (Aid.grown_refl w (Value.slice (some ⟨g0, 0, none⟩) 1 1).ownBlock)
  unfold P at H
  have N1o := N1.out
  have L0 : bc0 ≤ w.heap.size := by have := Go.Proofs.YtgimcnpkngpmiaaDoor.GoC.cur_lt K0.out; omega
  obtain ⟨i0_3, hi_3, hz0_3, hz1_3, hz2_3⟩ := Aid.info_parts (P := Tryd.prog) (T := 3) (z := .int .i64 0) (s := 1) (b := 8) (by kernel_rfl)
  go_enter Tryd.func76, Tryd.ntmps76
  replace H := let_hid H
  obtain ⟨t_3, ht_3, H⟩ := H
  replace H := join_hid H
  cases t_3 with
  | false =>
    have nht_3 : ¬ (list.length = 0) := by have := ne_of_beq_false ht_3; omega
    replace H := ite_f H
    replace H := bind2_hid H
    obtain ⟨t_6, t_6_tp, qt_6, H⟩ := H
    go_wp2_with fail
    go_at_call 68
    refine (Go.Proofs.YtgimcnpkngpmiaaDoor.GsL1CurOne.C (c) (5) (g0) (Ac0) (cc0) (bc0) _   K0 qt_6).mono ?_
    rintro e_t_6 wt_6 ⟨rfl, kt_6, gt_6⟩
    have Kt_6 := Lib.hid kt_6
    have Gt_6 : Hid (w.grownBy wt_6 (Value.slice (some ⟨g0, 0, none⟩) 1 1).ownBlock) := Lib.hid gt_6
    clear kt_6 gt_6
    have HBwt_6 := Lib.hid (Aid.grown_tr HB.out Gt_6.out)
    clear K0 Gt_6
    replace H := app_hid H
    replace H := unp2_hid H
    cases t_6 with
    | false =>
      replace H := ite_f H
      replace H := bind2_hid H
      obtain ⟨t_21, t_21_tp, qt_21, H⟩ := H
      go_wp2_with fail
      go_at_call 62
      refine (Go.Proofs.YtgimcnpkngpmiaaDoor.GsL1CurPick.C (t_6_tp) ((list.length : Int)) (g0) (Ac0) (cc0) (bc0) _   Kt_6 qt_21).mono ?_
      rintro e_t_21 wt_21 ⟨rfl, kt_21, gt_21⟩
      have Kt_21 := Lib.hid kt_21
      have Gt_21 : Hid (wt_6.grownBy wt_21 (Value.slice (some ⟨g0, 0, none⟩) 1 1).ownBlock) := Lib.hid gt_21
      clear kt_21 gt_21
      have HBwt_21 := Lib.hid (Aid.grown_tr HBwt_6.out Gt_21.out)
      clear Kt_6 Gt_21
      replace H := idx_hid H
      obtain ⟨nt_22, yt_22, et_22, lt_22, gt_22, H⟩ := H
      subst et_22
      obtain ⟨t_22_id, t_22_town, t_22_kind_, t_22_first, t_22_last, t_22_lost⟩ := yt_22
      replace H := unPostmark_hid H
      obtain ⟨ab_t_22, ao_t_22, zt_22, At_22, z_t_22, ct_22_0, ct_22_1, ct_22_2, ct_22_3, ct_22_4, ct_22_5⟩ := Go.Proofs.YtgimcnpkngpmiaaDoor.OPostmark.at_ M1.out lt_22
      obtain rfl := Option.some.inj (gt_22.out.symm.trans z_t_22)
      subst At_22
      have ltt_22 := cell_lt ct_22_0
      replace ct_22_0 := cell_other ct_22_0 HBwt_21.out (Go.Proofs.YtgimcnpkngpmiaaDoor.GoC.apart_x X1.out (by omega))
      replace ct_22_1 := cell_other ct_22_1 HBwt_21.out (Go.Proofs.YtgimcnpkngpmiaaDoor.GoC.apart_x X1.out (by omega))
      replace ct_22_2 := cell_other ct_22_2 HBwt_21.out (Go.Proofs.YtgimcnpkngpmiaaDoor.GoC.apart_x X1.out (by omega))
      replace ct_22_3 := cell_other ct_22_3 HBwt_21.out (Go.Proofs.YtgimcnpkngpmiaaDoor.GoC.apart_x X1.out (by omega))
      replace ct_22_4 := cell_other ct_22_4 HBwt_21.out (Go.Proofs.YtgimcnpkngpmiaaDoor.GoC.apart_x X1.out (by omega))
      replace ct_22_5 := cell_other ct_22_5 HBwt_21.out (Go.Proofs.YtgimcnpkngpmiaaDoor.GoC.apart_x X1.out (by omega))
      clear z_t_22
      have b0t_22 : (0 : Int) ≤ (nt_22 : Int) := by omega
      have b1t_22 : (nt_22 : Int) < ((list.length : Nat) : Int) := by omega
      have b2t_22 : ((nt_22 : Int)).toNat = nt_22 := by omega
      obtain ⟨w_p_24, hw_p_24⟩ : ∃ x, wt_21.alloc (.cells #[.int .i64 t_22_id, .string t_22_town, .int .i64 t_22_kind_, .int .i64 t_22_first, .int .i64 t_22_last, .string t_22_lost] 39) = x := ⟨_, rfl⟩
      have bw_p_24 : Below wt_21.heap.size wt_21 w_p_24 := by rw [← hw_p_24]; exact (Below.refl _ _).alloc (Nat.le_refl _) _
      have Dp_24_c0 := Lib.hid (Go.Proofs.YtgimcnpkngpmiaaDoor.GoC.apart_cur Kt_21.out)
      have HBw_p_24 := Lib.hid (grown_below HBwt_21.out bw_p_24)
      have ct_22_0__543 := cell_below bw_p_24 ct_22_0
      have ct_22_1__544 := cell_below bw_p_24 ct_22_1
      have ct_22_2__545 := cell_below bw_p_24 ct_22_2
      have ct_22_3__546 := cell_below bw_p_24 ct_22_3
      have ct_22_4__547 := cell_below bw_p_24 ct_22_4
      have ct_22_5__548 := cell_below bw_p_24 ct_22_5
      replace Kt_21 := Lib.hid (Go.Proofs.YtgimcnpkngpmiaaDoor.GoC.cur_below Kt_21.out bw_p_24)
      clear bw_p_24
      have kp_24_0 : w_p_24.cell? ⟨wt_21.heap.size, 0, none⟩ = some (.int .i64 t_22_id) := by rw [← hw_p_24]; exact box_new _ _ _ 0 _ rfl
      have kp_24_1 : w_p_24.cell? ⟨wt_21.heap.size, 1, none⟩ = some (.string t_22_town) := by rw [← hw_p_24]; exact box_new _ _ _ 1 _ rfl
      have kp_24_2 : w_p_24.cell? ⟨wt_21.heap.size, 2, none⟩ = some (.int .i64 t_22_kind_) := by rw [← hw_p_24]; exact box_new _ _ _ 2 _ rfl
      have kp_24_3 : w_p_24.cell? ⟨wt_21.heap.size, 3, none⟩ = some (.int .i64 t_22_first) := by rw [← hw_p_24]; exact box_new _ _ _ 3 _ rfl
      have kp_24_4 : w_p_24.cell? ⟨wt_21.heap.size, 4, none⟩ = some (.int .i64 t_22_last) := by rw [← hw_p_24]; exact box_new _ _ _ 4 _ rfl
      have kp_24_5 : w_p_24.cell? ⟨wt_21.heap.size, 5, none⟩ = some (.string t_22_lost) := by rw [← hw_p_24]; exact box_new _ _ _ 5 _ rfl
      replace H := let_hid H
      obtain ⟨t_31, ht_31, H⟩ := H
      replace H := let_hid H
      obtain ⟨t_36, ht_36, H⟩ := H
      replace H := let_hid H
      obtain ⟨t_39, ht_39, H⟩ := H
      replace H := let_hid H
      obtain ⟨t_40, ht_40, H⟩ := H
      obtain ⟨w_t_40, hw_t_40⟩ : ∃ x, w_p_24.alloc (.cells #[.int .i64 t_22_first, .int .i64 t_31, .int .i64 t_22_last, .int .i64 t_36, .int .i64 t_39] 3) = x := ⟨_, rfl⟩
      have bw_t_40 : Below w_p_24.heap.size w_p_24 w_t_40 := by rw [← hw_t_40]; exact (Below.refl _ _).alloc (Nat.le_refl _) _
      have hs_t_40 := HBw_p_24.out.size
      have nt_40 : t_40.length = 5 := by rw [← ht_40]; rfl
      have Ot_40 : Hid (w_t_40.ownsRow w.heap.size 3 1 (.slice (some ⟨w_p_24.heap.size, 0, none⟩) 5 5) 5 (Go.Proofs.YtgimcnpkngpmiaaDoor.HelpInt.iv t_40)) := by
        rw [← hw_t_40, ← ht_40]
        have e_ : ([.int .i64 t_22_first, .int .i64 t_31, .int .i64 t_22_last, .int .i64 t_36, .int .i64 t_39] : List Value) = (Go.Proofs.YtgimcnpkngpmiaaDoor.HelpInt.iv ([t_22_first, t_31, t_22_last, t_36, t_39] : List Int)) := rfl
        exact Lib.hid (own_laid (n := 5) hs_t_40 e_ rfl (by unfold maxLen; omega))
      clear hs_t_40
      have hht_40 := Lib.hid ht_40
      clear ht_40
      replace nt_40 := Lib.hid nt_40
      have Dt_40_c0 := Lib.hid (Go.Proofs.YtgimcnpkngpmiaaDoor.GoC.apart_cur Kt_21.out)
      have Dt_40_p_24 := Lib.hid (apart_box kp_24_0)
      have HBw_t_40 := Lib.hid (grown_below HBw_p_24.out bw_t_40)
      have ct_22_0__549 := cell_below bw_t_40 ct_22_0__543
      have ct_22_1__550 := cell_below bw_t_40 ct_22_1__544
      have ct_22_2__551 := cell_below bw_t_40 ct_22_2__545
      have ct_22_3__552 := cell_below bw_t_40 ct_22_3__546
      have ct_22_4__553 := cell_below bw_t_40 ct_22_4__547
      have ct_22_5__554 := cell_below bw_t_40 ct_22_5__548
      have kp_24_0__555 := cell_below bw_t_40 kp_24_0
      have kp_24_1__556 := cell_below bw_t_40 kp_24_1
      have kp_24_2__557 := cell_below bw_t_40 kp_24_2
      have kp_24_3__558 := cell_below bw_t_40 kp_24_3
      have kp_24_4__559 := cell_below bw_t_40 kp_24_4
      have kp_24_5__560 := cell_below bw_t_40 kp_24_5
      replace Kt_21 := Lib.hid (Go.Proofs.YtgimcnpkngpmiaaDoor.GoC.cur_below Kt_21.out bw_t_40)
      clear bw_t_40
      replace H := bind2_hid H
      obtain ⟨t_41, t_41_tp, qt_41, H⟩ := H
      go_wp2_with fail
      clear ct_22_0 ct_22_1 ct_22_2 ct_22_3 ct_22_4 ct_22_5 ct_22_0__543 ct_22_1__544 ct_22_2__545 ct_22_3__546 ct_22_4__547 ct_22_5__548 kp_24_0 kp_24_1 kp_24_2 kp_24_3 kp_24_4 kp_24_5
      have hc_ := nt_40.out
      have hv_ : (Value.slice (some ⟨w_p_24.heap.size, 0, none⟩) 5 5 : Value) = Value.slice (some ⟨w_p_24.heap.size, 0, none⟩) t_40.length 5 := by rw [hc_]
      try rw [hv_]
      replace Ot_40 := Lib.hid (own_len hc_ Ot_40.out)
      clear hc_ hv_
      go_wp2_with fail
      go_at_call 61
      refine (Go.Proofs.YtgimcnpkngpmiaaDoor.GsL1CurAmong.C (t_21_tp) (t_40) (some ⟨w_p_24.heap.size, 0, none⟩) 5 (g0) (Ac0) (cc0) (bc0) _   (Lib.hid (own_cells Ot_40.out)) (Lib.hid (own_max Ot_40.out)) Kt_21 (Lib.hid (fun _ => Dt_40_c0.out)) qt_41).mono ?_
      rintro e_t_41 wt_41 ⟨rfl, kt_41, gt_41⟩
      have Kt_41 := Lib.hid kt_41
      have Gt_41 : Hid (w_t_40.grownBy wt_41 (Value.slice (some ⟨g0, 0, none⟩) 1 1).ownBlock) := Lib.hid gt_41
      clear kt_41 gt_41
      have HBwt_41 := Lib.hid (Aid.grown_tr HBw_t_40.out Gt_41.out)
      replace ct_22_0__549 := cell_other ct_22_0__549 Gt_41.out (Go.Proofs.YtgimcnpkngpmiaaDoor.GoC.apart_x X1.out (by have := lt_22; omega))
      replace ct_22_1__550 := cell_other ct_22_1__550 Gt_41.out (Go.Proofs.YtgimcnpkngpmiaaDoor.GoC.apart_x X1.out (by have := lt_22; omega))
      replace ct_22_2__551 := cell_other ct_22_2__551 Gt_41.out (Go.Proofs.YtgimcnpkngpmiaaDoor.GoC.apart_x X1.out (by have := lt_22; omega))
      replace ct_22_3__552 := cell_other ct_22_3__552 Gt_41.out (Go.Proofs.YtgimcnpkngpmiaaDoor.GoC.apart_x X1.out (by have := lt_22; omega))
      replace ct_22_4__553 := cell_other ct_22_4__553 Gt_41.out (Go.Proofs.YtgimcnpkngpmiaaDoor.GoC.apart_x X1.out (by have := lt_22; omega))
      replace ct_22_5__554 := cell_other ct_22_5__554 Gt_41.out (Go.Proofs.YtgimcnpkngpmiaaDoor.GoC.apart_x X1.out (by have := lt_22; omega))
      replace kp_24_0__555 := cell_other kp_24_0__555 Gt_41.out (Apart.symm Dp_24_c0.out)
      replace kp_24_1__556 := cell_other kp_24_1__556 Gt_41.out (Apart.symm Dp_24_c0.out)
      replace kp_24_2__557 := cell_other kp_24_2__557 Gt_41.out (Apart.symm Dp_24_c0.out)
      replace kp_24_3__558 := cell_other kp_24_3__558 Gt_41.out (Apart.symm Dp_24_c0.out)
      replace kp_24_4__559 := cell_other kp_24_4__559 Gt_41.out (Apart.symm Dp_24_c0.out)
      replace kp_24_5__560 := cell_other kp_24_5__560 Gt_41.out (Apart.symm Dp_24_c0.out)
      replace Ot_40 := Lib.hid (own_other Ot_40.out Gt_41.out (Apart.symm Dt_40_c0.out))
      clear Kt_21 Gt_41
      replace H := bind_hid H
      obtain ⟨t_42, qt_42, H⟩ := H
      go_wp2_with fail
      go_at_call 91
      refine (Go.Proofs.YtgimcnpkngpmiaaDoor.GsL1Most.C (0) (t_41)  _    qt_42).mono ?_
      rintro e_t_42 wt_42 ⟨rfl, bt_42⟩
      have HBwt_42 := Lib.hid (grown_below HBwt_41.out bt_42)
      replace ct_22_0__549 := cell_below bt_42 ct_22_0__549
      replace ct_22_1__550 := cell_below bt_42 ct_22_1__550
      replace ct_22_2__551 := cell_below bt_42 ct_22_2__551
      replace ct_22_3__552 := cell_below bt_42 ct_22_3__552
      replace ct_22_4__553 := cell_below bt_42 ct_22_4__553
      replace ct_22_5__554 := cell_below bt_42 ct_22_5__554
      replace kp_24_0__555 := cell_below bt_42 kp_24_0__555
      replace kp_24_1__556 := cell_below bt_42 kp_24_1__556
      replace kp_24_2__557 := cell_below bt_42 kp_24_2__557
      replace kp_24_3__558 := cell_below bt_42 kp_24_3__558
      replace kp_24_4__559 := cell_below bt_42 kp_24_4__559
      replace kp_24_5__560 := cell_below bt_42 kp_24_5__560
      replace Ot_40 := Lib.hid (own_below Ot_40.out bt_42)
      replace Kt_41 := Lib.hid (Go.Proofs.YtgimcnpkngpmiaaDoor.GoC.cur_below Kt_41.out bt_42)
      clear bt_42
      replace H := bind_hid H
      obtain ⟨t_43, qt_43, H⟩ := H
      go_wp2_with fail
      go_at_call 90
      refine (Go.Proofs.YtgimcnpkngpmiaaDoor.GsL1Least.C (4000) (t_42)  _    qt_43).mono ?_
      rintro e_t_43 wt_43 ⟨rfl, bt_43⟩
      have HBwt_43 := Lib.hid (grown_below HBwt_42.out bt_43)
      replace ct_22_0__549 := cell_below bt_43 ct_22_0__549
      replace ct_22_1__550 := cell_below bt_43 ct_22_1__550
      replace ct_22_2__551 := cell_below bt_43 ct_22_2__551
      replace ct_22_3__552 := cell_below bt_43 ct_22_3__552
      replace ct_22_4__553 := cell_below bt_43 ct_22_4__553
      replace ct_22_5__554 := cell_below bt_43 ct_22_5__554
      replace kp_24_0__555 := cell_below bt_43 kp_24_0__555
      replace kp_24_1__556 := cell_below bt_43 kp_24_1__556
      replace kp_24_2__557 := cell_below bt_43 kp_24_2__557
      replace kp_24_3__558 := cell_below bt_43 kp_24_3__558
      replace kp_24_4__559 := cell_below bt_43 kp_24_4__559
      replace kp_24_5__560 := cell_below bt_43 kp_24_5__560
      replace Ot_40 := Lib.hid (own_below Ot_40.out bt_43)
      replace Kt_41 := Lib.hid (Go.Proofs.YtgimcnpkngpmiaaDoor.GoC.cur_below Kt_41.out bt_43)
      clear bt_43
      cases ret_hid H
      go_wp2_with fail
      go_ret
      exact ⟨rfl, Kt_41.out, HBwt_43.out⟩
    | true =>
      replace H := ite_t H
      replace H := let_hid H
      obtain ⟨t_9, ht_9, H⟩ := H
      obtain ⟨w_t_9, hw_t_9⟩ : ∃ x, wt_6.alloc (.cells #[.int .i64 0, .int .i64 150, .int .i64 4000, .int .i64 (-1), .int .i64 4001] 3) = x := ⟨_, rfl⟩
      have bw_t_9 : Below wt_6.heap.size wt_6 w_t_9 := by rw [← hw_t_9]; exact (Below.refl _ _).alloc (Nat.le_refl _) _
      have hs_t_9 := HBwt_6.out.size
      have nt_9 : t_9.length = 5 := by rw [← ht_9]; rfl
      have Ot_9 : Hid (w_t_9.ownsRow w.heap.size 3 1 (.slice (some ⟨wt_6.heap.size, 0, none⟩) 5 5) 5 (Go.Proofs.YtgimcnpkngpmiaaDoor.HelpInt.iv t_9)) := by
        rw [← hw_t_9, ← ht_9]
        have e_ : ([.int .i64 0, .int .i64 150, .int .i64 4000, .int .i64 (-1), .int .i64 4001] : List Value) = (Go.Proofs.YtgimcnpkngpmiaaDoor.HelpInt.iv ([0, 150, 4000, (-1), 4001] : List Int)) := rfl
        exact Lib.hid (own_laid (n := 5) hs_t_9 e_ rfl (by unfold maxLen; omega))
      clear hs_t_9
      have hht_9 := Lib.hid ht_9
      clear ht_9
      replace nt_9 := Lib.hid nt_9
      have Dt_9_c0 := Lib.hid (Go.Proofs.YtgimcnpkngpmiaaDoor.GoC.apart_cur Kt_6.out)
      have HBw_t_9 := Lib.hid (grown_below HBwt_6.out bw_t_9)
      replace Kt_6 := Lib.hid (Go.Proofs.YtgimcnpkngpmiaaDoor.GoC.cur_below Kt_6.out bw_t_9)
      clear bw_t_9
      replace H := bind2_hid H
      obtain ⟨t_11, t_11_tp, qt_11, H⟩ := H
      go_wp2_with fail
      go_at_call 62
      refine (Go.Proofs.YtgimcnpkngpmiaaDoor.GsL1CurPick.C (t_6_tp) (24) (g0) (Ac0) (cc0) (bc0) _   Kt_6 qt_11).mono ?_
      rintro e_t_11 wt_11 ⟨rfl, kt_11, gt_11⟩
      have Kt_11 := Lib.hid kt_11
      have Gt_11 : Hid (w_t_9.grownBy wt_11 (Value.slice (some ⟨g0, 0, none⟩) 1 1).ownBlock) := Lib.hid gt_11
      clear kt_11 gt_11
      have HBwt_11 := Lib.hid (Aid.grown_tr HBw_t_9.out Gt_11.out)
      replace Ot_9 := Lib.hid (own_other Ot_9.out Gt_11.out (Apart.symm Dt_9_c0.out))
      clear Kt_6 Gt_11
      replace H := let_hid H
      obtain ⟨t_12, ht_12, H⟩ := H
      replace H := let_hid H
      obtain ⟨t_13, ht_13, H⟩ := H
      replace H := guard_hid H
      obtain ⟨hl_t_14, H⟩ := H
      replace H := let_hid H
      obtain ⟨t_14, ht_14, H⟩ := H
      have dt_14 : ((Go.Proofs.YtgimcnpkngpmiaaDoor.HelpInt.iv t_9)).take (Int.toNat t_13 * 1) = (Go.Proofs.YtgimcnpkngpmiaaDoor.HelpInt.iv t_14) := by
        rw [← ht_14]
        simp [Go.Proofs.YtgimcnpkngpmiaaDoor.HelpInt.iv, List.map_take]
      have nt_14 : Int.toNat t_13 = t_14.length := by rw [← ht_14, List.length_take]; have h_ := nt_9.out; omega
      replace hl_t_14 : (0 : Int) ≤ t_13 ∧ (t_13 : Int) ≤ ((5 : Nat) : Int) := by have h_ := nt_9.out; omega
      obtain ⟨rt_14, Ot_14⟩ := slice_head (P := Tryd.prog) (t := 24) (e := 3) (k := .i64) (by kernel_rfl) (by kernel_rfl) hi_3 hz1_3 Ot_9.out hl_t_14 nt_14 dt_14
      replace Ot_14 := Lib.hid Ot_14
      clear dt_14 nt_14 hl_t_14
      have hht_14 := Lib.hid ht_14
      clear ht_14
      replace H := bind2_hid H
      obtain ⟨t_15, t_15_tp, qt_15, H⟩ := H
      go_wp2_with fail
      go_at_call 61
      refine (Go.Proofs.YtgimcnpkngpmiaaDoor.GsL1CurAmong.C (t_11_tp) (t_14) (some ⟨wt_6.heap.size, 0, none⟩) 5 (g0) (Ac0) (cc0) (bc0) _   (Lib.hid (own_cells Ot_14.out)) (Lib.hid (own_max Ot_14.out)) Kt_11 (Lib.hid (fun _ => Dt_9_c0.out)) qt_15).mono ?_
      rintro e_t_15 wt_15 ⟨rfl, kt_15, gt_15⟩
      have Kt_15 := Lib.hid kt_15
      have Gt_15 : Hid (wt_11.grownBy wt_15 (Value.slice (some ⟨g0, 0, none⟩) 1 1).ownBlock) := Lib.hid gt_15
      clear kt_15 gt_15
      have HBwt_15 := Lib.hid (Aid.grown_tr HBwt_11.out Gt_15.out)
      replace Ot_14 := Lib.hid (own_other Ot_14.out Gt_15.out (Apart.symm Dt_9_c0.out))
      clear Kt_11 Gt_15
      cases ret_hid H
      go_wp2_with fail
      go_ret
      exact ⟨rfl, Kt_15.out, HBwt_15.out⟩
  | true =>
    have Hht_3 : Hid (list.length = 0) := Lib.hid (by have := eq_of_beq ht_3; omega)
    have nht_3 : (list.length == 0) = true := beq_iff_eq.2 Hht_3.out
    replace H := ite_t H
    replace H := app_hid H
    replace H := unp2_hid H
    replace H := ite_t H
    replace H := let_hid H
    obtain ⟨t_9, ht_9, H⟩ := H
    obtain ⟨w_t_9, hw_t_9⟩ : ∃ x, w.alloc (.cells #[.int .i64 0, .int .i64 150, .int .i64 4000, .int .i64 (-1), .int .i64 4001] 3) = x := ⟨_, rfl⟩
    have bw_t_9 : Below w.heap.size w w_t_9 := by rw [← hw_t_9]; exact (Below.refl _ _).alloc (Nat.le_refl _) _
    have hs_t_9 := HB.out.size
    have nt_9 : t_9.length = 5 := by rw [← ht_9]; rfl
    have Ot_9 : Hid (w_t_9.ownsRow w.heap.size 3 1 (.slice (some ⟨w.heap.size, 0, none⟩) 5 5) 5 (Go.Proofs.YtgimcnpkngpmiaaDoor.HelpInt.iv t_9)) := by
      rw [← hw_t_9, ← ht_9]
      have e_ : ([.int .i64 0, .int .i64 150, .int .i64 4000, .int .i64 (-1), .int .i64 4001] : List Value) = (Go.Proofs.YtgimcnpkngpmiaaDoor.HelpInt.iv ([0, 150, 4000, (-1), 4001] : List Int)) := rfl
      exact Lib.hid (own_laid (n := 5) hs_t_9 e_ rfl (by unfold maxLen; omega))
    clear hs_t_9
    have hht_9 := Lib.hid ht_9
    clear ht_9
    replace nt_9 := Lib.hid nt_9
    have Dt_9_c0 := Lib.hid (Go.Proofs.YtgimcnpkngpmiaaDoor.GoC.apart_cur K0.out)
    have HBw_t_9 := Lib.hid (grown_below HB.out bw_t_9)
    replace K0 := Lib.hid (Go.Proofs.YtgimcnpkngpmiaaDoor.GoC.cur_below K0.out bw_t_9)
    clear bw_t_9
    replace H := bind2_hid H
    obtain ⟨t_11, t_11_tp, qt_11, H⟩ := H
    go_wp2_with fail
    go_at_call 62
    refine (Go.Proofs.YtgimcnpkngpmiaaDoor.GsL1CurPick.C (c) (24) (g0) (Ac0) (cc0) (bc0) _   K0 qt_11).mono ?_
    rintro e_t_11 wt_11 ⟨rfl, kt_11, gt_11⟩
    have Kt_11 := Lib.hid kt_11
    have Gt_11 : Hid (w_t_9.grownBy wt_11 (Value.slice (some ⟨g0, 0, none⟩) 1 1).ownBlock) := Lib.hid gt_11
    clear kt_11 gt_11
    have HBwt_11 := Lib.hid (Aid.grown_tr HBw_t_9.out Gt_11.out)
    replace Ot_9 := Lib.hid (own_other Ot_9.out Gt_11.out (Apart.symm Dt_9_c0.out))
    clear K0 Gt_11
    replace H := let_hid H
    obtain ⟨t_12, ht_12, H⟩ := H
    replace H := let_hid H
    obtain ⟨t_13, ht_13, H⟩ := H
    replace H := guard_hid H
    obtain ⟨hl_t_14, H⟩ := H
    replace H := let_hid H
    obtain ⟨t_14, ht_14, H⟩ := H
    have dt_14 : ((Go.Proofs.YtgimcnpkngpmiaaDoor.HelpInt.iv t_9)).take (Int.toNat t_13 * 1) = (Go.Proofs.YtgimcnpkngpmiaaDoor.HelpInt.iv t_14) := by
      rw [← ht_14]
      simp [Go.Proofs.YtgimcnpkngpmiaaDoor.HelpInt.iv, List.map_take]
    have nt_14 : Int.toNat t_13 = t_14.length := by rw [← ht_14, List.length_take]; have h_ := nt_9.out; omega
    replace hl_t_14 : (0 : Int) ≤ t_13 ∧ (t_13 : Int) ≤ ((5 : Nat) : Int) := by have h_ := nt_9.out; omega
    obtain ⟨rt_14, Ot_14⟩ := slice_head (P := Tryd.prog) (t := 24) (e := 3) (k := .i64) (by kernel_rfl) (by kernel_rfl) hi_3 hz1_3 Ot_9.out hl_t_14 nt_14 dt_14
    replace Ot_14 := Lib.hid Ot_14
    clear dt_14 nt_14 hl_t_14
    have hht_14 := Lib.hid ht_14
    clear ht_14
    replace H := bind2_hid H
    obtain ⟨t_15, t_15_tp, qt_15, H⟩ := H
    go_wp2_with fail
    go_at_call 61
    refine (Go.Proofs.YtgimcnpkngpmiaaDoor.GsL1CurAmong.C (t_11_tp) (t_14) (some ⟨w.heap.size, 0, none⟩) 5 (g0) (Ac0) (cc0) (bc0) _   (Lib.hid (own_cells Ot_14.out)) (Lib.hid (own_max Ot_14.out)) Kt_11 (Lib.hid (fun _ => Dt_9_c0.out)) qt_15).mono ?_
    rintro e_t_15 wt_15 ⟨rfl, kt_15, gt_15⟩
    have Kt_15 := Lib.hid kt_15
    have Gt_15 : Hid (wt_11.grownBy wt_15 (Value.slice (some ⟨g0, 0, none⟩) 1 1).ownBlock) := Lib.hid gt_15
    clear kt_15 gt_15
    have HBwt_15 := Lib.hid (Aid.grown_tr HBwt_11.out Gt_15.out)
    replace Ot_14 := Lib.hid (own_other Ot_14.out Gt_15.out (Apart.symm Dt_9_c0.out))
    clear Kt_11 Gt_15
    cases ret_hid H
    go_wp2_with fail
    go_ret
    exact ⟨rfl, Kt_15.out, HBwt_15.out⟩
end Go.Proofs.YtgimcnpkngpmiaaDoor.GsL1CurDay11

/- loop.example/g01062/spec.DrawReadMarks as a plain function, and the contract of the program's: where the plain one has an answer, the program has it. Conditions: slices read as lists. -/
namespace Go.Proofs.YtgimcnpkngpmiaaDoor.GsDrawReadMarks
set_option linter.unusedVariables false
set_option linter.unusedSimpArgs false
open Go.RowKit
open Go.Proofs.YtgimcnpkngpmiaaDoor.Rowed Go.Proofs.YtgimcnpkngpmiaaDoor.Turn Go.Proofs.YtgimcnpkngpmiaaDoor.Aid Go.Proofs.YtgimcnpkngpmiaaDoor.GoP Go.Proofs.YtgimcnpkngpmiaaDoor.GoM

def j0 (t_8 : (List Go.Proofs.YtgimcnpkngpmiaaDoor.PPostmark.Postmark)) (s : ByteArray × Go.Proofs.YtgimcnpkngpmiaaDoor.GoC.Tape) : Option ((List Go.Proofs.YtgimcnpkngpmiaaDoor.PPostmark.Postmark) × ByteArray × Int) :=
  unp2 s fun s_7j0 t_5_c0j0 =>
  bind2 (Go.Proofs.YtgimcnpkngpmiaaDoor.GsL1CurDay11.P t_5_c0j0 t_8) fun (t_53 : Int) (t_53_tp : Go.Proofs.YtgimcnpkngpmiaaDoor.GoC.Tape) =>
  some (t_8, s_7j0, t_53)

def P (fuel : Nat) (tapes : List Int → Go.Proofs.YtgimcnpkngpmiaaDoor.GoC.Tape) (code : (List Int)) : Option ((List Go.Proofs.YtgimcnpkngpmiaaDoor.PPostmark.Postmark) × ByteArray × Int) :=
  letK (tapes code) fun (t_5 : Go.Proofs.YtgimcnpkngpmiaaDoor.GoC.Tape) =>
  bind2 (Go.Proofs.YtgimcnpkngpmiaaDoor.GsL1CurPostmarks11.P fuel t_5) fun (t_8 : (List Go.Proofs.YtgimcnpkngpmiaaDoor.PPostmark.Postmark)) (t_8_tp : Go.Proofs.YtgimcnpkngpmiaaDoor.GoC.Tape) =>
  letK ([(⟨#[98, 63, 114, 110]⟩ : ByteArray), (⟨#[98, 63, 110, 63]⟩ : ByteArray), (⟨#[63, 63, 63, 63]⟩ : ByteArray), (⟨#[63, 63, 63, 63, 63]⟩ : ByteArray), (⟨#[103, 101, 110, 102]⟩ : ByteArray), (⟨#[]⟩ : ByteArray), (⟨#[66]⟩ : ByteArray), (⟨#[97, 98, 99, 100, 101, 102, 103, 104, 105, 106, 107]⟩ : ByteArray), (⟨#[98, 97, 115, 101, 108]⟩ : ByteArray)]) fun (t_11 : (List ByteArray)) =>
  bind2 (Go.Proofs.YtgimcnpkngpmiaaDoor.GsL1CurOf.P t_8_tp t_11) fun (t_12 : ByteArray) (t_12_tp : Go.Proofs.YtgimcnpkngpmiaaDoor.GoC.Tape) =>
  letK (decide (0 < (t_8.length : Int))) fun (t_18 : Bool) =>
  joinK (fun (st_23 : Bool × Go.Proofs.YtgimcnpkngpmiaaDoor.GoC.Tape) => unp2 st_23 fun t_23 t_23_tp =>
  iteK t_23
  (bind2 (Go.Proofs.YtgimcnpkngpmiaaDoor.GsL1CurPick.P t_23_tp (t_8.length : Int)) fun (t_27 : Int) (t_27_tp : Go.Proofs.YtgimcnpkngpmiaaDoor.GoC.Tape) =>
  Option.bind (idx t_8 t_27) fun (yt_28 : Go.Proofs.YtgimcnpkngpmiaaDoor.PPostmark.Postmark) =>
  unPostmark yt_28 fun (t_28_id : Int) (t_28_town : ByteArray) (t_28_kind_ : Int) (t_28_first : Int) (t_28_last : Int) (t_28_lost : ByteArray) =>
  bind2 (Go.Proofs.YtgimcnpkngpmiaaDoor.GsShownBy.P fuel (Go.Proofs.YtgimcnpkngpmiaaDoor.PPostmark.Postmark.mk t_28_id t_28_town t_28_kind_ t_28_first t_28_last t_28_lost)) fun (t_30a : ByteArray) (t_30b : Bool) =>
  bind2 (Go.Proofs.YtgimcnpkngpmiaaDoor.GsL1CurOne.P t_27_tp 2) fun (t_36 : Bool) (t_36_tp : Go.Proofs.YtgimcnpkngpmiaaDoor.GoC.Tape) =>
  joinK (fun (t_41 : Bool) =>
  iteK t_41
  (guardK ((0 : Int) ≤ 1 ∧ (1 : Int) ≤ (t_30a.size : Int)) <|
  letK (ByteArray.extract t_30a 0 (Int.toNat 1)) fun (t_43 : ByteArray) =>
  guardK (t_43.size + (⟨#[63]⟩ : ByteArray).size ≤ maxLen) <|
  letK (t_43 ++ (⟨#[63]⟩ : ByteArray)) fun (t_44 : ByteArray) =>
  guardK ((0 : Int) ≤ 2 ∧ (2 : Int) ≤ (t_30a.size : Int)) <|
  letK (ByteArray.extract t_30a (Int.toNat 2) t_30a.size) fun (t_46 : ByteArray) =>
  guardK (t_44.size + t_46.size ≤ maxLen) <|
  letK (t_44 ++ t_46) fun (t_47 : ByteArray) =>
  j0 t_8 (t_47, t_36_tp))
  (j0 t_8 (t_30a, t_36_tp))) fun jt_41 => iteK t_36 (letK (decide (1 < (t_30a.size : Int))) fun (t_40 : Bool) =>
  appK jt_41 t_40) (appK jt_41 false))
  (j0 t_8 (t_12, t_23_tp))) fun jt_23 => iteK t_18 (bind2 (Go.Proofs.YtgimcnpkngpmiaaDoor.GsL1CurOne.P t_12_tp 3) fun (t_21 : Bool) (t_21_tp : Go.Proofs.YtgimcnpkngpmiaaDoor.GoC.Tape) =>
  letK (!t_21) fun (t_22 : Bool) =>
  appK jt_23 (t_22, t_21_tp)) (appK jt_23 (false, t_12_tp))

set_option maxRecDepth 100000 in
set_option maxHeartbeats 2000000 in
theorem C (fuel : Nat) (tapes : List Int → Go.Proofs.YtgimcnpkngpmiaaDoor.GoC.Tape) (code : (List Int)) (A0 : Option Addr) (c0 : Nat)  (w : World) (HE : Hid (Go.Proofs.YtgimcnpkngpmiaaDoor.GoC.Tells tapes)) (M0 : Hid (Cells w 1 A0 code.length (Go.Proofs.YtgimcnpkngpmiaaDoor.GoC.u8s code))) (N0 : Hid (code.length ≤ 9223372036854775807)) (V0 : Hid (∀ z ∈ code, 0 ≤ z ∧ z ≤ 255))  {r0 : (List Go.Proofs.YtgimcnpkngpmiaaDoor.PPostmark.Postmark)} {r1 : ByteArray} {r2 : Int} (H : Hid (P fuel tapes code = some (r0, r1, r2))) :
    Calls Tryd.prog 32 #[.slice A0 code.length c0] w (fun e w' => ∃ A_r0 c_r0, e = .returned (.tuple #[.slice A_r0 r0.length c_r0, .string r1, .int .i64 r2]) ∧ w'.ownsRow w.heap.size 39 6 (.slice A_r0 r0.length c_r0) r0.length (Go.Proofs.YtgimcnpkngpmiaaDoor.PPostmark.flat r0) ∧ Below w.heap.size w w') := by
  have HB := Lib.hid (Below.refl w.heap.size w)
  unfold P at H
  have N0o := N0.out
  go_enter Tryd.func32, Tryd.ntmps32
  replace H := let_hid H
  obtain ⟨t_5, ht_5, H⟩ := H
  obtain ⟨w_t_5, hw_t_5⟩ : ∃ x, w.alloc (.cells #[.slice A0 code.length c0, .int .i64 0, .int .u64 0] 72) = x := ⟨_, rfl⟩
  have bw_t_5 : Below w.heap.size w w_t_5 := by rw [← hw_t_5]; exact (Below.refl _ _).alloc (Nat.le_refl _) _
  have Kt_5 : Hid (Go.Proofs.YtgimcnpkngpmiaaDoor.GoC.CurIs w_t_5 w.heap.size w.heap.size A0 c0 t_5) := Lib.hid (by rw [← hw_t_5, ← ht_5]; exact Go.Proofs.YtgimcnpkngpmiaaDoor.GoC.cur_new HB.out.size (Cells.below M0.out HB.out) (fun a_ ha_ h0_ => by subst ha_; exact Go.Proofs.YtgimcnpkngpmiaaDoor.GoC.cells_lt M0.out (by unfold Go.Proofs.YtgimcnpkngpmiaaDoor.GoC.u8s; rw [List.length_map]; exact h0_)) (HE.out.2.2 code V0.out N0.out))
  have hht_5 := Lib.hid ht_5
  clear ht_5
  have HBw_t_5 := Lib.hid (Below.step HB.out bw_t_5)
  clear bw_t_5
  replace H := bind2_hid H
  obtain ⟨t_8, t_8_tp, qt_8, H⟩ := H
  go_wp2_with fail
  go_at_call 59
  refine (Go.Proofs.YtgimcnpkngpmiaaDoor.GsL1CurPostmarks11.C fuel (t_5) (w.heap.size) (A0) (c0) (w.heap.size) _   Kt_5 qt_8).mono ?_
  rintro e_t_8 wt_8 ⟨At_8, ct_8, rfl, ot_8, kt_8, gt_8⟩
  have Dt_8_t_5 := Lib.hid (Go.Proofs.YtgimcnpkngpmiaaDoor.GoC.apart_callcur ot_8 Kt_5.out)
  have Ot_8 := Lib.hid (own_lower ot_8 HBw_t_5.out.size)
  clear ot_8
  have Kt_8 := Lib.hid kt_8
  have Gt_8 : Hid (w_t_5.grownBy wt_8 (Value.slice (some ⟨w.heap.size, 0, none⟩) 1 1).ownBlock) := Lib.hid gt_8
  clear kt_8 gt_8
  have HBwt_8 := Lib.hid (Go.Proofs.YtgimcnpkngpmiaaDoor.GoC.below_cur HBw_t_5.out Gt_8.out HBw_t_5.out.size (Go.Proofs.YtgimcnpkngpmiaaDoor.GoC.cur_lt Kt_5.out).1)
  clear Kt_5 Gt_8
  replace H := let_hid H
  obtain ⟨t_11, ht_11, H⟩ := H
  obtain ⟨w_t_11, hw_t_11⟩ : ∃ x, wt_8.alloc (.cells #[.string (⟨#[98, 63, 114, 110]⟩ : ByteArray), .string (⟨#[98, 63, 110, 63]⟩ : ByteArray), .string (⟨#[63, 63, 63, 63]⟩ : ByteArray), .string (⟨#[63, 63, 63, 63, 63]⟩ : ByteArray), .string (⟨#[103, 101, 110, 102]⟩ : ByteArray), .string (⟨#[]⟩ : ByteArray), .string (⟨#[66]⟩ : ByteArray), .string (⟨#[97, 98, 99, 100, 101, 102, 103, 104, 105, 106, 107]⟩ : ByteArray), .string (⟨#[98, 97, 115, 101, 108]⟩ : ByteArray)] 9) = x := ⟨_, rfl⟩
  have bw_t_11 : Below wt_8.heap.size wt_8 w_t_11 := by rw [← hw_t_11]; exact (Below.refl _ _).alloc (Nat.le_refl _) _
  have hs_t_11 := HBwt_8.out.size
  have nt_11 : t_11.length = 9 := by rw [← ht_11]; rfl
  have Ot_11 : Hid (w_t_11.ownsRow w.heap.size 9 1 (.slice (some ⟨wt_8.heap.size, 0, none⟩) 9 9) 9 (t_11.map Value.string)) := by
    rw [← hw_t_11, ← ht_11]
    have e_ : ([.string (⟨#[98, 63, 114, 110]⟩ : ByteArray), .string (⟨#[98, 63, 110, 63]⟩ : ByteArray), .string (⟨#[63, 63, 63, 63]⟩ : ByteArray), .string (⟨#[63, 63, 63, 63, 63]⟩ : ByteArray), .string (⟨#[103, 101, 110, 102]⟩ : ByteArray), .string (⟨#[]⟩ : ByteArray), .string (⟨#[66]⟩ : ByteArray), .string (⟨#[97, 98, 99, 100, 101, 102, 103, 104, 105, 106, 107]⟩ : ByteArray), .string (⟨#[98, 97, 115, 101, 108]⟩ : ByteArray)] : List Value) = (([(⟨#[98, 63, 114, 110]⟩ : ByteArray), (⟨#[98, 63, 110, 63]⟩ : ByteArray), (⟨#[63, 63, 63, 63]⟩ : ByteArray), (⟨#[63, 63, 63, 63, 63]⟩ : ByteArray), (⟨#[103, 101, 110, 102]⟩ : ByteArray), (⟨#[]⟩ : ByteArray), (⟨#[66]⟩ : ByteArray), (⟨#[97, 98, 99, 100, 101, 102, 103, 104, 105, 106, 107]⟩ : ByteArray), (⟨#[98, 97, 115, 101, 108]⟩ : ByteArray)] : List ByteArray).map Value.string) := rfl
    exact Lib.hid (own_laid (n := 9) hs_t_11 e_ rfl (by unfold maxLen; omega))
  clear hs_t_11
  have hht_11 := Lib.hid ht_11
  clear ht_11
  replace nt_11 := Lib.hid nt_11
  have Dt_11_t_8 := Lib.hid (apart_fresh Ot_8.out)
  have Dt_11_t_5 := Lib.hid (Go.Proofs.YtgimcnpkngpmiaaDoor.GoC.apart_cur Kt_8.out)
  have HBw_t_11 := Lib.hid (Below.step HBwt_8.out bw_t_11)
  replace Ot_8 := Lib.hid (own_below Ot_8.out bw_t_11)
  replace Kt_8 := Lib.hid (Go.Proofs.YtgimcnpkngpmiaaDoor.GoC.cur_below Kt_8.out bw_t_11)
  clear bw_t_11
  replace H := bind2_hid H
  obtain ⟨t_12, t_12_tp, qt_12, H⟩ := H
  go_wp2_with fail
  have hc_ := nt_11.out
  have hv_ : (Value.slice (some ⟨wt_8.heap.size, 0, none⟩) 9 9 : Value) = Value.slice (some ⟨wt_8.heap.size, 0, none⟩) t_11.length 9 := by rw [hc_]
  try rw [hv_]
  replace Ot_11 := Lib.hid (own_len hc_ Ot_11.out)
  clear hc_ hv_
  go_wp2_with fail
  go_at_call 69
  refine (Go.Proofs.YtgimcnpkngpmiaaDoor.GsL1CurOf.C (t_8_tp) (t_11) (some ⟨wt_8.heap.size, 0, none⟩) 9 (w.heap.size) (A0) (c0) (w.heap.size) _   (Lib.hid (own_cells Ot_11.out)) (Lib.hid (own_max Ot_11.out)) Kt_8 (Lib.hid (fun _ => Dt_11_t_5.out)) qt_12).mono ?_
  rintro e_t_12 wt_12 ⟨rfl, kt_12, gt_12⟩
  have Kt_12 := Lib.hid kt_12
  have Gt_12 : Hid (w_t_11.grownBy wt_12 (Value.slice (some ⟨w.heap.size, 0, none⟩) 1 1).ownBlock) := Lib.hid gt_12
  clear kt_12 gt_12
  have HBwt_12 := Lib.hid (Go.Proofs.YtgimcnpkngpmiaaDoor.GoC.below_cur HBw_t_11.out Gt_12.out HBw_t_11.out.size (Go.Proofs.YtgimcnpkngpmiaaDoor.GoC.cur_lt Kt_8.out).1)
  replace Ot_8 := Lib.hid (own_other Ot_8.out Gt_12.out (Apart.symm Dt_8_t_5.out))
  replace Ot_11 := Lib.hid (own_other Ot_11.out Gt_12.out (Apart.symm Dt_11_t_5.out))
  clear Kt_8 Gt_12
  replace H := let_hid H
  obtain ⟨t_18, ht_18, H⟩ := H
  replace H := join_hid H
  cases t_18 with
  | false =>
    have nht_18 : ¬ (0 < t_8.length) := by have := of_decide_eq_false ht_18; omega
    replace H := ite_f H
    replace H := app_hid H
    replace H := unp2_hid H
    replace H := ite_f H
    unfold j0 at H
    replace H := unp2_hid H
    replace H := bind2_hid H
    obtain ⟨t_53, t_53_tp, qt_53, H⟩ := H
    go_wp2_with fail
    go_at_call 76
    refine (Go.Proofs.YtgimcnpkngpmiaaDoor.GsL1CurDay11.C (t_12_tp) (t_8) At_8 ct_8 (w.heap.size) (A0) (c0) (w.heap.size) _   (Lib.hid (own_cells Ot_8.out)) (Lib.hid (own_max Ot_8.out)) Kt_12 (Lib.hid (fun _ => Dt_8_t_5.out)) qt_53).mono ?_
    rintro e_t_53 wt_53 ⟨rfl, kt_53, gt_53⟩
    have Kt_53 := Lib.hid kt_53
    have Gt_53 : Hid (wt_12.grownBy wt_53 (Value.slice (some ⟨w.heap.size, 0, none⟩) 1 1).ownBlock) := Lib.hid gt_53
    clear kt_53 gt_53
    have HBwt_53 := Lib.hid (Go.Proofs.YtgimcnpkngpmiaaDoor.GoC.below_cur HBwt_12.out Gt_53.out HBwt_12.out.size (Go.Proofs.YtgimcnpkngpmiaaDoor.GoC.cur_lt Kt_12.out).1)
    replace Ot_8 := Lib.hid (own_other Ot_8.out Gt_53.out (Apart.symm Dt_8_t_5.out))
    replace Ot_11 := Lib.hid (own_other Ot_11.out Gt_53.out (Apart.symm Dt_11_t_5.out))
    clear Kt_12 Gt_53
    cases ret_hid H
    go_wp2_with fail
    go_ret3
    exact ⟨At_8, ct_8, rfl, Ot_8.out, HBwt_53.out⟩
  | true =>
    have nht_18 : 0 < t_8.length := by have := of_decide_eq_true ht_18; omega
    replace H := ite_t H
    replace H := bind2_hid H
    obtain ⟨t_21, t_21_tp, qt_21, H⟩ := H
    go_wp2_with fail
    go_at_call 68
    refine (Go.Proofs.YtgimcnpkngpmiaaDoor.GsL1CurOne.C (t_12_tp) (3) (w.heap.size) (A0) (c0) (w.heap.size) _   Kt_12 qt_21).mono ?_
    rintro e_t_21 wt_21 ⟨rfl, kt_21, gt_21⟩
    have Kt_21 := Lib.hid kt_21
    have Gt_21 : Hid (wt_12.grownBy wt_21 (Value.slice (some ⟨w.heap.size, 0, none⟩) 1 1).ownBlock) := Lib.hid gt_21
    clear kt_21 gt_21
    have HBwt_21 := Lib.hid (Go.Proofs.YtgimcnpkngpmiaaDoor.GoC.below_cur HBwt_12.out Gt_21.out HBwt_12.out.size (Go.Proofs.YtgimcnpkngpmiaaDoor.GoC.cur_lt Kt_12.out).1)
    replace Ot_8 := Lib.hid (own_other Ot_8.out Gt_21.out (Apart.symm Dt_8_t_5.out))
    replace Ot_11 := Lib.hid (own_other Ot_11.out Gt_21.out (Apart.symm Dt_11_t_5.out))
    clear Kt_12 Gt_21
    cases t_21 with
    | false =>
      replace H := let_hid H
      obtain ⟨t_22, ht_22, H⟩ := H
      obtain rfl : t_22 = true := ht_22.symm
      replace H := app_hid H
      replace H := unp2_hid H
      replace H := ite_t H
      replace H := bind2_hid H
      obtain ⟨t_27, t_27_tp, qt_27, H⟩ := H
      go_wp2_with fail
      go_at_call 62
      refine (Go.Proofs.YtgimcnpkngpmiaaDoor.GsL1CurPick.C (t_21_tp) ((t_8.length : Int)) (w.heap.size) (A0) (c0) (w.heap.size) _   Kt_21 qt_27).mono ?_
      rintro e_t_27 wt_27 ⟨rfl, kt_27, gt_27⟩
      have Kt_27 := Lib.hid kt_27
      have Gt_27 : Hid (wt_21.grownBy wt_27 (Value.slice (some ⟨w.heap.size, 0, none⟩) 1 1).ownBlock) := Lib.hid gt_27
      clear kt_27 gt_27
      have HBwt_27 := Lib.hid (Go.Proofs.YtgimcnpkngpmiaaDoor.GoC.below_cur HBwt_21.out Gt_27.out HBwt_21.out.size (Go.Proofs.YtgimcnpkngpmiaaDoor.GoC.cur_lt Kt_21.out).1)
      replace Ot_8 := Lib.hid (own_other Ot_8.out Gt_27.out (Apart.symm Dt_8_t_5.out))
      replace Ot_11 := Lib.hid (own_other Ot_11.out Gt_27.out (Apart.symm Dt_11_t_5.out))
      clear Kt_21 Gt_27
      replace H := idx_hid H
      obtain ⟨nt_28, yt_28, et_28, lt_28, gt_28, H⟩ := H
      subst et_28
      obtain ⟨t_28_id, t_28_town, t_28_kind_, t_28_first, t_28_last, t_28_lost⟩ := yt_28
      replace H := unPostmark_hid H
      obtain ⟨qt_28, Qt_28⟩ := own_some Ot_8.out (by omega)
      subst Qt_28
      obtain ⟨ab_t_28, ao_t_28, zt_28, At_28, z_t_28, ct_28_0, ct_28_1, ct_28_2, ct_28_3, ct_28_4, ct_28_5⟩ := Go.Proofs.YtgimcnpkngpmiaaDoor.OPostmark.at_ (own_cells Ot_8.out) (k := nt_28) (by omega)
      obtain rfl := Option.some.inj (gt_28.out.symm.trans z_t_28)
      simp only [Option.some.injEq, Addr.mk.injEq] at At_28
      obtain ⟨rfl, rfl, _⟩ := At_28
      clear z_t_28
      simp only [Nat.zero_add] at ct_28_0 ct_28_1 ct_28_2 ct_28_3 ct_28_4 ct_28_5
      have b0t_28 : (0 : Int) ≤ (nt_28 : Int) := by omega
      have b1t_28 : (nt_28 : Int) < ((t_8.length : Nat) : Int) := by omega
      have b2t_28 : ((nt_28 : Int)).toNat = nt_28 := by omega
      replace H := bind2_hid H
      obtain ⟨t_30a, t_30b, qt_30, H⟩ := H
      go_wp2_with fail
      go_at_call 34
      refine (Go.Proofs.YtgimcnpkngpmiaaDoor.GsShownBy.C fuel ((Go.Proofs.YtgimcnpkngpmiaaDoor.PPostmark.Postmark.mk t_28_id t_28_town t_28_kind_ t_28_first t_28_last t_28_lost))  _    qt_30).mono ?_
      rintro e_t_30 wt_30 ⟨rfl, bt_30⟩
      have HBwt_30 := Lib.hid (Below.step HBwt_27.out bt_30)
      replace ct_28_0 := cell_below bt_30 ct_28_0
      replace ct_28_1 := cell_below bt_30 ct_28_1
      replace ct_28_2 := cell_below bt_30 ct_28_2
      replace ct_28_3 := cell_below bt_30 ct_28_3
      replace ct_28_4 := cell_below bt_30 ct_28_4
      replace ct_28_5 := cell_below bt_30 ct_28_5
      replace Ot_8 := Lib.hid (own_below Ot_8.out bt_30)
      replace Ot_11 := Lib.hid (own_below Ot_11.out bt_30)
      replace Kt_27 := Lib.hid (Go.Proofs.YtgimcnpkngpmiaaDoor.GoC.cur_below Kt_27.out bt_30)
      clear bt_30
      replace H := bind2_hid H
      obtain ⟨t_36, t_36_tp, qt_36, H⟩ := H
      go_wp2_with fail
      go_at_call 68
      refine (Go.Proofs.YtgimcnpkngpmiaaDoor.GsL1CurOne.C (t_27_tp) (2) (w.heap.size) (A0) (c0) (w.heap.size) _   Kt_27 qt_36).mono ?_
      rintro e_t_36 wt_36 ⟨rfl, kt_36, gt_36⟩
      have Kt_36 := Lib.hid kt_36
      have Gt_36 : Hid (wt_30.grownBy wt_36 (Value.slice (some ⟨w.heap.size, 0, none⟩) 1 1).ownBlock) := Lib.hid gt_36
      clear kt_36 gt_36
      have HBwt_36 := Lib.hid (Go.Proofs.YtgimcnpkngpmiaaDoor.GoC.below_cur HBwt_30.out Gt_36.out HBwt_30.out.size (Go.Proofs.YtgimcnpkngpmiaaDoor.GoC.cur_lt Kt_27.out).1)
      replace ct_28_0 := cell_other ct_28_0 Gt_36.out (Apart.symm Dt_8_t_5.out)
      replace ct_28_1 := cell_other ct_28_1 Gt_36.out (Apart.symm Dt_8_t_5.out)
      replace ct_28_2 := cell_other ct_28_2 Gt_36.out (Apart.symm Dt_8_t_5.out)
      replace ct_28_3 := cell_other ct_28_3 Gt_36.out (Apart.symm Dt_8_t_5.out)
      replace ct_28_4 := cell_other ct_28_4 Gt_36.out (Apart.symm Dt_8_t_5.out)
      replace ct_28_5 := cell_other ct_28_5 Gt_36.out (Apart.symm Dt_8_t_5.out)
      replace Ot_8 := Lib.hid (own_other Ot_8.out Gt_36.out (Apart.symm Dt_8_t_5.out))
      replace Ot_11 := Lib.hid (own_other Ot_11.out Gt_36.out (Apart.symm Dt_11_t_5.out))
      clear Kt_27 Gt_36
      replace H := join_hid H
      cases t_36 with
      | false =>
        replace H := ite_f H
        replace H := app_hid H
        replace H := ite_f H
        unfold j0 at H
        replace H := unp2_hid H
        replace H := bind2_hid H
        obtain ⟨t_53, t_53_tp, qt_53, H⟩ := H
        go_wp2_with fail
        go_at_call 76
        refine (Go.Proofs.YtgimcnpkngpmiaaDoor.GsL1CurDay11.C (t_36_tp) (t_8) (some ⟨qt_28, 0, none⟩) ct_8 (w.heap.size) (A0) (c0) (w.heap.size) _   (Lib.hid (own_cells Ot_8.out)) (Lib.hid (own_max Ot_8.out)) Kt_36 (Lib.hid (fun _ => Dt_8_t_5.out)) qt_53).mono ?_
        rintro e_t_53 wt_53 ⟨rfl, kt_53, gt_53⟩
        have Kt_53 := Lib.hid kt_53
        have Gt_53 : Hid (wt_36.grownBy wt_53 (Value.slice (some ⟨w.heap.size, 0, none⟩) 1 1).ownBlock) := Lib.hid gt_53
        clear kt_53 gt_53
        have HBwt_53 := Lib.hid (Go.Proofs.YtgimcnpkngpmiaaDoor.GoC.below_cur HBwt_36.out Gt_53.out HBwt_36.out.size (Go.Proofs.YtgimcnpkngpmiaaDoor.GoC.cur_lt Kt_36.out).1)
        replace ct_28_0 := cell_other ct_28_0 Gt_53.out (Apart.symm Dt_8_t_5.out)
        replace ct_28_1 := cell_other ct_28_1 Gt_53.out (Apart.symm Dt_8_t_5.out)
        replace ct_28_2 := cell_other ct_28_2 Gt_53.out (Apart.symm Dt_8_t_5.out)
        replace ct_28_3 := cell_other ct_28_3 Gt_53.out (Apart.symm Dt_8_t_5.out)
        replace ct_28_4 := cell_other ct_28_4 Gt_53.out (Apart.symm Dt_8_t_5.out)
        replace ct_28_5 := cell_other ct_28_5 Gt_53.out (Apart.symm Dt_8_t_5.out)
        replace Ot_8 := Lib.hid (own_other Ot_8.out Gt_53.out (Apart.symm Dt_8_t_5.out))
        replace Ot_11 := Lib.hid (own_other Ot_11.out Gt_53.out (Apart.symm Dt_11_t_5.out))
        clear Kt_36 Gt_53
        cases ret_hid H
        go_wp2_with fail
        go_ret3
        exact ⟨(some ⟨qt_28, 0, none⟩), ct_8, rfl, Ot_8.out, HBwt_53.out⟩
      | true =>
        replace H := ite_t H
        replace H := let_hid H
        obtain ⟨t_40, ht_40, H⟩ := H
        replace H := app_hid H
        cases t_40 with
        | false =>
          have nht_40 : ¬ (1 < t_30a.size) := by have := of_decide_eq_false ht_40; omega
          replace H := ite_f H
          unfold j0 at H
          replace H := unp2_hid H
          replace H := bind2_hid H
          obtain ⟨t_53, t_53_tp, qt_53, H⟩ := H
          go_wp2_with fail
          go_at_call 76
          refine (Go.Proofs.YtgimcnpkngpmiaaDoor.GsL1CurDay11.C (t_36_tp) (t_8) (some ⟨qt_28, 0, none⟩) ct_8 (w.heap.size) (A0) (c0) (w.heap.size) _   (Lib.hid (own_cells Ot_8.out)) (Lib.hid (own_max Ot_8.out)) Kt_36 (Lib.hid (fun _ => Dt_8_t_5.out)) qt_53).mono ?_
          rintro e_t_53 wt_53 ⟨rfl, kt_53, gt_53⟩
          have Kt_53 := Lib.hid kt_53
          have Gt_53 : Hid (wt_36.grownBy wt_53 (Value.slice (some ⟨w.heap.size, 0, none⟩) 1 1).ownBlock) := Lib.hid gt_53
          clear kt_53 gt_53
          have HBwt_53 := Lib.hid (Go.Proofs.YtgimcnpkngpmiaaDoor.GoC.below_cur HBwt_36.out Gt_53.out HBwt_36.out.size (Go.Proofs.YtgimcnpkngpmiaaDoor.GoC.cur_lt Kt_36.out).1)
          replace ct_28_0 := cell_other ct_28_0 Gt_53.out (Apart.symm Dt_8_t_5.out)
          replace ct_28_1 := cell_other ct_28_1 Gt_53.out (Apart.symm Dt_8_t_5.out)
          replace ct_28_2 := cell_other ct_28_2 Gt_53.out (Apart.symm Dt_8_t_5.out)
          replace ct_28_3 := cell_other ct_28_3 Gt_53.out (Apart.symm Dt_8_t_5.out)
          replace ct_28_4 := cell_other ct_28_4 Gt_53.out (Apart.symm Dt_8_t_5.out)
          replace ct_28_5 := cell_other ct_28_5 Gt_53.out (Apart.symm Dt_8_t_5.out)
          replace Ot_8 := Lib.hid (own_other Ot_8.out Gt_53.out (Apart.symm Dt_8_t_5.out))
          replace Ot_11 := Lib.hid (own_other Ot_11.out Gt_53.out (Apart.symm Dt_11_t_5.out))
          clear Kt_36 Gt_53
          cases ret_hid H
          go_wp2_with fail
          go_ret3
          exact ⟨(some ⟨qt_28, 0, none⟩), ct_8, rfl, Ot_8.out, HBwt_53.out⟩
        | true =>
          have nht_40 : 1 < t_30a.size := by have := of_decide_eq_true ht_40; omega
          replace H := ite_t H
          go_wp2_with fail
          have Hct_28_0 := Lib.hid ct_28_0
          replace ct_28_0 := cell_regrown ct_28_0
          have Hct_28_1 := Lib.hid ct_28_1
          replace ct_28_1 := cell_regrown ct_28_1
          have Hct_28_2 := Lib.hid ct_28_2
          replace ct_28_2 := cell_regrown ct_28_2
          have Hct_28_3 := Lib.hid ct_28_3
          replace ct_28_3 := cell_regrown ct_28_3
          have Hct_28_4 := Lib.hid ct_28_4
          replace ct_28_4 := cell_regrown ct_28_4
          have Hct_28_5 := Lib.hid ct_28_5
          replace ct_28_5 := cell_regrown ct_28_5
          replace H := guard_hid H
          obtain ⟨hl_t_43, H⟩ := H
          replace H := let_hid H
          obtain ⟨t_43, ht_43, H⟩ := H
          have ct_43 := slice_to (P := Tryd.prog) (t := 9) (k := .i64) Tryd.underlying9 ht_43 hl_t_43
          clear hl_t_43
          have hht_43 := Lib.hid ht_43
          clear ht_43
          replace H := guard_hid H
          obtain ⟨hl_t_44, H⟩ := H
          replace H := let_hid H
          obtain ⟨t_44, ht_44, H⟩ := H
          have ct_44 := cat_rule (P := Tryd.prog) ht_44 hl_t_44
          clear hl_t_44
          have hht_44 := Lib.hid ht_44
          clear ht_44
          replace H := guard_hid H
          obtain ⟨hl_t_46, H⟩ := H
          replace H := let_hid H
          obtain ⟨t_46, ht_46, H⟩ := H
          have ct_46 := slice_from (P := Tryd.prog) (t := 9) (k := .i64) Tryd.underlying9 ht_46 hl_t_46
          clear hl_t_46
          have hht_46 := Lib.hid ht_46
          clear ht_46
          replace H := guard_hid H
          obtain ⟨hl_t_47, H⟩ := H
          replace H := let_hid H
          obtain ⟨t_47, ht_47, H⟩ := H
          have ct_47 := cat_rule (P := Tryd.prog) ht_47 hl_t_47
          clear hl_t_47
          have hht_47 := Lib.hid ht_47
          clear ht_47
          refine wp_region_quiet_below (by kernel_rfl) (by kernel_rfl) ?_
          repeat (go_big_quiet_step (fail))
          refine wpQuiet_nil ?_
          intro Y8 hY8
          replace hY8 := below_class hY8
          replace ct_28_0 := Hct_28_0.out
          clear Hct_28_0
          replace ct_28_1 := Hct_28_1.out
          clear Hct_28_1
          replace ct_28_2 := Hct_28_2.out
          clear Hct_28_2
          replace ct_28_3 := Hct_28_3.out
          clear Hct_28_3
          replace ct_28_4 := Hct_28_4.out
          clear Hct_28_4
          replace ct_28_5 := Hct_28_5.out
          clear Hct_28_5
          have HBY8 := Lib.hid (Below.step HBwt_36.out hY8)
          replace ct_28_0 := cell_below hY8 ct_28_0
          replace ct_28_1 := cell_below hY8 ct_28_1
          replace ct_28_2 := cell_below hY8 ct_28_2
          replace ct_28_3 := cell_below hY8 ct_28_3
          replace ct_28_4 := cell_below hY8 ct_28_4
          replace ct_28_5 := cell_below hY8 ct_28_5
          replace Ot_8 := Lib.hid (own_below Ot_8.out hY8)
          replace Ot_11 := Lib.hid (own_below Ot_11.out hY8)
          replace Kt_36 := Lib.hid (Go.Proofs.YtgimcnpkngpmiaaDoor.GoC.cur_below Kt_36.out hY8)
          clear hY8
          unfold j0 at H
          replace H := unp2_hid H
          replace H := bind2_hid H
          obtain ⟨t_53, t_53_tp, qt_53, H⟩ := H
          go_wp2_with fail
          go_at_call 76
          refine (Go.Proofs.YtgimcnpkngpmiaaDoor.GsL1CurDay11.C (t_36_tp) (t_8) (some ⟨qt_28, 0, none⟩) ct_8 (w.heap.size) (A0) (c0) (w.heap.size) _   (Lib.hid (own_cells Ot_8.out)) (Lib.hid (own_max Ot_8.out)) Kt_36 (Lib.hid (fun _ => Dt_8_t_5.out)) qt_53).mono ?_
          rintro e_t_53 wt_53 ⟨rfl, kt_53, gt_53⟩
          have Kt_53 := Lib.hid kt_53
          have Gt_53 : Hid (Y8.grownBy wt_53 (Value.slice (some ⟨w.heap.size, 0, none⟩) 1 1).ownBlock) := Lib.hid gt_53
          clear kt_53 gt_53
          have HBwt_53 := Lib.hid (Go.Proofs.YtgimcnpkngpmiaaDoor.GoC.below_cur HBY8.out Gt_53.out HBY8.out.size (Go.Proofs.YtgimcnpkngpmiaaDoor.GoC.cur_lt Kt_36.out).1)
          replace ct_28_0 := cell_other ct_28_0 Gt_53.out (Apart.symm Dt_8_t_5.out)
          replace ct_28_1 := cell_other ct_28_1 Gt_53.out (Apart.symm Dt_8_t_5.out)
          replace ct_28_2 := cell_other ct_28_2 Gt_53.out (Apart.symm Dt_8_t_5.out)
          replace ct_28_3 := cell_other ct_28_3 Gt_53.out (Apart.symm Dt_8_t_5.out)
          replace ct_28_4 := cell_other ct_28_4 Gt_53.out (Apart.symm Dt_8_t_5.out)
          replace ct_28_5 := cell_other ct_28_5 Gt_53.out (Apart.symm Dt_8_t_5.out)
          replace Ot_8 := Lib.hid (own_other Ot_8.out Gt_53.out (Apart.symm Dt_8_t_5.out))
          replace Ot_11 := Lib.hid (own_other Ot_11.out Gt_53.out (Apart.symm Dt_11_t_5.out))
          clear Kt_36 Gt_53
          cases ret_hid H
          go_wp2_with fail
          go_ret3
          exact ⟨(some ⟨qt_28, 0, none⟩), ct_8, rfl, Ot_8.out, HBwt_53.out⟩
    | true =>
      replace H := let_hid H
      obtain ⟨t_22, ht_22, H⟩ := H
      obtain rfl : t_22 = false := ht_22.symm
      replace H := app_hid H
      replace H := unp2_hid H
      replace H := ite_f H
      unfold j0 at H
      replace H := unp2_hid H
      replace H := bind2_hid H
      obtain ⟨t_53, t_53_tp, qt_53, H⟩ := H
      go_wp2_with fail
      go_at_call 76
      refine (Go.Proofs.YtgimcnpkngpmiaaDoor.GsL1CurDay11.C (t_21_tp) (t_8) At_8 ct_8 (w.heap.size) (A0) (c0) (w.heap.size) _   (Lib.hid (own_cells Ot_8.out)) (Lib.hid (own_max Ot_8.out)) Kt_21 (Lib.hid (fun _ => Dt_8_t_5.out)) qt_53).mono ?_
      rintro e_t_53 wt_53 ⟨rfl, kt_53, gt_53⟩
      have Kt_53 := Lib.hid kt_53
      have Gt_53 : Hid (wt_21.grownBy wt_53 (Value.slice (some ⟨w.heap.size, 0, none⟩) 1 1).ownBlock) := Lib.hid gt_53
      clear kt_53 gt_53
      have HBwt_53 := Lib.hid (Go.Proofs.YtgimcnpkngpmiaaDoor.GoC.below_cur HBwt_21.out Gt_53.out HBwt_21.out.size (Go.Proofs.YtgimcnpkngpmiaaDoor.GoC.cur_lt Kt_21.out).1)
      replace Ot_8 := Lib.hid (own_other Ot_8.out Gt_53.out (Apart.symm Dt_8_t_5.out))
      replace Ot_11 := Lib.hid (own_other Ot_11.out Gt_53.out (Apart.symm Dt_11_t_5.out))
      clear Kt_21 Gt_53
      cases ret_hid H
      go_wp2_with fail
      go_ret3
      exact ⟨At_8, ct_8, rfl, Ot_8.out, HBwt_53.out⟩
end Go.Proofs.YtgimcnpkngpmiaaDoor.GsDrawReadMarks

/- loop.example/g01062/spec.l11Reading as a plain function, and the contract of the program's: where the plain one has an answer, the program has it. Conditions: slices read as lists. -/
namespace Go.Proofs.YtgimcnpkngpmiaaDoor.GsL11Reading
set_option linter.unusedVariables false
set_option linter.unusedSimpArgs false
open Go.RowKit
open Go.Proofs.YtgimcnpkngpmiaaDoor.Rowed Go.Proofs.YtgimcnpkngpmiaaDoor.Turn Go.Proofs.YtgimcnpkngpmiaaDoor.Aid Go.Proofs.YtgimcnpkngpmiaaDoor.GoP Go.Proofs.YtgimcnpkngpmiaaDoor.GoM

def l0 (s_0 : ByteArray) (s : Int) (nx0 bk0 : Int → Option (Bool)) : Option (Bool) :=
  letK s fun i_3l0 =>
  letK (decide (i_3l0 < (s_0.size : Int))) fun (t_5 : Bool) =>
  joinK (fun (t_9 : Bool) =>
  iteK t_9
  (Option.bind (idx s_0.toList i_3l0) fun (yt_12 : UInt8) =>
  letK ((yt_12.toNat : Int)) fun (t_12 : Int) =>
  letK (t_12 != 63) fun (t_13 : Bool) =>
  joinK (fun (t_25 : Bool) =>
  iteK t_25
  (some false)
  (letK (IntKind.i64.wrap (i_3l0 + 1)) fun (t_28 : Int) =>
  appK nx0 (t_28))) fun jt_25 => iteK t_13 (Option.bind (idx s_0.toList i_3l0) fun (yt_17 : UInt8) =>
  letK ((yt_17.toNat : Int)) fun (t_17 : Int) =>
  letK (decide (t_17 < 97)) fun (t_18 : Bool) =>
  joinK (fun (t_24 : Bool) =>
  appK jt_25 t_24) fun jt_24 => iteK t_18 (appK jt_24 true) (Option.bind (idx s_0.toList i_3l0) fun (yt_22 : UInt8) =>
  letK ((yt_22.toNat : Int)) fun (t_22 : Int) =>
  letK (decide (122 < t_22)) fun (t_23 : Bool) =>
  appK jt_24 t_23)) (appK jt_25 false))
  (appK bk0 (i_3l0))) fun jt_9 => iteK t_5 (letK (decide (i_3l0 ≤ 10)) fun (t_8 : Bool) =>
  appK jt_9 t_8) (appK jt_9 false)

def e0 (s_0 : ByteArray) (s : Int) : Option (Bool) :=
  letK s fun i_3l0 =>
  Option.bind (Go.Proofs.YtgimcnpkngpmiaaDoor.GsL1In.P (s_0.size : Int) 1 10) fun (t_32 : Bool) =>
  some t_32

def P (fuel : Nat) (s_0 : ByteArray) : Option (Bool) :=
  loopK (l0 s_0) fuel (0) (e0 s_0)

set_option maxRecDepth 100000 in
set_option maxHeartbeats 2000000 in
theorem C (fuel : Nat) (s_0 : ByteArray)   (w : World)   {r : Bool} (H : Hid (P fuel s_0 = some r)) :
    Calls Tryd.prog 41 #[.string s_0] w (Gives (.bool r) w) := by
  have HB := Lib.hid (Below.refl w.heap.size w)
  unfold P at H
  go_enter Tryd.func41, Tryd.ntmps41
  go_wp2_with fail
  go_loopg [3] (fuel) (fun m_ v3_ wr => ∃ (i_3l0 : Int), v3_ = .int .i64 i_3l0 ∧ Hid (loopK (l0 s_0) m_ (i_3l0) (e0 s_0) = some r) ∧ Hid (Below w.heap.size w wr))
  case atStart => exact ⟨_, rfl, H, HB⟩
  case round =>
    obtain ⟨i_3l0, rfl, H, HBwr0⟩ := hrel
    rename World => wr0
    cases gk with
    | zero => exact (loop_zero H).elim
    | succ m0 =>
      replace H := loop_succ H
      unfold l0 at H
      replace H := let_hid H
      obtain ⟨_, rfl, H⟩ := H
      replace H := let_hid H
      obtain ⟨t_5, ht_5, H⟩ := H
      replace H := join_hid H
      cases t_5 with
      | false =>
        replace H := ite_f H
        replace H := app_hid H
        replace H := ite_f H
        replace H := app_hid H
        unfold e0 at H
        replace H := let_hid H
        obtain ⟨_, rfl, H⟩ := H
        replace H := bind_hid H
        obtain ⟨t_32, qt_32, H⟩ := H
        go_wp2_with fail
        go_at_call 67
        refine (Go.Proofs.YtgimcnpkngpmiaaDoor.GsL1In.C ((s_0.size : Int)) (1) (10)  _    qt_32).mono ?_
        rintro e_t_32 wt_32 ⟨rfl, bt_32⟩
        have HBwt_32 := Lib.hid (Below.step HBwr0.out bt_32)
        clear bt_32
        obtain rfl := ret_hid H
        go_wp2_with fail
        go_ret
        exact ⟨rfl, HBwt_32.out⟩
      | true =>
        replace H := ite_t H
        replace H := let_hid H
        obtain ⟨t_8, ht_8, H⟩ := H
        replace H := app_hid H
        cases t_8 with
        | false =>
          replace H := ite_f H
          replace H := app_hid H
          unfold e0 at H
          replace H := let_hid H
          obtain ⟨_, rfl, H⟩ := H
          replace H := bind_hid H
          obtain ⟨t_32, qt_32, H⟩ := H
          go_wp2_with fail
          go_at_call 67
          refine (Go.Proofs.YtgimcnpkngpmiaaDoor.GsL1In.C ((s_0.size : Int)) (1) (10)  _    qt_32).mono ?_
          rintro e_t_32 wt_32 ⟨rfl, bt_32⟩
          have HBwt_32 := Lib.hid (Below.step HBwr0.out bt_32)
          clear bt_32
          obtain rfl := ret_hid H
          go_wp2_with fail
          go_ret
          exact ⟨rfl, HBwt_32.out⟩
        | true =>
          replace H := ite_t H
          replace H := idx_hid H
          obtain ⟨nt_12, yt_12, et_12, lt_12, gt_12, H⟩ := H
          subst et_12
          have nc_561 : nt_12 < s_0.size := by have := of_decide_eq_true ht_5; omega
          have nc_562 : nt_12 ≤ 10 := by have := of_decide_eq_true ht_8; omega
          have rt_12 := byte_rule lt_12 gt_12.out
          have b0t_12 : (0 : Int) ≤ (nt_12 : Int) := by omega
          have b1t_12 : (nt_12 : Int) < (s_0.size : Int) := by have := size_list s_0; omega
          have b2t_12 : ((nt_12 : Int)).toNat = nt_12 := by omega
          have b3t_12 : nt_12 < s_0.size := by have := size_list s_0; omega
          replace H := let_hid H
          obtain ⟨t_12, ht_12, H⟩ := H
          replace H := let_hid H
          obtain ⟨t_13, ht_13, H⟩ := H
          replace H := join_hid H
          cases t_13 with
          | false =>
            replace H := ite_f H
            replace H := app_hid H
            replace H := ite_f H
            replace H := let_hid H
            obtain ⟨t_28, ht_28, H⟩ := H
            replace H := app_hid H
            go_wp2_with fail
            go_roundg m0
            case measure => omega
            case rel => exact ⟨_, rfl, H, HBwr0⟩
          | true =>
            replace H := ite_t H
            replace H := idx_hid H
            obtain ⟨nt_17, yt_17, et_17, lt_17, gt_17, H⟩ := H
            obtain rfl : nt_12 = nt_17 := by omega
            clear et_17
            obtain rfl := Option.some.inj (gt_12.out.symm.trans gt_17.out)
            clear gt_17 lt_17
            replace H := let_hid H
            obtain ⟨t_17, ht_17, H⟩ := H
            obtain rfl := ht_12.symm.trans ht_17
            replace H := let_hid H
            obtain ⟨t_18, ht_18, H⟩ := H
            replace H := join_hid H
            cases t_18 with
            | false =>
              replace H := ite_f H
              replace H := idx_hid H
              obtain ⟨nt_22, yt_22, et_22, lt_22, gt_22, H⟩ := H
              obtain rfl : nt_12 = nt_22 := by omega
              clear et_22
              obtain rfl := Option.some.inj (gt_12.out.symm.trans gt_22.out)
              clear gt_22 lt_22
              replace H := let_hid H
              obtain ⟨t_22, ht_22, H⟩ := H
              obtain rfl := ht_12.symm.trans ht_22
              replace H := let_hid H
              obtain ⟨t_23, ht_23, H⟩ := H
              replace H := app_hid H
              replace H := app_hid H
              cases t_23 with
              | false =>
                replace H := ite_f H
                replace H := let_hid H
                obtain ⟨t_28, ht_28, H⟩ := H
                replace H := app_hid H
                go_wp2_with fail
                go_roundg m0
                case measure => omega
                case rel => exact ⟨_, rfl, H, HBwr0⟩
              | true =>
                replace H := ite_t H
                obtain rfl := ret_hid H
                go_wp2_with fail
                go_ret
                exact ⟨rfl, HBwr0.out⟩
            | true =>
              replace H := ite_t H
              replace H := app_hid H
              replace H := app_hid H
              replace H := ite_t H
              obtain rfl := ret_hid H
              go_wp2_with fail
              go_ret
              exact ⟨rfl, HBwr0.out⟩
end Go.Proofs.YtgimcnpkngpmiaaDoor.GsL11Reading

/- loop.example/g01062/spec.l11Used as a plain function, and the contract of the program's: where the plain one has an answer, the program has it. Conditions: slices read as lists. -/
namespace Go.Proofs.YtgimcnpkngpmiaaDoor.GsL11Used
set_option linter.unusedVariables false
set_option linter.unusedSimpArgs false
open Go.RowKit
open Go.Proofs.YtgimcnpkngpmiaaDoor.Rowed Go.Proofs.YtgimcnpkngpmiaaDoor.Turn Go.Proofs.YtgimcnpkngpmiaaDoor.Aid Go.Proofs.YtgimcnpkngpmiaaDoor.GoP Go.Proofs.YtgimcnpkngpmiaaDoor.GoM

def P (p : Go.Proofs.YtgimcnpkngpmiaaDoor.PPostmark.Postmark) (day : Int) : Option (Bool) :=
  unPostmark p fun (p_id : Int) (p_town : ByteArray) (p_kind_ : Int) (p_first : Int) (p_last : Int) (p_lost : ByteArray) =>
  Option.bind (Go.Proofs.YtgimcnpkngpmiaaDoor.GsL1In.P day p_first p_last) fun (t_7 : Bool) =>
  some t_7

set_option maxRecDepth 100000 in
set_option maxHeartbeats 2000000 in
theorem C (p : Go.Proofs.YtgimcnpkngpmiaaDoor.PPostmark.Postmark) (day : Int)   (w : World)   {r : Bool} (H : Hid (P p day = some r)) :
    Calls Tryd.prog 43 #[p.val, .int .i64 day] w (Gives (.bool r) w) := by
  have HB := Lib.hid (Below.refl w.heap.size w)
  unfold P at H
  obtain ⟨p_id, p_town, p_kind_, p_first, p_last, p_lost⟩ := p
  replace H := unPostmark_hid H
  unfold Go.Proofs.YtgimcnpkngpmiaaDoor.PPostmark.Postmark.val
  go_enter Tryd.func43, Tryd.ntmps43
  obtain ⟨w_p_0, hw_p_0⟩ : ∃ x, w.alloc (.cells #[.int .i64 p_id, .string p_town, .int .i64 p_kind_, .int .i64 p_first, .int .i64 p_last, .string p_lost] 39) = x := ⟨_, rfl⟩
  have bw_p_0 : Below w.heap.size w w_p_0 := by rw [← hw_p_0]; exact (Below.refl _ _).alloc (Nat.le_refl _) _
  have HBw_p_0 := Lib.hid (Below.step HB.out bw_p_0)
  clear bw_p_0
  have kp_0_0 : w_p_0.cell? ⟨w.heap.size, 0, none⟩ = some (.int .i64 p_id) := by rw [← hw_p_0]; exact box_new _ _ _ 0 _ rfl
  have kp_0_1 : w_p_0.cell? ⟨w.heap.size, 1, none⟩ = some (.string p_town) := by rw [← hw_p_0]; exact box_new _ _ _ 1 _ rfl
  have kp_0_2 : w_p_0.cell? ⟨w.heap.size, 2, none⟩ = some (.int .i64 p_kind_) := by rw [← hw_p_0]; exact box_new _ _ _ 2 _ rfl
  have kp_0_3 : w_p_0.cell? ⟨w.heap.size, 3, none⟩ = some (.int .i64 p_first) := by rw [← hw_p_0]; exact box_new _ _ _ 3 _ rfl
  have kp_0_4 : w_p_0.cell? ⟨w.heap.size, 4, none⟩ = some (.int .i64 p_last) := by rw [← hw_p_0]; exact box_new _ _ _ 4 _ rfl
  have kp_0_5 : w_p_0.cell? ⟨w.heap.size, 5, none⟩ = some (.string p_lost) := by rw [← hw_p_0]; exact box_new _ _ _ 5 _ rfl
  replace H := bind_hid H
  obtain ⟨t_7, qt_7, H⟩ := H
  go_wp2_with fail
  go_at_call 67
  refine (Go.Proofs.YtgimcnpkngpmiaaDoor.GsL1In.C (day) (p_first) (p_last)  _    qt_7).mono ?_
  rintro e_t_7 wt_7 ⟨rfl, bt_7⟩
  have HBwt_7 := Lib.hid (Below.step HBw_p_0.out bt_7)
  replace kp_0_0 := cell_below bt_7 kp_0_0
  replace kp_0_1 := cell_below bt_7 kp_0_1
  replace kp_0_2 := cell_below bt_7 kp_0_2
  replace kp_0_3 := cell_below bt_7 kp_0_3
  replace kp_0_4 := cell_below bt_7 kp_0_4
  replace kp_0_5 := cell_below bt_7 kp_0_5
  clear bt_7
  obtain rfl := ret_hid H
  go_wp2_with fail
  go_ret
  exact ⟨rfl, HBwt_7.out⟩
end Go.Proofs.YtgimcnpkngpmiaaDoor.GsL11Used

/- loop.example/g01062/spec.ReadMarks as a plain function, and the contract of the program's: where the plain one has an answer, the program has it. Conditions: slices read as lists. -/
namespace Go.Proofs.YtgimcnpkngpmiaaDoor.GsReadMarks
set_option linter.unusedVariables false
set_option linter.unusedSimpArgs false
open Go.RowKit
open Go.Proofs.YtgimcnpkngpmiaaDoor.Rowed Go.Proofs.YtgimcnpkngpmiaaDoor.Turn Go.Proofs.YtgimcnpkngpmiaaDoor.Aid Go.Proofs.YtgimcnpkngpmiaaDoor.GoP Go.Proofs.YtgimcnpkngpmiaaDoor.GoM

def l0 (list : (List Go.Proofs.YtgimcnpkngpmiaaDoor.PPostmark.Postmark)) (reading : ByteArray) (day : Int) (fuel : Nat) (k0 : Nat) (s : (List Int)) (nx0 bk0 : (List Int) → Option ((List Int) × Bool)) : Option ((List Int) × Bool) :=
  letK s fun out_8l0 =>
  Option.bind (idx list (k0 : Int)) fun (yt_27 : Go.Proofs.YtgimcnpkngpmiaaDoor.PPostmark.Postmark) =>
  unPostmark yt_27 fun (t_27_id : Int) (t_27_town : ByteArray) (t_27_kind_ : Int) (t_27_first : Int) (t_27_last : Int) (t_27_lost : ByteArray) =>
  Option.bind (Go.Proofs.YtgimcnpkngpmiaaDoor.GsL11Used.P (Go.Proofs.YtgimcnpkngpmiaaDoor.PPostmark.Postmark.mk t_27_id t_27_town t_27_kind_ t_27_first t_27_last t_27_lost) day) fun (t_30 : Bool) =>
  joinK (fun (t_39 : Bool) =>
  iteK t_39
  (Option.bind (idx list (k0 : Int)) fun (yt_43 : Go.Proofs.YtgimcnpkngpmiaaDoor.PPostmark.Postmark) =>
  unPostmark yt_43 fun (t_43_id : Int) (t_43_town : ByteArray) (t_43_kind_ : Int) (t_43_first : Int) (t_43_last : Int) (t_43_lost : ByteArray) =>
  guardK (out_8l0.length ≤ 1099511627776) <|
  letK (out_8l0 ++ [t_43_id]) fun (t_47 : (List Int)) =>
  appK nx0 (t_47))
  (appK nx0 (out_8l0))) fun jt_39 => iteK t_30 (Option.bind (idx list (k0 : Int)) fun (yt_35 : Go.Proofs.YtgimcnpkngpmiaaDoor.PPostmark.Postmark) =>
  unPostmark yt_35 fun (t_35_id : Int) (t_35_town : ByteArray) (t_35_kind_ : Int) (t_35_first : Int) (t_35_last : Int) (t_35_lost : ByteArray) =>
  Option.bind (Go.Proofs.YtgimcnpkngpmiaaDoor.GsL11Shown.P fuel (Go.Proofs.YtgimcnpkngpmiaaDoor.PPostmark.Postmark.mk t_35_id t_35_town t_35_kind_ t_35_first t_35_last t_35_lost)) fun (t_37 : ByteArray) =>
  Option.bind (Go.Proofs.YtgimcnpkngpmiaaDoor.GsL11Reads.P reading t_37) fun (t_38 : Bool) =>
  appK jt_39 t_38) (appK jt_39 false)

def e0  (s : (List Int)) : Option ((List Int) × Bool) :=
  letK s fun out_8l0 =>
  some (out_8l0, true)

def P (fuel : Nat) (list : (List Go.Proofs.YtgimcnpkngpmiaaDoor.PPostmark.Postmark)) (reading : ByteArray) (day : Int) : Option ((List Int) × Bool) :=
  Option.bind (Go.Proofs.YtgimcnpkngpmiaaDoor.GsL11Good.P fuel list) fun (t_5 : Bool) =>
  letK (!t_5) fun (t_6 : Bool) =>
  joinK (fun (t_11 : Bool) =>
  joinK (fun (t_16 : Bool) =>
  iteK t_16
  (some (([] : List Int), false))
  (cntK (l0 list reading day fuel) (list.length) 0 (([] : List Int)) (e0 ))) fun jt_16 => iteK t_11 (appK jt_16 true) (Option.bind (Go.Proofs.YtgimcnpkngpmiaaDoor.GsL2Day.P day) fun (t_14 : Bool) =>
  letK (!t_14) fun (t_15 : Bool) =>
  appK jt_16 t_15)) fun jt_11 => iteK t_6 (appK jt_11 true) (Option.bind (Go.Proofs.YtgimcnpkngpmiaaDoor.GsL11Reading.P fuel reading) fun (t_9 : Bool) =>
  letK (!t_9) fun (t_10 : Bool) =>
  appK jt_11 t_10)

set_option maxRecDepth 100000 in
set_option maxHeartbeats 2000000 in
theorem C (fuel : Nat) (list : (List Go.Proofs.YtgimcnpkngpmiaaDoor.PPostmark.Postmark)) (reading : ByteArray) (day : Int) (A0 : Option Addr) (c0 : Nat)  (w : World) (M0 : Hid (Cells w 6 A0 list.length (Go.Proofs.YtgimcnpkngpmiaaDoor.PPostmark.flat list))) (N0 : Hid (list.length ≤ 9223372036854775807))  {r0 : (List Int)} {r1 : Bool} (H : Hid (P fuel list reading day = some (r0, r1))) :
    Calls Tryd.prog 7 #[.slice A0 list.length c0, .string reading, .int .i64 day] w (fun e w' => ∃ A_r0 c_r0, e = .returned (.tuple #[.slice A_r0 r0.length c_r0, .bool r1]) ∧ w'.ownsRow w.heap.size 3 1 (.slice A_r0 r0.length c_r0) r0.length (Go.Proofs.YtgimcnpkngpmiaaDoor.HelpInt.iv r0) ∧ Below w.heap.size w w') := by
  have HB := Lib.hid (Below.refl w.heap.size w)
  unfold P at H
  have N0o := N0.out
  obtain ⟨i0_3, hi_3, hz0_3, hz1_3, hz2_3⟩ := Aid.info_parts (P := Tryd.prog) (T := 3) (z := .int .i64 0) (s := 1) (b := 8) (by kernel_rfl)
  go_enter Tryd.func7, Tryd.ntmps7
  obtain ⟨w_t_2, hw_t_2⟩ : ∃ x, w.alloc (.cells #[] 3) = x := ⟨_, rfl⟩
  have bw_t_2 : Below w.heap.size w w_t_2 := by rw [← hw_t_2]; exact (Below.refl _ _).alloc (Nat.le_refl _) _
  have Ot_2 : Hid (w_t_2.ownsRow w.heap.size 3 1 (.slice (some ⟨w.heap.size, 0, none⟩) 0 0) 0 []) := Lib.hid (by rw [← hw_t_2]; exact own_empty HB.out.size)
  have HBw_t_2 := Lib.hid (Below.step HB.out bw_t_2)
  clear bw_t_2
  replace H := bind_hid H
  obtain ⟨t_5, qt_5, H⟩ := H
  go_wp2_with fail
  go_at_call 40
  refine (Go.Proofs.YtgimcnpkngpmiaaDoor.GsL11Good.C fuel (list) A0 c0 _   (Lib.hid (Cells.below M0.out HBw_t_2.out)) N0 qt_5).mono ?_
  rintro e_t_5 wt_5 ⟨rfl, bt_5⟩
  have HBwt_5 := Lib.hid (Below.step HBw_t_2.out bt_5)
  replace Ot_2 := Lib.hid (own_below Ot_2.out bt_5)
  clear bt_5
  cases t_5 with
  | false =>
    replace H := let_hid H
    obtain ⟨t_6, ht_6, H⟩ := H
    obtain rfl : t_6 = true := ht_6.symm
    replace H := join_hid H
    replace H := ite_t H
    replace H := app_hid H
    replace H := join_hid H
    replace H := ite_t H
    replace H := app_hid H
    replace H := ite_t H
    cases ret_hid H
    go_wp2_with fail
    go_ret2
    exact ⟨(some ⟨w.heap.size, 0, none⟩), 0, rfl, Ot_2.out, HBwt_5.out⟩
  | true =>
    replace H := let_hid H
    obtain ⟨t_6, ht_6, H⟩ := H
    obtain rfl : t_6 = false := ht_6.symm
    replace H := join_hid H
    replace H := ite_f H
    replace H := bind_hid H
    obtain ⟨t_9, qt_9, H⟩ := H
    go_wp2_with fail
    go_at_call 41
    refine (Go.Proofs.YtgimcnpkngpmiaaDoor.GsL11Reading.C fuel (reading)  _    qt_9).mono ?_
    rintro e_t_9 wt_9 ⟨rfl, bt_9⟩
    have HBwt_9 := Lib.hid (Below.step HBwt_5.out bt_9)
    replace Ot_2 := Lib.hid (own_below Ot_2.out bt_9)
    clear bt_9
    cases t_9 with
    | false =>
      replace H := let_hid H
      obtain ⟨t_10, ht_10, H⟩ := H
      obtain rfl : t_10 = true := ht_10.symm
      replace H := app_hid H
      replace H := join_hid H
      replace H := ite_t H
      replace H := app_hid H
      replace H := ite_t H
      cases ret_hid H
      go_wp2_with fail
      go_ret2
      exact ⟨(some ⟨w.heap.size, 0, none⟩), 0, rfl, Ot_2.out, HBwt_9.out⟩
    | true =>
      replace H := let_hid H
      obtain ⟨t_10, ht_10, H⟩ := H
      obtain rfl : t_10 = false := ht_10.symm
      replace H := app_hid H
      replace H := join_hid H
      replace H := ite_f H
      replace H := bind_hid H
      obtain ⟨t_14, qt_14, H⟩ := H
      go_wp2_with fail
      go_at_call 42
      refine (Go.Proofs.YtgimcnpkngpmiaaDoor.GsL2Day.C (day)  _    qt_14).mono ?_
      rintro e_t_14 wt_14 ⟨rfl, bt_14⟩
      have HBwt_14 := Lib.hid (Below.step HBwt_9.out bt_14)
      replace Ot_2 := Lib.hid (own_below Ot_2.out bt_14)
      clear bt_14
      cases t_14 with
      | false =>
        replace H := let_hid H
        obtain ⟨t_15, ht_15, H⟩ := H
        obtain rfl : t_15 = true := ht_15.symm
        replace H := app_hid H
        replace H := ite_t H
        cases ret_hid H
        go_wp2_with fail
        go_ret2
        exact ⟨(some ⟨w.heap.size, 0, none⟩), 0, rfl, Ot_2.out, HBwt_14.out⟩
      | true =>
        replace H := let_hid H
        obtain ⟨t_15, ht_15, H⟩ := H
        obtain rfl : t_15 = false := ht_15.symm
        replace H := app_hid H
        replace H := ite_f H
        go_wp2_with fail
        go_loopg [9, 8] (list.length) (fun m_ v9_ v8_ wr => ∃ (k0 : Nat) (out_8l0 : (List Int)) (Aout_8l0 : Option Addr) (cout_8l0 : Nat), k0 + m_ = list.length ∧ v9_ = .int .i64 (k0 : Int) ∧ v8_ = .slice Aout_8l0 out_8l0.length cout_8l0 ∧ Hid (cntK (l0 list reading day fuel) m_ k0 (out_8l0) (e0 ) = some (r0, r1)) ∧ Hid (Below w.heap.size w wr) ∧ Hid (wr.ownsRow w.heap.size 3 1 (.slice Aout_8l0 out_8l0.length cout_8l0) out_8l0.length (Go.Proofs.YtgimcnpkngpmiaaDoor.HelpInt.iv out_8l0)))
        case atStart => exact ⟨0, _, _, _, by omega, rfl, rfl, H, HBwt_14, Ot_2⟩
        case round =>
          obtain ⟨k0, out_8l0, Aout_8l0, cout_8l0, hkm0, rfl, rfl, H, HBwr0, Oout_8l0⟩ := hrel
          rename World => wr0
          cases gk with
          | zero =>
            obtain rfl : k0 = list.length := by omega
            have hc0 : decide (((list.length : Nat) : Int) < ((list.length : Nat) : Int)) = false := by simp
            replace H := cnt_zero H
            unfold e0 at H
            replace H := let_hid H
            obtain ⟨_, rfl, H⟩ := H
            cases ret_hid H
            go_wp2_with fail
            go_ret2
            exact ⟨Aout_8l0, cout_8l0, rfl, Oout_8l0.out, HBwr0.out⟩
          | succ m0 =>
            have hlt0 : k0 < list.length := by omega
            have hc0 : decide ((k0 : Int) < ((list.length : Nat) : Int)) = true := by simp; omega
            replace H := cnt_succ H
            unfold l0 at H
            replace H := let_hid H
            obtain ⟨_, rfl, H⟩ := H
            replace H := idx_hid H
            obtain ⟨nt_27, yt_27, et_27, lt_27, gt_27, H⟩ := H
            obtain rfl : k0 = nt_27 := by omega
            clear et_27
            obtain ⟨t_27_id, t_27_town, t_27_kind_, t_27_first, t_27_last, t_27_lost⟩ := yt_27
            replace H := unPostmark_hid H
            obtain ⟨ab_t_27, ao_t_27, zt_27, At_27, z_t_27, ct_27_0, ct_27_1, ct_27_2, ct_27_3, ct_27_4, ct_27_5⟩ := Go.Proofs.YtgimcnpkngpmiaaDoor.OPostmark.at_ M0.out lt_27
            obtain rfl := Option.some.inj (gt_27.out.symm.trans z_t_27)
            subst At_27
            have ltt_27 := cell_lt ct_27_0
            replace ct_27_0 := cell_below HBwr0.out ct_27_0
            replace ct_27_1 := cell_below HBwr0.out ct_27_1
            replace ct_27_2 := cell_below HBwr0.out ct_27_2
            replace ct_27_3 := cell_below HBwr0.out ct_27_3
            replace ct_27_4 := cell_below HBwr0.out ct_27_4
            replace ct_27_5 := cell_below HBwr0.out ct_27_5
            clear z_t_27
            have b0t_27 : (0 : Int) ≤ (k0 : Int) := by omega
            have b1t_27 : (k0 : Int) < ((list.length : Nat) : Int) := by omega
            have b2t_27 : ((k0 : Int)).toNat = k0 := by omega
            replace H := bind_hid H
            obtain ⟨t_30, qt_30, H⟩ := H
            go_wp2_with fail
            go_at_call 43
            refine (Go.Proofs.YtgimcnpkngpmiaaDoor.GsL11Used.C ((Go.Proofs.YtgimcnpkngpmiaaDoor.PPostmark.Postmark.mk t_27_id t_27_town t_27_kind_ t_27_first t_27_last t_27_lost)) (day)  _    qt_30).mono ?_
            rintro e_t_30 wt_30 ⟨rfl, bt_30⟩
            have HBwt_30 := Lib.hid (Below.step HBwr0.out bt_30)
            replace ct_27_0 := cell_below bt_30 ct_27_0
            replace ct_27_1 := cell_below bt_30 ct_27_1
            replace ct_27_2 := cell_below bt_30 ct_27_2
            replace ct_27_3 := cell_below bt_30 ct_27_3
            replace ct_27_4 := cell_below bt_30 ct_27_4
            replace ct_27_5 := cell_below bt_30 ct_27_5
            replace Oout_8l0 := Lib.hid (own_below Oout_8l0.out bt_30)
            clear bt_30
            replace H := join_hid H
            cases t_30 with
            | false =>
              replace H := ite_f H
              replace H := app_hid H
              replace H := ite_f H
              replace H := app_hid H
              go_wp2_with fail
              go_roundg m0
              case measure => omega
              case rel => exact ⟨k0 + 1, _, _, _, by omega, by go_num, rfl, H, HBwt_30, Oout_8l0⟩
            | true =>
              replace H := ite_t H
              replace H := idx_hid H
              obtain ⟨nt_35, yt_35, et_35, lt_35, gt_35, H⟩ := H
              obtain rfl : k0 = nt_35 := by omega
              clear et_35
              obtain rfl := Option.some.inj (gt_27.out.symm.trans gt_35.out)
              clear gt_35 lt_35
              replace H := unPostmark_hid H
              replace H := bind_hid H
              obtain ⟨t_37, qt_37, H⟩ := H
              go_wp2_with fail
              go_at_call 45
              refine (Go.Proofs.YtgimcnpkngpmiaaDoor.GsL11Shown.C fuel ((Go.Proofs.YtgimcnpkngpmiaaDoor.PPostmark.Postmark.mk t_27_id t_27_town t_27_kind_ t_27_first t_27_last t_27_lost))  _    qt_37).mono ?_
              rintro e_t_37 wt_37 ⟨rfl, bt_37⟩
              have HBwt_37 := Lib.hid (Below.step HBwt_30.out bt_37)
              replace ct_27_0 := cell_below bt_37 ct_27_0
              replace ct_27_1 := cell_below bt_37 ct_27_1
              replace ct_27_2 := cell_below bt_37 ct_27_2
              replace ct_27_3 := cell_below bt_37 ct_27_3
              replace ct_27_4 := cell_below bt_37 ct_27_4
              replace ct_27_5 := cell_below bt_37 ct_27_5
              replace Oout_8l0 := Lib.hid (own_below Oout_8l0.out bt_37)
              clear bt_37
              replace H := bind_hid H
              obtain ⟨t_38, qt_38, H⟩ := H
              go_wp2_with fail
              go_at_call 44
              refine (Go.Proofs.YtgimcnpkngpmiaaDoor.GsL11Reads.C (reading) (t_37)  _    qt_38).mono ?_
              rintro e_t_38 wt_38 ⟨rfl, bt_38⟩
              have HBwt_38 := Lib.hid (Below.step HBwt_37.out bt_38)
              replace ct_27_0 := cell_below bt_38 ct_27_0
              replace ct_27_1 := cell_below bt_38 ct_27_1
              replace ct_27_2 := cell_below bt_38 ct_27_2
              replace ct_27_3 := cell_below bt_38 ct_27_3
              replace ct_27_4 := cell_below bt_38 ct_27_4
              replace ct_27_5 := cell_below bt_38 ct_27_5
              replace Oout_8l0 := Lib.hid (own_below Oout_8l0.out bt_38)
              clear bt_38
              replace H := app_hid H
              cases t_38 with
              | false =>
                replace H := ite_f H
                replace H := app_hid H
                go_wp2_with fail
                go_roundg m0
                case measure => omega
                case rel => exact ⟨k0 + 1, _, _, _, by omega, by go_num, rfl, H, HBwt_38, Oout_8l0⟩
              | true =>
                replace H := ite_t H
                replace H := idx_hid H
                obtain ⟨nt_43, yt_43, et_43, lt_43, gt_43, H⟩ := H
                obtain rfl : k0 = nt_43 := by omega
                clear et_43
                obtain rfl := Option.some.inj (gt_27.out.symm.trans gt_43.out)
                clear gt_43 lt_43
                replace H := unPostmark_hid H
                obtain ⟨w_t_46, hw_t_46⟩ : ∃ x, wt_38.alloc (.cells #[.int .i64 t_27_id] 3) = x := ⟨_, rfl⟩
                have bw_t_46 : Below wt_38.heap.size wt_38 w_t_46 := by rw [← hw_t_46]; exact (Below.refl _ _).alloc (Nat.le_refl _) _
                have HBw_t_46 := Lib.hid (Below.step HBwt_38.out bw_t_46)
                have ct_27_0__563 := cell_below bw_t_46 ct_27_0
                have ct_27_1__564 := cell_below bw_t_46 ct_27_1
                have ct_27_2__565 := cell_below bw_t_46 ct_27_2
                have ct_27_3__566 := cell_below bw_t_46 ct_27_3
                have ct_27_4__567 := cell_below bw_t_46 ct_27_4
                have ct_27_5__568 := cell_below bw_t_46 ct_27_5
                replace Oout_8l0 := Lib.hid (own_below Oout_8l0.out bw_t_46)
                clear bw_t_46
                replace H := guard_hid H
                obtain ⟨hlt_47, H⟩ := H
                replace H := let_hid H
                obtain ⟨t_47, ht_47, H⟩ := H
                have hht_47 := Lib.hid ht_47
                clear ht_47
                have hst_47 := HBw_t_46.out.size
                go_wp2_with (at_builtin; refine wpList_append_own_at _ rfl _ _ 24 rfl w.heap.size 3 i0_3 (.int .i64 0) 1 8 Tryd.underlying24 hi_3 hz0_3 hz1_3 hz2_3 rfl (by decide) _ _ _ rfl Oout_8l0.out ⟨wt_38.heap.size, 0, none⟩ 1 1 [.int .i64 t_27_id] rfl rfl (news_new hw_t_46) (one_cells rfl) (by unfold maxLen; omega) (by omega) hst_47 ?_; intro vt_47 wt_47 ot_47 gt_47 zt_47 yt_47; clear zt_47; obtain ⟨qt_47, ct_47, rfl, pt_47⟩ := own_push hht_47.out (Go.Proofs.YtgimcnpkngpmiaaDoor.HelpInt.iv_snoc _ _) rfl ot_47; have Pt_47 := Lib.hid pt_47; have Yt_47 := Lib.hid yt_47; have Gt_47 := Lib.hid gt_47; clear ot_47 gt_47 pt_47 yt_47; refine stop_in ?_)
                refine stop_out ?_
                have HBwt_47 := Lib.hid (HBw_t_46.out.grown Gt_47.out hst_47 (fun q hq => (Oout_8l0.out.lt q hq).1))
                clear hst_47
                replace ct_27_0__563 := cell_other ct_27_0__563 Gt_47.out (apart_old Oout_8l0.out ltt_27)
                replace ct_27_1__564 := cell_other ct_27_1__564 Gt_47.out (apart_old Oout_8l0.out ltt_27)
                replace ct_27_2__565 := cell_other ct_27_2__565 Gt_47.out (apart_old Oout_8l0.out ltt_27)
                replace ct_27_3__566 := cell_other ct_27_3__566 Gt_47.out (apart_old Oout_8l0.out ltt_27)
                replace ct_27_4__567 := cell_other ct_27_4__567 Gt_47.out (apart_old Oout_8l0.out ltt_27)
                replace ct_27_5__568 := cell_other ct_27_5__568 Gt_47.out (apart_old Oout_8l0.out ltt_27)
                clear ct_27_0 ct_27_1 ct_27_2 ct_27_3 ct_27_4 ct_27_5
                clear Oout_8l0 Yt_47 Gt_47
                replace H := app_hid H
                go_wp2_with fail
                go_roundg m0
                case measure => omega
                case rel => exact ⟨k0 + 1, _, _, _, by omega, by go_num, rfl, H, HBwt_47, Pt_47⟩
end Go.Proofs.YtgimcnpkngpmiaaDoor.GsReadMarks

/- loop.example/g01062/spec.DrawIsPostmark as a plain function, and the contract of the program's: where the plain one has an answer, the program has it. Conditions: slices read as lists. -/
namespace Go.Proofs.YtgimcnpkngpmiaaDoor.GsDrawIsPostmark
set_option linter.unusedVariables false
set_option linter.unusedSimpArgs false
open Go.RowKit
open Go.Proofs.YtgimcnpkngpmiaaDoor.Rowed Go.Proofs.YtgimcnpkngpmiaaDoor.Turn Go.Proofs.YtgimcnpkngpmiaaDoor.Aid Go.Proofs.YtgimcnpkngpmiaaDoor.GoP Go.Proofs.YtgimcnpkngpmiaaDoor.GoM

def P (fuel : Nat) (tapes : List Int → Go.Proofs.YtgimcnpkngpmiaaDoor.GoC.Tape) (code : (List Int)) : Option (Go.Proofs.YtgimcnpkngpmiaaDoor.PPostmark.Postmark) :=
  letK (tapes code) fun (t_3 : Go.Proofs.YtgimcnpkngpmiaaDoor.GoC.Tape) =>
  letK ([1, 42, 999]) fun (t_7 : (List Int)) =>
  bind2 (Go.Proofs.YtgimcnpkngpmiaaDoor.GsL1CurAmong.P t_3 t_7) fun (t_8 : Int) (t_8_tp : Go.Proofs.YtgimcnpkngpmiaaDoor.GoC.Tape) =>
  bind2 (Go.Proofs.YtgimcnpkngpmiaaDoor.GsL1CurPostmark11.P fuel t_8_tp t_8) fun (t_9 : Go.Proofs.YtgimcnpkngpmiaaDoor.PPostmark.Postmark) (t_9_tp : Go.Proofs.YtgimcnpkngpmiaaDoor.GoC.Tape) =>
  unPostmark t_9 fun (t_9_id : Int) (t_9_town : ByteArray) (t_9_kind_ : Int) (t_9_first : Int) (t_9_last : Int) (t_9_lost : ByteArray) =>
  some (Go.Proofs.YtgimcnpkngpmiaaDoor.PPostmark.Postmark.mk t_9_id t_9_town t_9_kind_ t_9_first t_9_last t_9_lost)

set_option maxRecDepth 100000 in
set_option maxHeartbeats 2000000 in
theorem C (fuel : Nat) (tapes : List Int → Go.Proofs.YtgimcnpkngpmiaaDoor.GoC.Tape) (code : (List Int)) (A0 : Option Addr) (c0 : Nat)  (w : World) (HE : Hid (Go.Proofs.YtgimcnpkngpmiaaDoor.GoC.Tells tapes)) (M0 : Hid (Cells w 1 A0 code.length (Go.Proofs.YtgimcnpkngpmiaaDoor.GoC.u8s code))) (N0 : Hid (code.length ≤ 9223372036854775807)) (V0 : Hid (∀ z ∈ code, 0 ≤ z ∧ z ≤ 255))  {r : Go.Proofs.YtgimcnpkngpmiaaDoor.PPostmark.Postmark} (H : Hid (P fuel tapes code = some r)) :
    Calls Tryd.prog 77 #[.slice A0 code.length c0] w (Gives ((Go.Proofs.YtgimcnpkngpmiaaDoor.PPostmark.Postmark.val r)) w) := by
  have HB := Lib.hid (Below.refl w.heap.size w)
  unfold P at H
  have N0o := N0.out
  go_enter Tryd.func77, Tryd.ntmps77
  obtain ⟨w_t_0, hw_t_0⟩ : ∃ x, w.alloc (.cells #[.int .i64 0, .string (⟨#[]⟩ : ByteArray), .int .i64 0, .int .i64 0, .int .i64 0, .string (⟨#[]⟩ : ByteArray)] 39) = x := ⟨_, rfl⟩
  have bw_t_0 : Below w.heap.size w w_t_0 := by rw [← hw_t_0]; exact (Below.refl _ _).alloc (Nat.le_refl _) _
  have HBw_t_0 := Lib.hid (Below.step HB.out bw_t_0)
  clear bw_t_0
  have kt_0_0 : w_t_0.cell? ⟨w.heap.size, 0, none⟩ = some (.int .i64 0) := by rw [← hw_t_0]; exact box_new _ _ _ 0 _ rfl
  have kt_0_1 : w_t_0.cell? ⟨w.heap.size, 1, none⟩ = some (.string (⟨#[]⟩ : ByteArray)) := by rw [← hw_t_0]; exact box_new _ _ _ 1 _ rfl
  have kt_0_2 : w_t_0.cell? ⟨w.heap.size, 2, none⟩ = some (.int .i64 0) := by rw [← hw_t_0]; exact box_new _ _ _ 2 _ rfl
  have kt_0_3 : w_t_0.cell? ⟨w.heap.size, 3, none⟩ = some (.int .i64 0) := by rw [← hw_t_0]; exact box_new _ _ _ 3 _ rfl
  have kt_0_4 : w_t_0.cell? ⟨w.heap.size, 4, none⟩ = some (.int .i64 0) := by rw [← hw_t_0]; exact box_new _ _ _ 4 _ rfl
  have kt_0_5 : w_t_0.cell? ⟨w.heap.size, 5, none⟩ = some (.string (⟨#[]⟩ : ByteArray)) := by rw [← hw_t_0]; exact box_new _ _ _ 5 _ rfl
  have Ot_0 : Hid (w_t_0.ownsRow w.heap.size 39 6 (.slice (some ⟨w.heap.size, 0, none⟩) 1 1) 1 [.int .i64 0, .string (⟨#[]⟩ : ByteArray), .int .i64 0, .int .i64 0, .int .i64 0, .string (⟨#[]⟩ : ByteArray)]) := Lib.hid (by rw [← hw_t_0]; exact own_laid (n := 1) HB.out.size rfl rfl (by unfold maxLen; omega))
  replace H := let_hid H
  obtain ⟨t_3, ht_3, H⟩ := H
  obtain ⟨w_t_3, hw_t_3⟩ : ∃ x, w_t_0.alloc (.cells #[.slice A0 code.length c0, .int .i64 0, .int .u64 0] 72) = x := ⟨_, rfl⟩
  have bw_t_3 : Below w_t_0.heap.size w_t_0 w_t_3 := by rw [← hw_t_3]; exact (Below.refl _ _).alloc (Nat.le_refl _) _
  have Kt_3 : Hid (Go.Proofs.YtgimcnpkngpmiaaDoor.GoC.CurIs w_t_3 w.heap.size w_t_0.heap.size A0 c0 t_3) := Lib.hid (by rw [← hw_t_3, ← ht_3]; exact Go.Proofs.YtgimcnpkngpmiaaDoor.GoC.cur_new HBw_t_0.out.size (Cells.below M0.out HBw_t_0.out) (fun a_ ha_ h0_ => by subst ha_; exact Go.Proofs.YtgimcnpkngpmiaaDoor.GoC.cells_lt M0.out (by unfold Go.Proofs.YtgimcnpkngpmiaaDoor.GoC.u8s; rw [List.length_map]; exact h0_)) (HE.out.2.2 code V0.out N0.out))
  have hht_3 := Lib.hid ht_3
  clear ht_3
  have Dt_3_t_0 := Lib.hid (apart_box kt_0_0)
  have HBw_t_3 := Lib.hid (Below.step HBw_t_0.out bw_t_3)
  have kt_0_0__569 := cell_below bw_t_3 kt_0_0
  have kt_0_1__570 := cell_below bw_t_3 kt_0_1
  have kt_0_2__571 := cell_below bw_t_3 kt_0_2
  have kt_0_3__572 := cell_below bw_t_3 kt_0_3
  have kt_0_4__573 := cell_below bw_t_3 kt_0_4
  have kt_0_5__574 := cell_below bw_t_3 kt_0_5
  replace Ot_0 := Lib.hid (own_below Ot_0.out bw_t_3)
  clear bw_t_3
  replace H := let_hid H
  obtain ⟨t_7, ht_7, H⟩ := H
  obtain ⟨w_t_7, hw_t_7⟩ : ∃ x, w_t_3.alloc (.cells #[.int .i64 1, .int .i64 42, .int .i64 999] 3) = x := ⟨_, rfl⟩
  have bw_t_7 : Below w_t_3.heap.size w_t_3 w_t_7 := by rw [← hw_t_7]; exact (Below.refl _ _).alloc (Nat.le_refl _) _
  have hs_t_7 := HBw_t_3.out.size
  have nt_7 : t_7.length = 3 := by rw [← ht_7]; rfl
  have Ot_7 : Hid (w_t_7.ownsRow w.heap.size 3 1 (.slice (some ⟨w_t_3.heap.size, 0, none⟩) 3 3) 3 (Go.Proofs.YtgimcnpkngpmiaaDoor.HelpInt.iv t_7)) := by
    rw [← hw_t_7, ← ht_7]
    have e_ : ([.int .i64 1, .int .i64 42, .int .i64 999] : List Value) = (Go.Proofs.YtgimcnpkngpmiaaDoor.HelpInt.iv ([1, 42, 999] : List Int)) := rfl
    exact Lib.hid (own_laid (n := 3) hs_t_7 e_ rfl (by unfold maxLen; omega))
  clear hs_t_7
  have hht_7 := Lib.hid ht_7
  clear ht_7
  replace nt_7 := Lib.hid nt_7
  have Dt_7_t_3 := Lib.hid (Go.Proofs.YtgimcnpkngpmiaaDoor.GoC.apart_cur Kt_3.out)
  have Dt_7_t_0 := Lib.hid (apart_box kt_0_0__569)
  have HBw_t_7 := Lib.hid (Below.step HBw_t_3.out bw_t_7)
  have kt_0_0__575 := cell_below bw_t_7 kt_0_0__569
  have kt_0_1__576 := cell_below bw_t_7 kt_0_1__570
  have kt_0_2__577 := cell_below bw_t_7 kt_0_2__571
  have kt_0_3__578 := cell_below bw_t_7 kt_0_3__572
  have kt_0_4__579 := cell_below bw_t_7 kt_0_4__573
  have kt_0_5__580 := cell_below bw_t_7 kt_0_5__574
  replace Kt_3 := Lib.hid (Go.Proofs.YtgimcnpkngpmiaaDoor.GoC.cur_below Kt_3.out bw_t_7)
  replace Ot_0 := Lib.hid (own_below Ot_0.out bw_t_7)
  clear bw_t_7
  replace H := bind2_hid H
  obtain ⟨t_8, t_8_tp, qt_8, H⟩ := H
  go_wp2_with fail
  clear kt_0_0 kt_0_1 kt_0_2 kt_0_3 kt_0_4 kt_0_5 kt_0_0__569 kt_0_1__570 kt_0_2__571 kt_0_3__572 kt_0_4__573 kt_0_5__574
  have hc_ := nt_7.out
  have hv_ : (Value.slice (some ⟨w_t_3.heap.size, 0, none⟩) 3 3 : Value) = Value.slice (some ⟨w_t_3.heap.size, 0, none⟩) t_7.length 3 := by rw [hc_]
  try rw [hv_]
  replace Ot_7 := Lib.hid (own_len hc_ Ot_7.out)
  clear hc_ hv_
  go_wp2_with fail
  go_at_call 61
  refine (Go.Proofs.YtgimcnpkngpmiaaDoor.GsL1CurAmong.C (t_3) (t_7) (some ⟨w_t_3.heap.size, 0, none⟩) 3 (w_t_0.heap.size) (A0) (c0) (w.heap.size) _   (Lib.hid (own_cells Ot_7.out)) (Lib.hid (own_max Ot_7.out)) Kt_3 (Lib.hid (fun _ => Dt_7_t_3.out)) qt_8).mono ?_
  rintro e_t_8 wt_8 ⟨rfl, kt_8, gt_8⟩
  have Kt_8 := Lib.hid kt_8
  have Gt_8 : Hid (w_t_7.grownBy wt_8 (Value.slice (some ⟨w_t_0.heap.size, 0, none⟩) 1 1).ownBlock) := Lib.hid gt_8
  clear kt_8 gt_8
  have HBwt_8 := Lib.hid (Go.Proofs.YtgimcnpkngpmiaaDoor.GoC.below_cur HBw_t_7.out Gt_8.out HBw_t_7.out.size (Go.Proofs.YtgimcnpkngpmiaaDoor.GoC.cur_lt Kt_3.out).1)
  replace kt_0_0__575 := cell_other kt_0_0__575 Gt_8.out Dt_3_t_0.out
  replace kt_0_1__576 := cell_other kt_0_1__576 Gt_8.out Dt_3_t_0.out
  replace kt_0_2__577 := cell_other kt_0_2__577 Gt_8.out Dt_3_t_0.out
  replace kt_0_3__578 := cell_other kt_0_3__578 Gt_8.out Dt_3_t_0.out
  replace kt_0_4__579 := cell_other kt_0_4__579 Gt_8.out Dt_3_t_0.out
  replace kt_0_5__580 := cell_other kt_0_5__580 Gt_8.out Dt_3_t_0.out
  replace Ot_0 := Lib.hid (own_other Ot_0.out Gt_8.out Dt_3_t_0.out)
  replace Ot_7 := Lib.hid (own_other Ot_7.out Gt_8.out (Apart.symm Dt_7_t_3.out))
  clear Kt_3 Gt_8
  replace H := bind2_hid H
  obtain ⟨t_9, t_9_tp, qt_9, H⟩ := H
  obtain ⟨t_9_id, t_9_town, t_9_kind_, t_9_first, t_9_last, t_9_lost⟩ := t_9
  replace H := unPostmark_hid H
  go_wp2_with fail
  go_at_call 83
  refine (Go.Proofs.YtgimcnpkngpmiaaDoor.GsL1CurPostmark11.C fuel (t_8_tp) (t_8) (w_t_0.heap.size) (A0) (c0) (w.heap.size) _   Kt_8 qt_9).mono ?_
  rintro e_t_9 wt_9 ⟨rfl, kt_9, gt_9⟩
  unfold Go.Proofs.YtgimcnpkngpmiaaDoor.PPostmark.Postmark.val
  have Kt_9 := Lib.hid kt_9
  have Gt_9 : Hid (wt_8.grownBy wt_9 (Value.slice (some ⟨w_t_0.heap.size, 0, none⟩) 1 1).ownBlock) := Lib.hid gt_9
  clear kt_9 gt_9
  have HBwt_9 := Lib.hid (Go.Proofs.YtgimcnpkngpmiaaDoor.GoC.below_cur HBwt_8.out Gt_9.out HBwt_8.out.size (Go.Proofs.YtgimcnpkngpmiaaDoor.GoC.cur_lt Kt_8.out).1)
  replace kt_0_0__575 := cell_other kt_0_0__575 Gt_9.out Dt_3_t_0.out
  replace kt_0_1__576 := cell_other kt_0_1__576 Gt_9.out Dt_3_t_0.out
  replace kt_0_2__577 := cell_other kt_0_2__577 Gt_9.out Dt_3_t_0.out
  replace kt_0_3__578 := cell_other kt_0_3__578 Gt_9.out Dt_3_t_0.out
  replace kt_0_4__579 := cell_other kt_0_4__579 Gt_9.out Dt_3_t_0.out
  replace kt_0_5__580 := cell_other kt_0_5__580 Gt_9.out Dt_3_t_0.out
  replace Ot_0 := Lib.hid (own_other Ot_0.out Gt_9.out Dt_3_t_0.out)
  replace Ot_7 := Lib.hid (own_other Ot_7.out Gt_9.out (Apart.symm Dt_7_t_3.out))
  clear Kt_8 Gt_9
  obtain ⟨wb10_10, hwb10_10⟩ : ∃ x, ((((((wt_9).setCell ⟨w.heap.size, 0, none⟩ (.int .i64 t_9_id)).setCell ⟨w.heap.size, 1, none⟩ (.string t_9_town)).setCell ⟨w.heap.size, 2, none⟩ (.int .i64 t_9_kind_)).setCell ⟨w.heap.size, 3, none⟩ (.int .i64 t_9_first)).setCell ⟨w.heap.size, 4, none⟩ (.int .i64 t_9_last)).setCell ⟨w.heap.size, 5, none⟩ (.string t_9_lost) = x := ⟨_, rfl⟩
  have z0b10_10 := Ot_0.out.frozenAt 0
  have z1b10_10 := Ot_0.out.frozenAt 1
  have z2b10_10 := Ot_0.out.frozenAt 2
  have z3b10_10 := Ot_0.out.frozenAt 3
  have z4b10_10 := Ot_0.out.frozenAt 4
  have z5b10_10 := Ot_0.out.frozenAt 5
  have Sb10_10 := Lib.hid (own_stores [(0, .int .i64 t_9_id), (1, .string t_9_town), (2, .int .i64 t_9_kind_), (3, .int .i64 t_9_first), (4, .int .i64 t_9_last), (5, .string t_9_lost)] Ot_0.out)
  have Pb10_10 : Hid (wb10_10.ownsRow w.heap.size 39 6 (.slice (some ⟨w.heap.size, 0, none⟩) 1 1) 1 [.int .i64 t_9_id, .string t_9_town, .int .i64 t_9_kind_, .int .i64 t_9_first, .int .i64 t_9_last, .string t_9_lost]) := Lib.hid (by rw [← hwb10_10]; exact Sb10_10.out.1)
  have Gb10_10 : Hid (wt_9.grownBy wb10_10 (Value.slice (some ⟨w.heap.size, 0, none⟩) 1 1).ownBlock) := Lib.hid (by rw [← hwb10_10]; exact Sb10_10.out.2)
  have HBwb10_10 := Lib.hid (HBwt_9.out.grown Gb10_10.out HBwt_9.out.size (fun q hq => (Ot_0.out.lt q hq).1))
  clear Sb10_10
  replace Ot_7 := Lib.hid (own_other Ot_7.out Gb10_10.out (Apart.symm Dt_7_t_0.out))
  replace Kt_9 := Lib.hid (Go.Proofs.YtgimcnpkngpmiaaDoor.GoC.cur_other Kt_9.out Gb10_10.out (Apart.symm Dt_3_t_0.out) (Go.Proofs.YtgimcnpkngpmiaaDoor.GoC.own_ge Ot_0.out))
  clear Ot_0 Gb10_10
  have kt_0_0__581 : wb10_10.cell? ⟨w.heap.size, 0, none⟩ = some (.int .i64 t_9_id) := Pb10_10.out.cells rfl 0 _ rfl
  have kt_0_1__582 : wb10_10.cell? ⟨w.heap.size, 1, none⟩ = some (.string t_9_town) := Pb10_10.out.cells rfl 1 _ rfl
  have kt_0_2__583 : wb10_10.cell? ⟨w.heap.size, 2, none⟩ = some (.int .i64 t_9_kind_) := Pb10_10.out.cells rfl 2 _ rfl
  have kt_0_3__584 : wb10_10.cell? ⟨w.heap.size, 3, none⟩ = some (.int .i64 t_9_first) := Pb10_10.out.cells rfl 3 _ rfl
  have kt_0_4__585 : wb10_10.cell? ⟨w.heap.size, 4, none⟩ = some (.int .i64 t_9_last) := Pb10_10.out.cells rfl 4 _ rfl
  have kt_0_5__586 : wb10_10.cell? ⟨w.heap.size, 5, none⟩ = some (.string t_9_lost) := Pb10_10.out.cells rfl 5 _ rfl
  cases ret_hid H
  go_wp2_with fail
  (try simp only [Exit.inBlock, Exit.then])
  refine bodyPost_ret (v := .agg #[.int .i64 t_9_id, .string t_9_town, .int .i64 t_9_kind_, .int .i64 t_9_first, .int .i64 t_9_last, .string t_9_lost]) ?hr_ ?hd_ ?_
  case hd_ => rfl
  case hr_ => simp [results, Tryd.results77, kt_0_0__581, kt_0_1__582, kt_0_2__583, kt_0_3__584, kt_0_4__585, kt_0_5__586, go_sem]
  exact ⟨rfl, HBwb10_10.out⟩
end Go.Proofs.YtgimcnpkngpmiaaDoor.GsDrawIsPostmark

/- loop.example/g01062/spec.DrawShownBy as a plain function, and the contract of the program's: where the plain one has an answer, the program has it. Conditions: slices read as lists. -/
namespace Go.Proofs.YtgimcnpkngpmiaaDoor.GsDrawShownBy
set_option linter.unusedVariables false
set_option linter.unusedSimpArgs false
open Go.RowKit
open Go.Proofs.YtgimcnpkngpmiaaDoor.Rowed Go.Proofs.YtgimcnpkngpmiaaDoor.Turn Go.Proofs.YtgimcnpkngpmiaaDoor.Aid Go.Proofs.YtgimcnpkngpmiaaDoor.GoP Go.Proofs.YtgimcnpkngpmiaaDoor.GoM

def P (fuel : Nat) (tapes : List Int → Go.Proofs.YtgimcnpkngpmiaaDoor.GoC.Tape) (code : (List Int)) : Option (Go.Proofs.YtgimcnpkngpmiaaDoor.PPostmark.Postmark) :=
  Option.bind (Go.Proofs.YtgimcnpkngpmiaaDoor.GsDrawIsPostmark.P fuel tapes code) fun (t_2 : Go.Proofs.YtgimcnpkngpmiaaDoor.PPostmark.Postmark) =>
  unPostmark t_2 fun (t_2_id : Int) (t_2_town : ByteArray) (t_2_kind_ : Int) (t_2_first : Int) (t_2_last : Int) (t_2_lost : ByteArray) =>
  some (Go.Proofs.YtgimcnpkngpmiaaDoor.PPostmark.Postmark.mk t_2_id t_2_town t_2_kind_ t_2_first t_2_last t_2_lost)

set_option maxRecDepth 100000 in
set_option maxHeartbeats 2000000 in
theorem C (fuel : Nat) (tapes : List Int → Go.Proofs.YtgimcnpkngpmiaaDoor.GoC.Tape) (code : (List Int)) (A0 : Option Addr) (c0 : Nat)  (w : World) (HE : Hid (Go.Proofs.YtgimcnpkngpmiaaDoor.GoC.Tells tapes)) (M0 : Hid (Cells w 1 A0 code.length (Go.Proofs.YtgimcnpkngpmiaaDoor.GoC.u8s code))) (N0 : Hid (code.length ≤ 9223372036854775807)) (V0 : Hid (∀ z ∈ code, 0 ≤ z ∧ z ≤ 255))  {r : Go.Proofs.YtgimcnpkngpmiaaDoor.PPostmark.Postmark} (H : Hid (P fuel tapes code = some r)) :
    Calls Tryd.prog 33 #[.slice A0 code.length c0] w (Gives ((Go.Proofs.YtgimcnpkngpmiaaDoor.PPostmark.Postmark.val r)) w) := by
  have HB := Lib.hid (Below.refl w.heap.size w)
  unfold P at H
  have N0o := N0.out
  go_enter Tryd.func33, Tryd.ntmps33
  obtain ⟨w_t_0, hw_t_0⟩ : ∃ x, w.alloc (.cells #[.int .i64 0, .string (⟨#[]⟩ : ByteArray), .int .i64 0, .int .i64 0, .int .i64 0, .string (⟨#[]⟩ : ByteArray)] 39) = x := ⟨_, rfl⟩
  have bw_t_0 : Below w.heap.size w w_t_0 := by rw [← hw_t_0]; exact (Below.refl _ _).alloc (Nat.le_refl _) _
  have HBw_t_0 := Lib.hid (Below.step HB.out bw_t_0)
  clear bw_t_0
  have kt_0_0 : w_t_0.cell? ⟨w.heap.size, 0, none⟩ = some (.int .i64 0) := by rw [← hw_t_0]; exact box_new _ _ _ 0 _ rfl
  have kt_0_1 : w_t_0.cell? ⟨w.heap.size, 1, none⟩ = some (.string (⟨#[]⟩ : ByteArray)) := by rw [← hw_t_0]; exact box_new _ _ _ 1 _ rfl
  have kt_0_2 : w_t_0.cell? ⟨w.heap.size, 2, none⟩ = some (.int .i64 0) := by rw [← hw_t_0]; exact box_new _ _ _ 2 _ rfl
  have kt_0_3 : w_t_0.cell? ⟨w.heap.size, 3, none⟩ = some (.int .i64 0) := by rw [← hw_t_0]; exact box_new _ _ _ 3 _ rfl
  have kt_0_4 : w_t_0.cell? ⟨w.heap.size, 4, none⟩ = some (.int .i64 0) := by rw [← hw_t_0]; exact box_new _ _ _ 4 _ rfl
  have kt_0_5 : w_t_0.cell? ⟨w.heap.size, 5, none⟩ = some (.string (⟨#[]⟩ : ByteArray)) := by rw [← hw_t_0]; exact box_new _ _ _ 5 _ rfl
  have Ot_0 : Hid (w_t_0.ownsRow w.heap.size 39 6 (.slice (some ⟨w.heap.size, 0, none⟩) 1 1) 1 [.int .i64 0, .string (⟨#[]⟩ : ByteArray), .int .i64 0, .int .i64 0, .int .i64 0, .string (⟨#[]⟩ : ByteArray)]) := Lib.hid (by rw [← hw_t_0]; exact own_laid (n := 1) HB.out.size rfl rfl (by unfold maxLen; omega))
  replace H := bind_hid H
  obtain ⟨t_2, qt_2, H⟩ := H
  obtain ⟨t_2_id, t_2_town, t_2_kind_, t_2_first, t_2_last, t_2_lost⟩ := t_2
  replace H := unPostmark_hid H
  go_wp2_with fail
  go_at_call 77
  refine (Go.Proofs.YtgimcnpkngpmiaaDoor.GsDrawIsPostmark.C fuel tapes (code) A0 c0 _  HE (Lib.hid (Cells.below M0.out HBw_t_0.out)) N0 V0 qt_2).mono ?_
  rintro e_t_2 wt_2 ⟨rfl, bt_2⟩
  unfold Go.Proofs.YtgimcnpkngpmiaaDoor.PPostmark.Postmark.val
  have HBwt_2 := Lib.hid (Below.step HBw_t_0.out bt_2)
  replace kt_0_0 := cell_below bt_2 kt_0_0
  replace kt_0_1 := cell_below bt_2 kt_0_1
  replace kt_0_2 := cell_below bt_2 kt_0_2
  replace kt_0_3 := cell_below bt_2 kt_0_3
  replace kt_0_4 := cell_below bt_2 kt_0_4
  replace kt_0_5 := cell_below bt_2 kt_0_5
  replace Ot_0 := Lib.hid (own_below Ot_0.out bt_2)
  clear bt_2
  obtain ⟨wb3_3, hwb3_3⟩ : ∃ x, ((((((wt_2).setCell ⟨w.heap.size, 0, none⟩ (.int .i64 t_2_id)).setCell ⟨w.heap.size, 1, none⟩ (.string t_2_town)).setCell ⟨w.heap.size, 2, none⟩ (.int .i64 t_2_kind_)).setCell ⟨w.heap.size, 3, none⟩ (.int .i64 t_2_first)).setCell ⟨w.heap.size, 4, none⟩ (.int .i64 t_2_last)).setCell ⟨w.heap.size, 5, none⟩ (.string t_2_lost) = x := ⟨_, rfl⟩
  have z0b3_3 := Ot_0.out.frozenAt 0
  have z1b3_3 := Ot_0.out.frozenAt 1
  have z2b3_3 := Ot_0.out.frozenAt 2
  have z3b3_3 := Ot_0.out.frozenAt 3
  have z4b3_3 := Ot_0.out.frozenAt 4
  have z5b3_3 := Ot_0.out.frozenAt 5
  have Sb3_3 := Lib.hid (own_stores [(0, .int .i64 t_2_id), (1, .string t_2_town), (2, .int .i64 t_2_kind_), (3, .int .i64 t_2_first), (4, .int .i64 t_2_last), (5, .string t_2_lost)] Ot_0.out)
  have Pb3_3 : Hid (wb3_3.ownsRow w.heap.size 39 6 (.slice (some ⟨w.heap.size, 0, none⟩) 1 1) 1 [.int .i64 t_2_id, .string t_2_town, .int .i64 t_2_kind_, .int .i64 t_2_first, .int .i64 t_2_last, .string t_2_lost]) := Lib.hid (by rw [← hwb3_3]; exact Sb3_3.out.1)
  have Gb3_3 : Hid (wt_2.grownBy wb3_3 (Value.slice (some ⟨w.heap.size, 0, none⟩) 1 1).ownBlock) := Lib.hid (by rw [← hwb3_3]; exact Sb3_3.out.2)
  have HBwb3_3 := Lib.hid (HBwt_2.out.grown Gb3_3.out HBwt_2.out.size (fun q hq => (Ot_0.out.lt q hq).1))
  clear Sb3_3
  clear Ot_0 Gb3_3
  have kt_0_0__587 : wb3_3.cell? ⟨w.heap.size, 0, none⟩ = some (.int .i64 t_2_id) := Pb3_3.out.cells rfl 0 _ rfl
  have kt_0_1__588 : wb3_3.cell? ⟨w.heap.size, 1, none⟩ = some (.string t_2_town) := Pb3_3.out.cells rfl 1 _ rfl
  have kt_0_2__589 : wb3_3.cell? ⟨w.heap.size, 2, none⟩ = some (.int .i64 t_2_kind_) := Pb3_3.out.cells rfl 2 _ rfl
  have kt_0_3__590 : wb3_3.cell? ⟨w.heap.size, 3, none⟩ = some (.int .i64 t_2_first) := Pb3_3.out.cells rfl 3 _ rfl
  have kt_0_4__591 : wb3_3.cell? ⟨w.heap.size, 4, none⟩ = some (.int .i64 t_2_last) := Pb3_3.out.cells rfl 4 _ rfl
  have kt_0_5__592 : wb3_3.cell? ⟨w.heap.size, 5, none⟩ = some (.string t_2_lost) := Pb3_3.out.cells rfl 5 _ rfl
  cases ret_hid H
  go_wp2_with fail
  (try simp only [Exit.inBlock, Exit.then])
  refine bodyPost_ret (v := .agg #[.int .i64 t_2_id, .string t_2_town, .int .i64 t_2_kind_, .int .i64 t_2_first, .int .i64 t_2_last, .string t_2_lost]) ?hr_ ?hd_ ?_
  case hd_ => rfl
  case hr_ => simp [results, Tryd.results33, kt_0_0__587, kt_0_1__588, kt_0_2__589, kt_0_3__590, kt_0_4__591, kt_0_5__592, go_sem]
  exact ⟨rfl, HBwb3_3.out⟩
end Go.Proofs.YtgimcnpkngpmiaaDoor.GsDrawShownBy

/- loop.example/g01062/laws.rInts as a plain function, and the contract of the program's: where the plain one has an answer, the program has it. Conditions: slices read as lists. -/
namespace Go.Proofs.YtgimcnpkngpmiaaDoor.GlRInts
set_option linter.unusedVariables false
set_option linter.unusedSimpArgs false
open Go.RowKit
open Go.Proofs.YtgimcnpkngpmiaaDoor.Rowed Go.Proofs.YtgimcnpkngpmiaaDoor.Turn Go.Proofs.YtgimcnpkngpmiaaDoor.Aid Go.Proofs.YtgimcnpkngpmiaaDoor.GoP Go.Proofs.YtgimcnpkngpmiaaDoor.GoM

def l0 (a : (List Int)) (b : (List Int)) (k0 : Nat) (s : Unit) (nx0 bk0 : Unit → Option (Bool)) : Option (Bool) :=
  
  Option.bind (idx a (k0 : Int)) fun (yt_14 : Int) =>
  Option.bind (idx b (k0 : Int)) fun (yt_18 : Int) =>
  letK (yt_14 != yt_18) fun (t_20 : Bool) =>
  iteK t_20
  (some false)
  (appK nx0 ())

def e0  (s : Unit) : Option (Bool) :=
  
  some true

def P (a : (List Int)) (b : (List Int)) : Option (Bool) :=
  letK ((a.length : Int) != (b.length : Int)) fun (t_5 : Bool) =>
  iteK t_5
  (some false)
  (cntK (l0 a b) (a.length) 0 () (e0 ))

set_option maxRecDepth 100000 in
set_option maxHeartbeats 2000000 in
theorem C (a : (List Int)) (b : (List Int)) (A0 : Option Addr) (c0 : Nat) (A1 : Option Addr) (c1 : Nat)  (w : World) (M0 : Hid (Cells w 1 A0 a.length (Go.Proofs.YtgimcnpkngpmiaaDoor.HelpInt.iv a))) (N0 : Hid (a.length ≤ 9223372036854775807)) (M1 : Hid (Cells w 1 A1 b.length (Go.Proofs.YtgimcnpkngpmiaaDoor.HelpInt.iv b))) (N1 : Hid (b.length ≤ 9223372036854775807))  {r : Bool} (H : Hid (P a b = some r)) :
    Calls Tryd.prog 35 #[.slice A0 a.length c0, .slice A1 b.length c1] w (Gives (.bool r) w) := by
  have HB := Lib.hid (Below.refl w.heap.size w)
  unfold P at H
  have N0o := N0.out
  have N1o := N1.out
  go_enter Tryd.func35, Tryd.ntmps35
  replace H := let_hid H
  obtain ⟨t_5, ht_5, H⟩ := H
  cases t_5 with
  | false =>
    have Hht_5 : Hid (a.length = b.length) := Lib.hid (by have := bne_eq_false_iff_eq.1 ht_5; omega)
    have nht_5 : (a.length == b.length) = true := beq_iff_eq.2 Hht_5.out
    replace H := ite_f H
    go_wp2_with fail
    go_loopg [5] (a.length) (fun m_ v5_ wr => ∃ (k0 : Nat) , k0 + m_ = a.length ∧ v5_ = .int .i64 (k0 : Int) ∧ Hid (cntK (l0 a b) m_ k0 () (e0 ) = some r) ∧ Hid (Below w.heap.size w wr))
    case atStart => exact ⟨0, by omega, rfl, H, HB⟩
    case round =>
      obtain ⟨k0, hkm0, rfl, H, HBwr0⟩ := hrel
      rename World => wr0
      cases gk with
      | zero =>
        obtain rfl : k0 = a.length := by omega
        have hc0 : decide (((a.length : Nat) : Int) < ((a.length : Nat) : Int)) = false := by simp
        replace H := cnt_zero H
        unfold e0 at H
        obtain rfl := ret_hid H
        go_wp2_with fail
        go_ret
        exact ⟨rfl, HBwr0.out⟩
      | succ m0 =>
        have hlt0 : k0 < a.length := by omega
        have hc0 : decide ((k0 : Int) < ((a.length : Nat) : Int)) = true := by simp; omega
        replace H := cnt_succ H
        unfold l0 at H
        go_wp2_with fail
        replace H := idx_hid H
        obtain ⟨nt_14, yt_14, et_14, lt_14, gt_14, H⟩ := H
        obtain rfl : k0 = nt_14 := by omega
        clear et_14
        obtain ⟨ab_t_14, ao_t_14, zt_14, At_14, z_t_14, ct_14_0⟩ := Go.Proofs.YtgimcnpkngpmiaaDoor.HelpInt.Ints.at_ M0.out lt_14
        obtain rfl := Option.some.inj (gt_14.out.symm.trans z_t_14)
        subst At_14
        have ltt_14 := cell_lt ct_14_0
        replace ct_14_0 := cell_below HBwr0.out ct_14_0
        clear z_t_14
        have b0t_14 : (0 : Int) ≤ (k0 : Int) := by omega
        have b1t_14 : (k0 : Int) < ((a.length : Nat) : Int) := by omega
        have b2t_14 : ((k0 : Int)).toNat = k0 := by omega
        have Hct_14_0 := Lib.hid ct_14_0
        replace ct_14_0 := cell_regrown ct_14_0
        replace H := idx_hid H
        obtain ⟨nt_18, yt_18, et_18, lt_18, gt_18, H⟩ := H
        obtain rfl : k0 = nt_18 := by omega
        clear et_18
        obtain ⟨ab_t_18, ao_t_18, zt_18, At_18, z_t_18, ct_18_0⟩ := Go.Proofs.YtgimcnpkngpmiaaDoor.HelpInt.Ints.at_ M1.out lt_18
        obtain rfl := Option.some.inj (gt_18.out.symm.trans z_t_18)
        subst At_18
        have ltt_18 := cell_lt ct_18_0
        replace ct_18_0 := cell_below HBwr0.out ct_18_0
        clear z_t_18
        have b0t_18 : (0 : Int) ≤ (k0 : Int) := by omega
        have b1t_18 : (k0 : Int) < ((b.length : Nat) : Int) := by omega
        have b2t_18 : ((k0 : Int)).toNat = k0 := by omega
        have Hct_18_0 := Lib.hid ct_18_0
        replace ct_18_0 := cell_regrown ct_18_0
        replace H := let_hid H
        obtain ⟨t_20, ht_20, H⟩ := H
        refine wp_region_quiet_below (by kernel_rfl) (by kernel_rfl) ?_
        repeat (go_big_quiet_step (fail))
        refine wpQuiet_nil ?_
        intro Y6 hY6
        replace hY6 := below_class hY6
        replace ct_14_0 := Hct_14_0.out
        clear Hct_14_0
        replace ct_18_0 := Hct_18_0.out
        clear Hct_18_0
        have HBY6 := Lib.hid (Below.step HBwr0.out hY6)
        replace ct_14_0 := cell_below hY6 ct_14_0
        replace ct_18_0 := cell_below hY6 ct_18_0
        clear hY6
        cases t_20 with
        | false =>
          replace H := ite_f H
          replace H := app_hid H
          go_wp2_with fail
          go_roundg m0
          case measure => omega
          case rel => exact ⟨k0 + 1, by omega, by go_num, H, HBY6⟩
        | true =>
          replace H := ite_t H
          obtain rfl := ret_hid H
          go_wp2_with fail
          go_ret
          exact ⟨rfl, HBY6.out⟩
  | true =>
    have nht_5 : ¬ (a.length = b.length) := by have := bne_iff_ne.1 ht_5; omega
    replace H := ite_t H
    obtain rfl := ret_hid H
    go_wp2_with fail
    go_ret
    exact ⟨rfl, HB.out⟩
end Go.Proofs.YtgimcnpkngpmiaaDoor.GlRInts

