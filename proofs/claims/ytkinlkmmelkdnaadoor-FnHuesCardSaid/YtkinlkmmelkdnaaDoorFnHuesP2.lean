/- The texts on which the proof of FnHues stands, one behind the other (2 of 4). No condition of their own. -/
import Derived.Test.YtkinlkmmelkdnaaDoorChecked
import Derived.Test.YtkinlkmmelkdnaaDoorFnHuesP1
import Derived.WalkKit
import Derived.WalkSpells
import Derived.WalkLawsBesides
import Derived.BigQuiet
import Derived.OwnWalk
import Derived.Deep.LoopGhost
import Derived.Deep.QuietTactic
import Derived.IntWalk
import Derived.Lib.QuietBelow
import Derived.Deep.RegionHeld3
/- (*loop.example/g01062/spec.l1Cur).shade7 as a plain function, and the contract of the program's: where the plain one has an answer, the program has it. Conditions: slices read as lists. -/
namespace Go.Proofs.YtkinlkmmelkdnaaDoor.GsL1CurShade7
set_option linter.unusedVariables false
set_option linter.unusedSimpArgs false
open Go.RowKit
open Go.Proofs.YtkinlkmmelkdnaaDoor.Rowed Go.Proofs.YtkinlkmmelkdnaaDoor.Turn Go.Proofs.YtkinlkmmelkdnaaDoor.Aid Go.Proofs.YtkinlkmmelkdnaaDoor.GoP Go.Proofs.YtkinlkmmelkdnaaDoor.GoM

def P (c : Go.Proofs.YtkinlkmmelkdnaaDoor.GoC.Tape) (name : ByteArray) : Option (Go.Proofs.YtkinlkmmelkdnaaDoor.PShade.Shade × Go.Proofs.YtkinlkmmelkdnaaDoor.GoC.Tape) :=
  letK ([0, 5, 20, 180, 350, 359]) fun (t_3 : (List Int)) =>
  bind2 (Go.Proofs.YtkinlkmmelkdnaaDoor.GsL1CurAmong.P c t_3) fun (t_4 : Int) (t_4_tp : Go.Proofs.YtkinlkmmelkdnaaDoor.GoC.Tape) =>
  letK ([0, 5, 10, 15, 90, 179]) fun (t_6 : (List Int)) =>
  bind2 (Go.Proofs.YtkinlkmmelkdnaaDoor.GsL1CurAmong.P t_4_tp t_6) fun (t_7 : Int) (t_7_tp : Go.Proofs.YtkinlkmmelkdnaaDoor.GoC.Tape) =>
  letK ([0, 30, 50]) fun (t_9 : (List Int)) =>
  bind2 (Go.Proofs.YtkinlkmmelkdnaaDoor.GsL1CurAmong.P t_7_tp t_9) fun (t_10 : Int) (t_10_tp : Go.Proofs.YtkinlkmmelkdnaaDoor.GoC.Tape) =>
  letK ([50, 70, 100]) fun (t_12 : (List Int)) =>
  bind2 (Go.Proofs.YtkinlkmmelkdnaaDoor.GsL1CurAmong.P t_10_tp t_12) fun (t_13 : Int) (t_13_tp : Go.Proofs.YtkinlkmmelkdnaaDoor.GoC.Tape) =>
  bind2 (Go.Proofs.YtkinlkmmelkdnaaDoor.GsL1CurPick.P t_13_tp 90) fun (t_18 : Int) (t_18_tp : Go.Proofs.YtkinlkmmelkdnaaDoor.GoC.Tape) =>
  letK (t_18 == 0) fun (t_19 : Bool) =>
  iteK t_19
  (letK ([(⟨#[]⟩ : ByteArray), (⟨#[82, 101, 100]⟩ : ByteArray), (⟨#[97, 98, 99, 100, 101, 102, 103, 104, 105, 106, 107]⟩ : ByteArray)]) fun (t_22 : (List ByteArray)) =>
  bind2 (Go.Proofs.YtkinlkmmelkdnaaDoor.GsL1CurOf.P t_18_tp t_22) fun (t_23 : ByteArray) (t_23_tp : Go.Proofs.YtkinlkmmelkdnaaDoor.GoC.Tape) =>
  some ((Go.Proofs.YtkinlkmmelkdnaaDoor.PShade.Shade.mk t_23 t_4 t_7 t_10 t_13), t_23_tp))
  (letK (t_18 == 1) fun (t_26 : Bool) =>
  iteK t_26
  (letK ([(-1), 360]) fun (t_29 : (List Int)) =>
  bind2 (Go.Proofs.YtkinlkmmelkdnaaDoor.GsL1CurAmong.P t_18_tp t_29) fun (t_30 : Int) (t_30_tp : Go.Proofs.YtkinlkmmelkdnaaDoor.GoC.Tape) =>
  some ((Go.Proofs.YtkinlkmmelkdnaaDoor.PShade.Shade.mk name t_30 t_7 t_10 t_13), t_30_tp))
  (letK (t_18 == 2) fun (t_33 : Bool) =>
  iteK t_33
  (letK ([(-1), 180]) fun (t_36 : (List Int)) =>
  bind2 (Go.Proofs.YtkinlkmmelkdnaaDoor.GsL1CurAmong.P t_18_tp t_36) fun (t_37 : Int) (t_37_tp : Go.Proofs.YtkinlkmmelkdnaaDoor.GoC.Tape) =>
  some ((Go.Proofs.YtkinlkmmelkdnaaDoor.PShade.Shade.mk name t_4 t_37 t_10 t_13), t_37_tp))
  (letK (t_18 == 3) fun (t_40 : Bool) =>
  iteK t_40
  (letK (IntKind.i64.wrap (t_13 + 1)) fun (t_45 : Int) =>
  letK ([(-1), t_45]) fun (t_46 : (List Int)) =>
  bind2 (Go.Proofs.YtkinlkmmelkdnaaDoor.GsL1CurAmong.P t_18_tp t_46) fun (t_47 : Int) (t_47_tp : Go.Proofs.YtkinlkmmelkdnaaDoor.GoC.Tape) =>
  some ((Go.Proofs.YtkinlkmmelkdnaaDoor.PShade.Shade.mk name t_4 t_7 t_47 t_13), t_47_tp))
  (letK (t_18 == 4) fun (t_50 : Bool) =>
  iteK t_50
  (some ((Go.Proofs.YtkinlkmmelkdnaaDoor.PShade.Shade.mk name t_4 t_7 t_10 101), t_18_tp))
  (some ((Go.Proofs.YtkinlkmmelkdnaaDoor.PShade.Shade.mk name t_4 t_7 t_10 t_13), t_18_tp))))))

set_option maxRecDepth 100000 in
set_option maxHeartbeats 2000000 in
theorem C (c : Go.Proofs.YtkinlkmmelkdnaaDoor.GoC.Tape) (name : ByteArray)   (g0 : Nat) (Ac0 : Option Addr) (cc0 : Nat) (bc0 : Nat) (w : World)   (K0 : Hid (Go.Proofs.YtkinlkmmelkdnaaDoor.GoC.CurIs w bc0 g0 Ac0 cc0 c)) {r : Go.Proofs.YtkinlkmmelkdnaaDoor.PShade.Shade} {t_ : Go.Proofs.YtkinlkmmelkdnaaDoor.GoC.Tape} (H : Hid (P c name = some (r, t_))) :
    Calls Tryd.prog 103 #[.pointer (some ⟨g0, 0, none⟩), .string name] w (fun e w' => e = .returned ((Go.Proofs.YtkinlkmmelkdnaaDoor.PShade.Shade.val r)) ∧ Go.Proofs.YtkinlkmmelkdnaaDoor.GoC.CurIs w' bc0 g0 Ac0 cc0 t_ ∧ w.grownBy w' (Value.slice (some ⟨g0, 0, none⟩) 1 1).ownBlock) := by
  have HB := Lib.hid (Aid.grown_refl w (Value.slice (some ⟨g0, 0, none⟩) 1 1).ownBlock)
  unfold P at H
  have L0 : bc0 ≤ w.heap.size := by have := Go.Proofs.YtkinlkmmelkdnaaDoor.GoC.cur_lt K0.out; omega
  go_enter Tryd.func103, Tryd.ntmps103
  obtain ⟨w_t_0, hw_t_0⟩ : ∃ x, w.alloc (.cells #[.string (⟨#[]⟩ : ByteArray), .int .i64 0, .int .i64 0, .int .i64 0, .int .i64 0] 54) = x := ⟨_, rfl⟩
  have bw_t_0 : Below w.heap.size w w_t_0 := by rw [← hw_t_0]; exact (Below.refl _ _).alloc (Nat.le_refl _) _
  have Dt_0_c0 := Lib.hid (Go.Proofs.YtkinlkmmelkdnaaDoor.GoC.apart_cur K0.out)
  have HBw_t_0 := Lib.hid (grown_below HB.out bw_t_0)
  replace K0 := Lib.hid (Go.Proofs.YtkinlkmmelkdnaaDoor.GoC.cur_below K0.out bw_t_0)
  clear bw_t_0
  have kt_0_0 : w_t_0.cell? ⟨w.heap.size, 0, none⟩ = some (.string (⟨#[]⟩ : ByteArray)) := by rw [← hw_t_0]; exact box_new _ _ _ 0 _ rfl
  have kt_0_1 : w_t_0.cell? ⟨w.heap.size, 1, none⟩ = some (.int .i64 0) := by rw [← hw_t_0]; exact box_new _ _ _ 1 _ rfl
  have kt_0_2 : w_t_0.cell? ⟨w.heap.size, 2, none⟩ = some (.int .i64 0) := by rw [← hw_t_0]; exact box_new _ _ _ 2 _ rfl
  have kt_0_3 : w_t_0.cell? ⟨w.heap.size, 3, none⟩ = some (.int .i64 0) := by rw [← hw_t_0]; exact box_new _ _ _ 3 _ rfl
  have kt_0_4 : w_t_0.cell? ⟨w.heap.size, 4, none⟩ = some (.int .i64 0) := by rw [← hw_t_0]; exact box_new _ _ _ 4 _ rfl
  have Ot_0 : Hid (w_t_0.ownsRow w.heap.size 54 5 (.slice (some ⟨w.heap.size, 0, none⟩) 1 1) 1 [.string (⟨#[]⟩ : ByteArray), .int .i64 0, .int .i64 0, .int .i64 0, .int .i64 0]) := Lib.hid (by rw [← hw_t_0]; exact own_laid (n := 1) HB.out.size rfl rfl (by unfold maxLen; omega))
  replace H := let_hid H
  obtain ⟨t_3, ht_3, H⟩ := H
  obtain ⟨w_t_3, hw_t_3⟩ : ∃ x, w_t_0.alloc (.cells #[.int .i64 0, .int .i64 5, .int .i64 20, .int .i64 180, .int .i64 350, .int .i64 359] 3) = x := ⟨_, rfl⟩
  have bw_t_3 : Below w_t_0.heap.size w_t_0 w_t_3 := by rw [← hw_t_3]; exact (Below.refl _ _).alloc (Nat.le_refl _) _
  have hs_t_3 := HBw_t_0.out.size
  have nt_3 : t_3.length = 6 := by rw [← ht_3]; rfl
  have Ot_3 : Hid (w_t_3.ownsRow w.heap.size 3 1 (.slice (some ⟨w_t_0.heap.size, 0, none⟩) 6 6) 6 (Go.Proofs.YtkinlkmmelkdnaaDoor.HelpInt.iv t_3)) := by
    rw [← hw_t_3, ← ht_3]
    have e_ : ([.int .i64 0, .int .i64 5, .int .i64 20, .int .i64 180, .int .i64 350, .int .i64 359] : List Value) = (Go.Proofs.YtkinlkmmelkdnaaDoor.HelpInt.iv ([0, 5, 20, 180, 350, 359] : List Int)) := rfl
    exact Lib.hid (own_laid (n := 6) hs_t_3 e_ rfl (by unfold maxLen; omega))
  clear hs_t_3
  have hht_3 := Lib.hid ht_3
  clear ht_3
  replace nt_3 := Lib.hid nt_3
  have Dt_3_c0 := Lib.hid (Go.Proofs.YtkinlkmmelkdnaaDoor.GoC.apart_cur K0.out)
  have Dt_3_t_0 := Lib.hid (apart_box kt_0_0)
  have HBw_t_3 := Lib.hid (grown_below HBw_t_0.out bw_t_3)
  have kt_0_0__1 := cell_below bw_t_3 kt_0_0
  have kt_0_1__2 := cell_below bw_t_3 kt_0_1
  have kt_0_2__3 := cell_below bw_t_3 kt_0_2
  have kt_0_3__4 := cell_below bw_t_3 kt_0_3
  have kt_0_4__5 := cell_below bw_t_3 kt_0_4
  replace K0 := Lib.hid (Go.Proofs.YtkinlkmmelkdnaaDoor.GoC.cur_below K0.out bw_t_3)
  replace Ot_0 := Lib.hid (own_below Ot_0.out bw_t_3)
  clear bw_t_3
  replace H := bind2_hid H
  obtain ⟨t_4, t_4_tp, qt_4, H⟩ := H
  go_wp2_with fail
  clear kt_0_0 kt_0_1 kt_0_2 kt_0_3 kt_0_4
  have hc_ := nt_3.out
  have hv_ : (Value.slice (some ⟨w_t_0.heap.size, 0, none⟩) 6 6 : Value) = Value.slice (some ⟨w_t_0.heap.size, 0, none⟩) t_3.length 6 := by rw [hc_]
  try rw [hv_]
  replace Ot_3 := Lib.hid (own_len hc_ Ot_3.out)
  clear hc_ hv_
  go_wp2_with fail
  go_at_call 46
  refine (Go.Proofs.YtkinlkmmelkdnaaDoor.GsL1CurAmong.C (c) (t_3) (some ⟨w_t_0.heap.size, 0, none⟩) 6 (g0) (Ac0) (cc0) (bc0) _   (Lib.hid (own_cells Ot_3.out)) (Lib.hid (own_max Ot_3.out)) K0 (Lib.hid (fun _ => Dt_3_c0.out)) qt_4).mono ?_
  rintro e_t_4 wt_4 ⟨rfl, kt_4, gt_4⟩
  have Kt_4 := Lib.hid kt_4
  have Gt_4 : Hid (w_t_3.grownBy wt_4 (Value.slice (some ⟨g0, 0, none⟩) 1 1).ownBlock) := Lib.hid gt_4
  clear kt_4 gt_4
  have HBwt_4 := Lib.hid (Aid.grown_tr HBw_t_3.out Gt_4.out)
  replace kt_0_0__1 := cell_other kt_0_0__1 Gt_4.out (Apart.symm Dt_0_c0.out)
  replace kt_0_1__2 := cell_other kt_0_1__2 Gt_4.out (Apart.symm Dt_0_c0.out)
  replace kt_0_2__3 := cell_other kt_0_2__3 Gt_4.out (Apart.symm Dt_0_c0.out)
  replace kt_0_3__4 := cell_other kt_0_3__4 Gt_4.out (Apart.symm Dt_0_c0.out)
  replace kt_0_4__5 := cell_other kt_0_4__5 Gt_4.out (Apart.symm Dt_0_c0.out)
  replace Ot_0 := Lib.hid (own_other Ot_0.out Gt_4.out (Apart.symm Dt_0_c0.out))
  replace Ot_3 := Lib.hid (own_other Ot_3.out Gt_4.out (Apart.symm Dt_3_c0.out))
  clear K0 Gt_4
  replace H := let_hid H
  obtain ⟨t_6, ht_6, H⟩ := H
  obtain ⟨w_t_6, hw_t_6⟩ : ∃ x, wt_4.alloc (.cells #[.int .i64 0, .int .i64 5, .int .i64 10, .int .i64 15, .int .i64 90, .int .i64 179] 3) = x := ⟨_, rfl⟩
  have bw_t_6 : Below wt_4.heap.size wt_4 w_t_6 := by rw [← hw_t_6]; exact (Below.refl _ _).alloc (Nat.le_refl _) _
  have hs_t_6 := HBwt_4.out.size
  have nt_6 : t_6.length = 6 := by rw [← ht_6]; rfl
  have Ot_6 : Hid (w_t_6.ownsRow w.heap.size 3 1 (.slice (some ⟨wt_4.heap.size, 0, none⟩) 6 6) 6 (Go.Proofs.YtkinlkmmelkdnaaDoor.HelpInt.iv t_6)) := by
    rw [← hw_t_6, ← ht_6]
    have e_ : ([.int .i64 0, .int .i64 5, .int .i64 10, .int .i64 15, .int .i64 90, .int .i64 179] : List Value) = (Go.Proofs.YtkinlkmmelkdnaaDoor.HelpInt.iv ([0, 5, 10, 15, 90, 179] : List Int)) := rfl
    exact Lib.hid (own_laid (n := 6) hs_t_6 e_ rfl (by unfold maxLen; omega))
  clear hs_t_6
  have hht_6 := Lib.hid ht_6
  clear ht_6
  replace nt_6 := Lib.hid nt_6
  have Dt_6_t_3 := Lib.hid (apart_fresh Ot_3.out)
  have Dt_6_c0 := Lib.hid (Go.Proofs.YtkinlkmmelkdnaaDoor.GoC.apart_cur Kt_4.out)
  have Dt_6_t_0 := Lib.hid (apart_box kt_0_0__1)
  have HBw_t_6 := Lib.hid (grown_below HBwt_4.out bw_t_6)
  have kt_0_0__6 := cell_below bw_t_6 kt_0_0__1
  have kt_0_1__7 := cell_below bw_t_6 kt_0_1__2
  have kt_0_2__8 := cell_below bw_t_6 kt_0_2__3
  have kt_0_3__9 := cell_below bw_t_6 kt_0_3__4
  have kt_0_4__10 := cell_below bw_t_6 kt_0_4__5
  replace Ot_3 := Lib.hid (own_below Ot_3.out bw_t_6)
  replace Kt_4 := Lib.hid (Go.Proofs.YtkinlkmmelkdnaaDoor.GoC.cur_below Kt_4.out bw_t_6)
  replace Ot_0 := Lib.hid (own_below Ot_0.out bw_t_6)
  clear bw_t_6
  replace H := bind2_hid H
  obtain ⟨t_7, t_7_tp, qt_7, H⟩ := H
  go_wp2_with fail
  clear kt_0_0__1 kt_0_1__2 kt_0_2__3 kt_0_3__4 kt_0_4__5
  have hc_ := nt_6.out
  have hv_ : (Value.slice (some ⟨wt_4.heap.size, 0, none⟩) 6 6 : Value) = Value.slice (some ⟨wt_4.heap.size, 0, none⟩) t_6.length 6 := by rw [hc_]
  try rw [hv_]
  replace Ot_6 := Lib.hid (own_len hc_ Ot_6.out)
  clear hc_ hv_
  go_wp2_with fail
  go_at_call 46
  refine (Go.Proofs.YtkinlkmmelkdnaaDoor.GsL1CurAmong.C (t_4_tp) (t_6) (some ⟨wt_4.heap.size, 0, none⟩) 6 (g0) (Ac0) (cc0) (bc0) _   (Lib.hid (own_cells Ot_6.out)) (Lib.hid (own_max Ot_6.out)) Kt_4 (Lib.hid (fun _ => Dt_6_c0.out)) qt_7).mono ?_
  rintro e_t_7 wt_7 ⟨rfl, kt_7, gt_7⟩
  have Kt_7 := Lib.hid kt_7
  have Gt_7 : Hid (w_t_6.grownBy wt_7 (Value.slice (some ⟨g0, 0, none⟩) 1 1).ownBlock) := Lib.hid gt_7
  clear kt_7 gt_7
  have HBwt_7 := Lib.hid (Aid.grown_tr HBw_t_6.out Gt_7.out)
  replace kt_0_0__6 := cell_other kt_0_0__6 Gt_7.out (Apart.symm Dt_0_c0.out)
  replace kt_0_1__7 := cell_other kt_0_1__7 Gt_7.out (Apart.symm Dt_0_c0.out)
  replace kt_0_2__8 := cell_other kt_0_2__8 Gt_7.out (Apart.symm Dt_0_c0.out)
  replace kt_0_3__9 := cell_other kt_0_3__9 Gt_7.out (Apart.symm Dt_0_c0.out)
  replace kt_0_4__10 := cell_other kt_0_4__10 Gt_7.out (Apart.symm Dt_0_c0.out)
  replace Ot_0 := Lib.hid (own_other Ot_0.out Gt_7.out (Apart.symm Dt_0_c0.out))
  replace Ot_3 := Lib.hid (own_other Ot_3.out Gt_7.out (Apart.symm Dt_3_c0.out))
  replace Ot_6 := Lib.hid (own_other Ot_6.out Gt_7.out (Apart.symm Dt_6_c0.out))
  clear Kt_4 Gt_7
  replace H := let_hid H
  obtain ⟨t_9, ht_9, H⟩ := H
  obtain ⟨w_t_9, hw_t_9⟩ : ∃ x, wt_7.alloc (.cells #[.int .i64 0, .int .i64 30, .int .i64 50] 3) = x := ⟨_, rfl⟩
  have bw_t_9 : Below wt_7.heap.size wt_7 w_t_9 := by rw [← hw_t_9]; exact (Below.refl _ _).alloc (Nat.le_refl _) _
  have hs_t_9 := HBwt_7.out.size
  have nt_9 : t_9.length = 3 := by rw [← ht_9]; rfl
  have Ot_9 : Hid (w_t_9.ownsRow w.heap.size 3 1 (.slice (some ⟨wt_7.heap.size, 0, none⟩) 3 3) 3 (Go.Proofs.YtkinlkmmelkdnaaDoor.HelpInt.iv t_9)) := by
    rw [← hw_t_9, ← ht_9]
    have e_ : ([.int .i64 0, .int .i64 30, .int .i64 50] : List Value) = (Go.Proofs.YtkinlkmmelkdnaaDoor.HelpInt.iv ([0, 30, 50] : List Int)) := rfl
    exact Lib.hid (own_laid (n := 3) hs_t_9 e_ rfl (by unfold maxLen; omega))
  clear hs_t_9
  have hht_9 := Lib.hid ht_9
  clear ht_9
  replace nt_9 := Lib.hid nt_9
  have Dt_9_t_3 := Lib.hid (apart_fresh Ot_3.out)
  have Dt_9_t_6 := Lib.hid (apart_fresh Ot_6.out)
  have Dt_9_c0 := Lib.hid (Go.Proofs.YtkinlkmmelkdnaaDoor.GoC.apart_cur Kt_7.out)
  have Dt_9_t_0 := Lib.hid (apart_box kt_0_0__6)
  have HBw_t_9 := Lib.hid (grown_below HBwt_7.out bw_t_9)
  have kt_0_0__11 := cell_below bw_t_9 kt_0_0__6
  have kt_0_1__12 := cell_below bw_t_9 kt_0_1__7
  have kt_0_2__13 := cell_below bw_t_9 kt_0_2__8
  have kt_0_3__14 := cell_below bw_t_9 kt_0_3__9
  have kt_0_4__15 := cell_below bw_t_9 kt_0_4__10
  replace Ot_3 := Lib.hid (own_below Ot_3.out bw_t_9)
  replace Ot_6 := Lib.hid (own_below Ot_6.out bw_t_9)
  replace Kt_7 := Lib.hid (Go.Proofs.YtkinlkmmelkdnaaDoor.GoC.cur_below Kt_7.out bw_t_9)
  replace Ot_0 := Lib.hid (own_below Ot_0.out bw_t_9)
  clear bw_t_9
  replace H := bind2_hid H
  obtain ⟨t_10, t_10_tp, qt_10, H⟩ := H
  go_wp2_with fail
  clear kt_0_0__6 kt_0_1__7 kt_0_2__8 kt_0_3__9 kt_0_4__10
  have hc_ := nt_9.out
  have hv_ : (Value.slice (some ⟨wt_7.heap.size, 0, none⟩) 3 3 : Value) = Value.slice (some ⟨wt_7.heap.size, 0, none⟩) t_9.length 3 := by rw [hc_]
  try rw [hv_]
  replace Ot_9 := Lib.hid (own_len hc_ Ot_9.out)
  clear hc_ hv_
  go_wp2_with fail
  go_at_call 46
  refine (Go.Proofs.YtkinlkmmelkdnaaDoor.GsL1CurAmong.C (t_7_tp) (t_9) (some ⟨wt_7.heap.size, 0, none⟩) 3 (g0) (Ac0) (cc0) (bc0) _   (Lib.hid (own_cells Ot_9.out)) (Lib.hid (own_max Ot_9.out)) Kt_7 (Lib.hid (fun _ => Dt_9_c0.out)) qt_10).mono ?_
  rintro e_t_10 wt_10 ⟨rfl, kt_10, gt_10⟩
  have Kt_10 := Lib.hid kt_10
  have Gt_10 : Hid (w_t_9.grownBy wt_10 (Value.slice (some ⟨g0, 0, none⟩) 1 1).ownBlock) := Lib.hid gt_10
  clear kt_10 gt_10
  have HBwt_10 := Lib.hid (Aid.grown_tr HBw_t_9.out Gt_10.out)
  replace kt_0_0__11 := cell_other kt_0_0__11 Gt_10.out (Apart.symm Dt_0_c0.out)
  replace kt_0_1__12 := cell_other kt_0_1__12 Gt_10.out (Apart.symm Dt_0_c0.out)
  replace kt_0_2__13 := cell_other kt_0_2__13 Gt_10.out (Apart.symm Dt_0_c0.out)
  replace kt_0_3__14 := cell_other kt_0_3__14 Gt_10.out (Apart.symm Dt_0_c0.out)
  replace kt_0_4__15 := cell_other kt_0_4__15 Gt_10.out (Apart.symm Dt_0_c0.out)
  replace Ot_0 := Lib.hid (own_other Ot_0.out Gt_10.out (Apart.symm Dt_0_c0.out))
  replace Ot_3 := Lib.hid (own_other Ot_3.out Gt_10.out (Apart.symm Dt_3_c0.out))
  replace Ot_6 := Lib.hid (own_other Ot_6.out Gt_10.out (Apart.symm Dt_6_c0.out))
  replace Ot_9 := Lib.hid (own_other Ot_9.out Gt_10.out (Apart.symm Dt_9_c0.out))
  clear Kt_7 Gt_10
  replace H := let_hid H
  obtain ⟨t_12, ht_12, H⟩ := H
  obtain ⟨w_t_12, hw_t_12⟩ : ∃ x, wt_10.alloc (.cells #[.int .i64 50, .int .i64 70, .int .i64 100] 3) = x := ⟨_, rfl⟩
  have bw_t_12 : Below wt_10.heap.size wt_10 w_t_12 := by rw [← hw_t_12]; exact (Below.refl _ _).alloc (Nat.le_refl _) _
  have hs_t_12 := HBwt_10.out.size
  have nt_12 : t_12.length = 3 := by rw [← ht_12]; rfl
  have Ot_12 : Hid (w_t_12.ownsRow w.heap.size 3 1 (.slice (some ⟨wt_10.heap.size, 0, none⟩) 3 3) 3 (Go.Proofs.YtkinlkmmelkdnaaDoor.HelpInt.iv t_12)) := by
    rw [← hw_t_12, ← ht_12]
    have e_ : ([.int .i64 50, .int .i64 70, .int .i64 100] : List Value) = (Go.Proofs.YtkinlkmmelkdnaaDoor.HelpInt.iv ([50, 70, 100] : List Int)) := rfl
    exact Lib.hid (own_laid (n := 3) hs_t_12 e_ rfl (by unfold maxLen; omega))
  clear hs_t_12
  have hht_12 := Lib.hid ht_12
  clear ht_12
  replace nt_12 := Lib.hid nt_12
  have Dt_12_t_3 := Lib.hid (apart_fresh Ot_3.out)
  have Dt_12_t_6 := Lib.hid (apart_fresh Ot_6.out)
  have Dt_12_t_9 := Lib.hid (apart_fresh Ot_9.out)
  have Dt_12_c0 := Lib.hid (Go.Proofs.YtkinlkmmelkdnaaDoor.GoC.apart_cur Kt_10.out)
  have Dt_12_t_0 := Lib.hid (apart_box kt_0_0__11)
  have HBw_t_12 := Lib.hid (grown_below HBwt_10.out bw_t_12)
  have kt_0_0__16 := cell_below bw_t_12 kt_0_0__11
  have kt_0_1__17 := cell_below bw_t_12 kt_0_1__12
  have kt_0_2__18 := cell_below bw_t_12 kt_0_2__13
  have kt_0_3__19 := cell_below bw_t_12 kt_0_3__14
  have kt_0_4__20 := cell_below bw_t_12 kt_0_4__15
  replace Ot_3 := Lib.hid (own_below Ot_3.out bw_t_12)
  replace Ot_6 := Lib.hid (own_below Ot_6.out bw_t_12)
  replace Ot_9 := Lib.hid (own_below Ot_9.out bw_t_12)
  replace Kt_10 := Lib.hid (Go.Proofs.YtkinlkmmelkdnaaDoor.GoC.cur_below Kt_10.out bw_t_12)
  replace Ot_0 := Lib.hid (own_below Ot_0.out bw_t_12)
  clear bw_t_12
  replace H := bind2_hid H
  obtain ⟨t_13, t_13_tp, qt_13, H⟩ := H
  go_wp2_with fail
  clear kt_0_0__11 kt_0_1__12 kt_0_2__13 kt_0_3__14 kt_0_4__15
  have hc_ := nt_12.out
  have hv_ : (Value.slice (some ⟨wt_10.heap.size, 0, none⟩) 3 3 : Value) = Value.slice (some ⟨wt_10.heap.size, 0, none⟩) t_12.length 3 := by rw [hc_]
  try rw [hv_]
  replace Ot_12 := Lib.hid (own_len hc_ Ot_12.out)
  clear hc_ hv_
  go_wp2_with fail
  go_at_call 46
  refine (Go.Proofs.YtkinlkmmelkdnaaDoor.GsL1CurAmong.C (t_10_tp) (t_12) (some ⟨wt_10.heap.size, 0, none⟩) 3 (g0) (Ac0) (cc0) (bc0) _   (Lib.hid (own_cells Ot_12.out)) (Lib.hid (own_max Ot_12.out)) Kt_10 (Lib.hid (fun _ => Dt_12_c0.out)) qt_13).mono ?_
  rintro e_t_13 wt_13 ⟨rfl, kt_13, gt_13⟩
  have Kt_13 := Lib.hid kt_13
  have Gt_13 : Hid (w_t_12.grownBy wt_13 (Value.slice (some ⟨g0, 0, none⟩) 1 1).ownBlock) := Lib.hid gt_13
  clear kt_13 gt_13
  have HBwt_13 := Lib.hid (Aid.grown_tr HBw_t_12.out Gt_13.out)
  replace kt_0_0__16 := cell_other kt_0_0__16 Gt_13.out (Apart.symm Dt_0_c0.out)
  replace kt_0_1__17 := cell_other kt_0_1__17 Gt_13.out (Apart.symm Dt_0_c0.out)
  replace kt_0_2__18 := cell_other kt_0_2__18 Gt_13.out (Apart.symm Dt_0_c0.out)
  replace kt_0_3__19 := cell_other kt_0_3__19 Gt_13.out (Apart.symm Dt_0_c0.out)
  replace kt_0_4__20 := cell_other kt_0_4__20 Gt_13.out (Apart.symm Dt_0_c0.out)
  replace Ot_0 := Lib.hid (own_other Ot_0.out Gt_13.out (Apart.symm Dt_0_c0.out))
  replace Ot_3 := Lib.hid (own_other Ot_3.out Gt_13.out (Apart.symm Dt_3_c0.out))
  replace Ot_6 := Lib.hid (own_other Ot_6.out Gt_13.out (Apart.symm Dt_6_c0.out))
  replace Ot_9 := Lib.hid (own_other Ot_9.out Gt_13.out (Apart.symm Dt_9_c0.out))
  replace Ot_12 := Lib.hid (own_other Ot_12.out Gt_13.out (Apart.symm Dt_12_c0.out))
  clear Kt_10 Gt_13
  obtain ⟨w_x_15, hw_x_15⟩ : ∃ x, wt_13.alloc (.cells #[.string name, .int .i64 t_4, .int .i64 t_7, .int .i64 t_10, .int .i64 t_13] 54) = x := ⟨_, rfl⟩
  have bw_x_15 : Below wt_13.heap.size wt_13 w_x_15 := by rw [← hw_x_15]; exact (Below.refl _ _).alloc (Nat.le_refl _) _
  have Dx_15_t_3 := Lib.hid (apart_fresh Ot_3.out)
  have Dx_15_t_6 := Lib.hid (apart_fresh Ot_6.out)
  have Dx_15_t_9 := Lib.hid (apart_fresh Ot_9.out)
  have Dx_15_t_12 := Lib.hid (apart_fresh Ot_12.out)
  have Dx_15_c0 := Lib.hid (Go.Proofs.YtkinlkmmelkdnaaDoor.GoC.apart_cur Kt_13.out)
  have Dx_15_t_0 := Lib.hid (apart_box kt_0_0__16)
  have HBw_x_15 := Lib.hid (grown_below HBwt_13.out bw_x_15)
  have kt_0_0__21 := cell_below bw_x_15 kt_0_0__16
  have kt_0_1__22 := cell_below bw_x_15 kt_0_1__17
  have kt_0_2__23 := cell_below bw_x_15 kt_0_2__18
  have kt_0_3__24 := cell_below bw_x_15 kt_0_3__19
  have kt_0_4__25 := cell_below bw_x_15 kt_0_4__20
  replace Ot_3 := Lib.hid (own_below Ot_3.out bw_x_15)
  replace Ot_6 := Lib.hid (own_below Ot_6.out bw_x_15)
  replace Ot_9 := Lib.hid (own_below Ot_9.out bw_x_15)
  replace Ot_12 := Lib.hid (own_below Ot_12.out bw_x_15)
  replace Kt_13 := Lib.hid (Go.Proofs.YtkinlkmmelkdnaaDoor.GoC.cur_below Kt_13.out bw_x_15)
  replace Ot_0 := Lib.hid (own_below Ot_0.out bw_x_15)
  clear bw_x_15
  have kx_15_0 : w_x_15.cell? ⟨wt_13.heap.size, 0, none⟩ = some (.string name) := by rw [← hw_x_15]; exact box_new _ _ _ 0 _ rfl
  have kx_15_1 : w_x_15.cell? ⟨wt_13.heap.size, 1, none⟩ = some (.int .i64 t_4) := by rw [← hw_x_15]; exact box_new _ _ _ 1 _ rfl
  have kx_15_2 : w_x_15.cell? ⟨wt_13.heap.size, 2, none⟩ = some (.int .i64 t_7) := by rw [← hw_x_15]; exact box_new _ _ _ 2 _ rfl
  have kx_15_3 : w_x_15.cell? ⟨wt_13.heap.size, 3, none⟩ = some (.int .i64 t_10) := by rw [← hw_x_15]; exact box_new _ _ _ 3 _ rfl
  have kx_15_4 : w_x_15.cell? ⟨wt_13.heap.size, 4, none⟩ = some (.int .i64 t_13) := by rw [← hw_x_15]; exact box_new _ _ _ 4 _ rfl
  have Ox_15 : Hid (w_x_15.ownsRow w.heap.size 54 5 (.slice (some ⟨wt_13.heap.size, 0, none⟩) 1 1) 1 [.string name, .int .i64 t_4, .int .i64 t_7, .int .i64 t_10, .int .i64 t_13]) := Lib.hid (by rw [← hw_x_15]; exact own_laid (n := 1) HBwt_13.out.size rfl rfl (by unfold maxLen; omega))
  replace H := bind2_hid H
  obtain ⟨t_18, t_18_tp, qt_18, H⟩ := H
  go_wp2_with fail
  clear kt_0_0__16 kt_0_1__17 kt_0_2__18 kt_0_3__19 kt_0_4__20
  go_at_call 73
  refine (Go.Proofs.YtkinlkmmelkdnaaDoor.GsL1CurPick.C (t_13_tp) (90) (g0) (Ac0) (cc0) (bc0) _   Kt_13 qt_18).mono ?_
  rintro e_t_18 wt_18 ⟨rfl, kt_18, gt_18⟩
  have Kt_18 := Lib.hid kt_18
  have Gt_18 : Hid (w_x_15.grownBy wt_18 (Value.slice (some ⟨g0, 0, none⟩) 1 1).ownBlock) := Lib.hid gt_18
  clear kt_18 gt_18
  have HBwt_18 := Lib.hid (Aid.grown_tr HBw_x_15.out Gt_18.out)
  replace kt_0_0__21 := cell_other kt_0_0__21 Gt_18.out (Apart.symm Dt_0_c0.out)
  replace kt_0_1__22 := cell_other kt_0_1__22 Gt_18.out (Apart.symm Dt_0_c0.out)
  replace kt_0_2__23 := cell_other kt_0_2__23 Gt_18.out (Apart.symm Dt_0_c0.out)
  replace kt_0_3__24 := cell_other kt_0_3__24 Gt_18.out (Apart.symm Dt_0_c0.out)
  replace kt_0_4__25 := cell_other kt_0_4__25 Gt_18.out (Apart.symm Dt_0_c0.out)
  replace kx_15_0 := cell_other kx_15_0 Gt_18.out (Apart.symm Dx_15_c0.out)
  replace kx_15_1 := cell_other kx_15_1 Gt_18.out (Apart.symm Dx_15_c0.out)
  replace kx_15_2 := cell_other kx_15_2 Gt_18.out (Apart.symm Dx_15_c0.out)
  replace kx_15_3 := cell_other kx_15_3 Gt_18.out (Apart.symm Dx_15_c0.out)
  replace kx_15_4 := cell_other kx_15_4 Gt_18.out (Apart.symm Dx_15_c0.out)
  replace Ot_0 := Lib.hid (own_other Ot_0.out Gt_18.out (Apart.symm Dt_0_c0.out))
  replace Ox_15 := Lib.hid (own_other Ox_15.out Gt_18.out (Apart.symm Dx_15_c0.out))
  replace Ot_3 := Lib.hid (own_other Ot_3.out Gt_18.out (Apart.symm Dt_3_c0.out))
  replace Ot_6 := Lib.hid (own_other Ot_6.out Gt_18.out (Apart.symm Dt_6_c0.out))
  replace Ot_9 := Lib.hid (own_other Ot_9.out Gt_18.out (Apart.symm Dt_9_c0.out))
  replace Ot_12 := Lib.hid (own_other Ot_12.out Gt_18.out (Apart.symm Dt_12_c0.out))
  clear Kt_13 Gt_18
  replace H := let_hid H
  obtain ⟨t_19, ht_19, H⟩ := H
  cases t_19 with
  | false =>
    replace H := ite_f H
    replace H := let_hid H
    obtain ⟨t_26, ht_26, H⟩ := H
    cases t_26 with
    | false =>
      replace H := ite_f H
      replace H := let_hid H
      obtain ⟨t_33, ht_33, H⟩ := H
      cases t_33 with
      | false =>
        replace H := ite_f H
        replace H := let_hid H
        obtain ⟨t_40, ht_40, H⟩ := H
        cases t_40 with
        | false =>
          replace H := ite_f H
          replace H := let_hid H
          obtain ⟨t_50, ht_50, H⟩ := H
          cases t_50 with
          | false =>
            replace H := ite_f H
            obtain ⟨wb55_55, hwb55_55⟩ : ∃ x, (((((wt_18).setCell ⟨w.heap.size, 0, none⟩ (.string name)).setCell ⟨w.heap.size, 1, none⟩ (.int .i64 t_4)).setCell ⟨w.heap.size, 2, none⟩ (.int .i64 t_7)).setCell ⟨w.heap.size, 3, none⟩ (.int .i64 t_10)).setCell ⟨w.heap.size, 4, none⟩ (.int .i64 t_13) = x := ⟨_, rfl⟩
            have z0b55_55 := Ot_0.out.frozenAt 0
            have z1b55_55 := Ot_0.out.frozenAt 1
            have z2b55_55 := Ot_0.out.frozenAt 2
            have z3b55_55 := Ot_0.out.frozenAt 3
            have z4b55_55 := Ot_0.out.frozenAt 4
            have Sb55_55 := Lib.hid (own_stores [(0, .string name), (1, .int .i64 t_4), (2, .int .i64 t_7), (3, .int .i64 t_10), (4, .int .i64 t_13)] Ot_0.out)
            have Pb55_55 : Hid (wb55_55.ownsRow w.heap.size 54 5 (.slice (some ⟨w.heap.size, 0, none⟩) 1 1) 1 [.string name, .int .i64 t_4, .int .i64 t_7, .int .i64 t_10, .int .i64 t_13]) := Lib.hid (by rw [← hwb55_55]; exact Sb55_55.out.1)
            have Gb55_55 : Hid (wt_18.grownBy wb55_55 (Value.slice (some ⟨w.heap.size, 0, none⟩) 1 1).ownBlock) := Lib.hid (by rw [← hwb55_55]; exact Sb55_55.out.2)
            have HBwb55_55 := Lib.hid (Go.Proofs.YtkinlkmmelkdnaaDoor.GoC.grown_new HBwt_18.out Gb55_55.out (Go.Proofs.YtkinlkmmelkdnaaDoor.GoC.own_ge Ot_0.out))
            clear Sb55_55
            have kx_15_0__26 := cell_other kx_15_0 Gb55_55.out (Apart.symm Dx_15_t_0.out)
            have kx_15_1__27 := cell_other kx_15_1 Gb55_55.out (Apart.symm Dx_15_t_0.out)
            have kx_15_2__28 := cell_other kx_15_2 Gb55_55.out (Apart.symm Dx_15_t_0.out)
            have kx_15_3__29 := cell_other kx_15_3 Gb55_55.out (Apart.symm Dx_15_t_0.out)
            have kx_15_4__30 := cell_other kx_15_4 Gb55_55.out (Apart.symm Dx_15_t_0.out)
            replace Ox_15 := Lib.hid (own_other Ox_15.out Gb55_55.out (Apart.symm Dx_15_t_0.out))
            replace Ot_3 := Lib.hid (own_other Ot_3.out Gb55_55.out (Apart.symm Dt_3_t_0.out))
            replace Ot_6 := Lib.hid (own_other Ot_6.out Gb55_55.out (Apart.symm Dt_6_t_0.out))
            replace Ot_9 := Lib.hid (own_other Ot_9.out Gb55_55.out (Apart.symm Dt_9_t_0.out))
            replace Ot_12 := Lib.hid (own_other Ot_12.out Gb55_55.out (Apart.symm Dt_12_t_0.out))
            replace Kt_18 := Lib.hid (Go.Proofs.YtkinlkmmelkdnaaDoor.GoC.cur_otherO Kt_18.out Gb55_55.out Dt_0_c0.out L0 Ot_0.out)
            clear Ot_0 Gb55_55
            have kt_0_0__31 : wb55_55.cell? ⟨w.heap.size, 0, none⟩ = some (.string name) := Pb55_55.out.cells rfl 0 _ rfl
            have kt_0_1__32 : wb55_55.cell? ⟨w.heap.size, 1, none⟩ = some (.int .i64 t_4) := Pb55_55.out.cells rfl 1 _ rfl
            have kt_0_2__33 : wb55_55.cell? ⟨w.heap.size, 2, none⟩ = some (.int .i64 t_7) := Pb55_55.out.cells rfl 2 _ rfl
            have kt_0_3__34 : wb55_55.cell? ⟨w.heap.size, 3, none⟩ = some (.int .i64 t_10) := Pb55_55.out.cells rfl 3 _ rfl
            have kt_0_4__35 : wb55_55.cell? ⟨w.heap.size, 4, none⟩ = some (.int .i64 t_13) := Pb55_55.out.cells rfl 4 _ rfl
            cases ret_hid H
            go_wp2_with fail
            (try simp only [Exit.inBlock, Exit.then])
            refine bodyPost_ret (v := .agg #[.string name, .int .i64 t_4, .int .i64 t_7, .int .i64 t_10, .int .i64 t_13]) ?hr_ ?hd_ ?_
            case hd_ => rfl
            case hr_ => simp [results, Tryd.results103, kt_0_0__31, kt_0_1__32, kt_0_2__33, kt_0_3__34, kt_0_4__35, go_sem]
            exact ⟨rfl, Kt_18.out, HBwb55_55.out⟩
          | true =>
            replace H := ite_t H
            obtain ⟨wb53_53, hwb53_53⟩ : ∃ x, (wt_18).setCell ⟨wt_13.heap.size, 4, none⟩ (.int .i64 101) = x := ⟨_, rfl⟩
            have z0b53_53 := Ox_15.out.frozenAt 4
            have Sb53_53 := Lib.hid (own_stores [(4, .int .i64 101)] Ox_15.out)
            have Pb53_53 : Hid (wb53_53.ownsRow w.heap.size 54 5 (.slice (some ⟨wt_13.heap.size, 0, none⟩) 1 1) 1 [.string name, .int .i64 t_4, .int .i64 t_7, .int .i64 t_10, .int .i64 101]) := Lib.hid (by rw [← hwb53_53]; exact Sb53_53.out.1)
            have Gb53_53 : Hid (wt_18.grownBy wb53_53 (Value.slice (some ⟨wt_13.heap.size, 0, none⟩) 1 1).ownBlock) := Lib.hid (by rw [← hwb53_53]; exact Sb53_53.out.2)
            have HBwb53_53 := Lib.hid (Go.Proofs.YtkinlkmmelkdnaaDoor.GoC.grown_new HBwt_18.out Gb53_53.out (Go.Proofs.YtkinlkmmelkdnaaDoor.GoC.own_ge Ox_15.out))
            clear Sb53_53
            have kt_0_0__36 := cell_other kt_0_0__21 Gb53_53.out Dx_15_t_0.out
            have kt_0_1__37 := cell_other kt_0_1__22 Gb53_53.out Dx_15_t_0.out
            have kt_0_2__38 := cell_other kt_0_2__23 Gb53_53.out Dx_15_t_0.out
            have kt_0_3__39 := cell_other kt_0_3__24 Gb53_53.out Dx_15_t_0.out
            have kt_0_4__40 := cell_other kt_0_4__25 Gb53_53.out Dx_15_t_0.out
            replace Ot_0 := Lib.hid (own_other Ot_0.out Gb53_53.out Dx_15_t_0.out)
            replace Ot_3 := Lib.hid (own_other Ot_3.out Gb53_53.out Dx_15_t_3.out)
            replace Ot_6 := Lib.hid (own_other Ot_6.out Gb53_53.out Dx_15_t_6.out)
            replace Ot_9 := Lib.hid (own_other Ot_9.out Gb53_53.out Dx_15_t_9.out)
            replace Ot_12 := Lib.hid (own_other Ot_12.out Gb53_53.out Dx_15_t_12.out)
            replace Kt_18 := Lib.hid (Go.Proofs.YtkinlkmmelkdnaaDoor.GoC.cur_otherO Kt_18.out Gb53_53.out Dx_15_c0.out L0 Ox_15.out)
            clear Ox_15 Gb53_53
            have kx_15_0__41 : wb53_53.cell? ⟨wt_13.heap.size, 0, none⟩ = some (.string name) := Pb53_53.out.cells rfl 0 _ rfl
            have kx_15_1__42 : wb53_53.cell? ⟨wt_13.heap.size, 1, none⟩ = some (.int .i64 t_4) := Pb53_53.out.cells rfl 1 _ rfl
            have kx_15_2__43 : wb53_53.cell? ⟨wt_13.heap.size, 2, none⟩ = some (.int .i64 t_7) := Pb53_53.out.cells rfl 2 _ rfl
            have kx_15_3__44 : wb53_53.cell? ⟨wt_13.heap.size, 3, none⟩ = some (.int .i64 t_10) := Pb53_53.out.cells rfl 3 _ rfl
            have kx_15_4__45 : wb53_53.cell? ⟨wt_13.heap.size, 4, none⟩ = some (.int .i64 101) := Pb53_53.out.cells rfl 4 _ rfl
            obtain ⟨wb55_55, hwb55_55⟩ : ∃ x, (((((wb53_53).setCell ⟨w.heap.size, 0, none⟩ (.string name)).setCell ⟨w.heap.size, 1, none⟩ (.int .i64 t_4)).setCell ⟨w.heap.size, 2, none⟩ (.int .i64 t_7)).setCell ⟨w.heap.size, 3, none⟩ (.int .i64 t_10)).setCell ⟨w.heap.size, 4, none⟩ (.int .i64 101) = x := ⟨_, rfl⟩
            have z0b55_55 := Ot_0.out.frozenAt 0
            have z1b55_55 := Ot_0.out.frozenAt 1
            have z2b55_55 := Ot_0.out.frozenAt 2
            have z3b55_55 := Ot_0.out.frozenAt 3
            have z4b55_55 := Ot_0.out.frozenAt 4
            have Sb55_55 := Lib.hid (own_stores [(0, .string name), (1, .int .i64 t_4), (2, .int .i64 t_7), (3, .int .i64 t_10), (4, .int .i64 101)] Ot_0.out)
            have Pb55_55 : Hid (wb55_55.ownsRow w.heap.size 54 5 (.slice (some ⟨w.heap.size, 0, none⟩) 1 1) 1 [.string name, .int .i64 t_4, .int .i64 t_7, .int .i64 t_10, .int .i64 101]) := Lib.hid (by rw [← hwb55_55]; exact Sb55_55.out.1)
            have Gb55_55 : Hid (wb53_53.grownBy wb55_55 (Value.slice (some ⟨w.heap.size, 0, none⟩) 1 1).ownBlock) := Lib.hid (by rw [← hwb55_55]; exact Sb55_55.out.2)
            have HBwb55_55 := Lib.hid (Go.Proofs.YtkinlkmmelkdnaaDoor.GoC.grown_new HBwb53_53.out Gb55_55.out (Go.Proofs.YtkinlkmmelkdnaaDoor.GoC.own_ge Ot_0.out))
            clear Sb55_55
            have kx_15_0__46 := cell_other kx_15_0__41 Gb55_55.out (Apart.symm Dx_15_t_0.out)
            have kx_15_1__47 := cell_other kx_15_1__42 Gb55_55.out (Apart.symm Dx_15_t_0.out)
            have kx_15_2__48 := cell_other kx_15_2__43 Gb55_55.out (Apart.symm Dx_15_t_0.out)
            have kx_15_3__49 := cell_other kx_15_3__44 Gb55_55.out (Apart.symm Dx_15_t_0.out)
            have kx_15_4__50 := cell_other kx_15_4__45 Gb55_55.out (Apart.symm Dx_15_t_0.out)
            replace Pb53_53 := Lib.hid (own_other Pb53_53.out Gb55_55.out (Apart.symm Dx_15_t_0.out))
            replace Ot_3 := Lib.hid (own_other Ot_3.out Gb55_55.out (Apart.symm Dt_3_t_0.out))
            replace Ot_6 := Lib.hid (own_other Ot_6.out Gb55_55.out (Apart.symm Dt_6_t_0.out))
            replace Ot_9 := Lib.hid (own_other Ot_9.out Gb55_55.out (Apart.symm Dt_9_t_0.out))
            replace Ot_12 := Lib.hid (own_other Ot_12.out Gb55_55.out (Apart.symm Dt_12_t_0.out))
            replace Kt_18 := Lib.hid (Go.Proofs.YtkinlkmmelkdnaaDoor.GoC.cur_otherO Kt_18.out Gb55_55.out Dt_0_c0.out L0 Ot_0.out)
            clear Ot_0 Gb55_55
            have kt_0_0__51 : wb55_55.cell? ⟨w.heap.size, 0, none⟩ = some (.string name) := Pb55_55.out.cells rfl 0 _ rfl
            have kt_0_1__52 : wb55_55.cell? ⟨w.heap.size, 1, none⟩ = some (.int .i64 t_4) := Pb55_55.out.cells rfl 1 _ rfl
            have kt_0_2__53 : wb55_55.cell? ⟨w.heap.size, 2, none⟩ = some (.int .i64 t_7) := Pb55_55.out.cells rfl 2 _ rfl
            have kt_0_3__54 : wb55_55.cell? ⟨w.heap.size, 3, none⟩ = some (.int .i64 t_10) := Pb55_55.out.cells rfl 3 _ rfl
            have kt_0_4__55 : wb55_55.cell? ⟨w.heap.size, 4, none⟩ = some (.int .i64 101) := Pb55_55.out.cells rfl 4 _ rfl
            cases ret_hid H
            go_wp2_with fail
            (try simp only [Exit.inBlock, Exit.then])
            refine bodyPost_ret (v := .agg #[.string name, .int .i64 t_4, .int .i64 t_7, .int .i64 t_10, .int .i64 101]) ?hr_ ?hd_ ?_
            case hd_ => rfl
            case hr_ => simp [results, Tryd.results103, kt_0_0__51, kt_0_1__52, kt_0_2__53, kt_0_3__54, kt_0_4__55, go_sem]
            exact ⟨rfl, Kt_18.out, HBwb55_55.out⟩
        | true =>
          replace H := ite_t H
          replace H := let_hid H
          obtain ⟨t_45, ht_45, H⟩ := H
          replace H := let_hid H
          obtain ⟨t_46, ht_46, H⟩ := H
          obtain ⟨w_t_46, hw_t_46⟩ : ∃ x, wt_18.alloc (.cells #[.int .i64 (-1), .int .i64 t_45] 3) = x := ⟨_, rfl⟩
          have bw_t_46 : Below wt_18.heap.size wt_18 w_t_46 := by rw [← hw_t_46]; exact (Below.refl _ _).alloc (Nat.le_refl _) _
          have hs_t_46 := HBwt_18.out.size
          have nt_46 : t_46.length = 2 := by rw [← ht_46]; rfl
          have Ot_46 : Hid (w_t_46.ownsRow w.heap.size 3 1 (.slice (some ⟨wt_18.heap.size, 0, none⟩) 2 2) 2 (Go.Proofs.YtkinlkmmelkdnaaDoor.HelpInt.iv t_46)) := by
            rw [← hw_t_46, ← ht_46]
            have e_ : ([.int .i64 (-1), .int .i64 t_45] : List Value) = (Go.Proofs.YtkinlkmmelkdnaaDoor.HelpInt.iv ([(-1), t_45] : List Int)) := rfl
            exact Lib.hid (own_laid (n := 2) hs_t_46 e_ rfl (by unfold maxLen; omega))
          clear hs_t_46
          have hht_46 := Lib.hid ht_46
          clear ht_46
          replace nt_46 := Lib.hid nt_46
          have Dt_46_t_3 := Lib.hid (apart_fresh Ot_3.out)
          have Dt_46_t_6 := Lib.hid (apart_fresh Ot_6.out)
          have Dt_46_t_9 := Lib.hid (apart_fresh Ot_9.out)
          have Dt_46_t_12 := Lib.hid (apart_fresh Ot_12.out)
          have Dt_46_c0 := Lib.hid (Go.Proofs.YtkinlkmmelkdnaaDoor.GoC.apart_cur Kt_18.out)
          have Dt_46_t_0 := Lib.hid (apart_box kt_0_0__21)
          have Dt_46_x_15 := Lib.hid (apart_box kx_15_0)
          have HBw_t_46 := Lib.hid (grown_below HBwt_18.out bw_t_46)
          have kt_0_0__56 := cell_below bw_t_46 kt_0_0__21
          have kt_0_1__57 := cell_below bw_t_46 kt_0_1__22
          have kt_0_2__58 := cell_below bw_t_46 kt_0_2__23
          have kt_0_3__59 := cell_below bw_t_46 kt_0_3__24
          have kt_0_4__60 := cell_below bw_t_46 kt_0_4__25
          have kx_15_0__61 := cell_below bw_t_46 kx_15_0
          have kx_15_1__62 := cell_below bw_t_46 kx_15_1
          have kx_15_2__63 := cell_below bw_t_46 kx_15_2
          have kx_15_3__64 := cell_below bw_t_46 kx_15_3
          have kx_15_4__65 := cell_below bw_t_46 kx_15_4
          replace Ot_3 := Lib.hid (own_below Ot_3.out bw_t_46)
          replace Ot_6 := Lib.hid (own_below Ot_6.out bw_t_46)
          replace Ot_9 := Lib.hid (own_below Ot_9.out bw_t_46)
          replace Ot_12 := Lib.hid (own_below Ot_12.out bw_t_46)
          replace Kt_18 := Lib.hid (Go.Proofs.YtkinlkmmelkdnaaDoor.GoC.cur_below Kt_18.out bw_t_46)
          replace Ot_0 := Lib.hid (own_below Ot_0.out bw_t_46)
          replace Ox_15 := Lib.hid (own_below Ox_15.out bw_t_46)
          clear bw_t_46
          replace H := bind2_hid H
          obtain ⟨t_47, t_47_tp, qt_47, H⟩ := H
          go_wp2_with fail
          clear kt_0_0__21 kt_0_1__22 kt_0_2__23 kt_0_3__24 kt_0_4__25 kx_15_0 kx_15_1 kx_15_2 kx_15_3 kx_15_4
          have hc_ := nt_46.out
          have hv_ : (Value.slice (some ⟨wt_18.heap.size, 0, none⟩) 2 2 : Value) = Value.slice (some ⟨wt_18.heap.size, 0, none⟩) t_46.length 2 := by rw [hc_]
          try rw [hv_]
          replace Ot_46 := Lib.hid (own_len hc_ Ot_46.out)
          clear hc_ hv_
          go_wp2_with fail
          go_at_call 46
          refine (Go.Proofs.YtkinlkmmelkdnaaDoor.GsL1CurAmong.C (t_18_tp) (t_46) (some ⟨wt_18.heap.size, 0, none⟩) 2 (g0) (Ac0) (cc0) (bc0) _   (Lib.hid (own_cells Ot_46.out)) (Lib.hid (own_max Ot_46.out)) Kt_18 (Lib.hid (fun _ => Dt_46_c0.out)) qt_47).mono ?_
          rintro e_t_47 wt_47 ⟨rfl, kt_47, gt_47⟩
          have Kt_47 := Lib.hid kt_47
          have Gt_47 : Hid (w_t_46.grownBy wt_47 (Value.slice (some ⟨g0, 0, none⟩) 1 1).ownBlock) := Lib.hid gt_47
          clear kt_47 gt_47
          have HBwt_47 := Lib.hid (Aid.grown_tr HBw_t_46.out Gt_47.out)
          replace kt_0_0__56 := cell_other kt_0_0__56 Gt_47.out (Apart.symm Dt_0_c0.out)
          replace kt_0_1__57 := cell_other kt_0_1__57 Gt_47.out (Apart.symm Dt_0_c0.out)
          replace kt_0_2__58 := cell_other kt_0_2__58 Gt_47.out (Apart.symm Dt_0_c0.out)
          replace kt_0_3__59 := cell_other kt_0_3__59 Gt_47.out (Apart.symm Dt_0_c0.out)
          replace kt_0_4__60 := cell_other kt_0_4__60 Gt_47.out (Apart.symm Dt_0_c0.out)
          replace kx_15_0__61 := cell_other kx_15_0__61 Gt_47.out (Apart.symm Dx_15_c0.out)
          replace kx_15_1__62 := cell_other kx_15_1__62 Gt_47.out (Apart.symm Dx_15_c0.out)
          replace kx_15_2__63 := cell_other kx_15_2__63 Gt_47.out (Apart.symm Dx_15_c0.out)
          replace kx_15_3__64 := cell_other kx_15_3__64 Gt_47.out (Apart.symm Dx_15_c0.out)
          replace kx_15_4__65 := cell_other kx_15_4__65 Gt_47.out (Apart.symm Dx_15_c0.out)
          replace Ot_0 := Lib.hid (own_other Ot_0.out Gt_47.out (Apart.symm Dt_0_c0.out))
          replace Ox_15 := Lib.hid (own_other Ox_15.out Gt_47.out (Apart.symm Dx_15_c0.out))
          replace Ot_3 := Lib.hid (own_other Ot_3.out Gt_47.out (Apart.symm Dt_3_c0.out))
          replace Ot_6 := Lib.hid (own_other Ot_6.out Gt_47.out (Apart.symm Dt_6_c0.out))
          replace Ot_9 := Lib.hid (own_other Ot_9.out Gt_47.out (Apart.symm Dt_9_c0.out))
          replace Ot_12 := Lib.hid (own_other Ot_12.out Gt_47.out (Apart.symm Dt_12_c0.out))
          replace Ot_46 := Lib.hid (own_other Ot_46.out Gt_47.out (Apart.symm Dt_46_c0.out))
          clear Kt_18 Gt_47
          obtain ⟨wb49_49, hwb49_49⟩ : ∃ x, (wt_47).setCell ⟨wt_13.heap.size, 3, none⟩ (.int .i64 t_47) = x := ⟨_, rfl⟩
          have z0b49_49 := Ox_15.out.frozenAt 3
          have Sb49_49 := Lib.hid (own_stores [(3, .int .i64 t_47)] Ox_15.out)
          have Pb49_49 : Hid (wb49_49.ownsRow w.heap.size 54 5 (.slice (some ⟨wt_13.heap.size, 0, none⟩) 1 1) 1 [.string name, .int .i64 t_4, .int .i64 t_7, .int .i64 t_47, .int .i64 t_13]) := Lib.hid (by rw [← hwb49_49]; exact Sb49_49.out.1)
          have Gb49_49 : Hid (wt_47.grownBy wb49_49 (Value.slice (some ⟨wt_13.heap.size, 0, none⟩) 1 1).ownBlock) := Lib.hid (by rw [← hwb49_49]; exact Sb49_49.out.2)
          have HBwb49_49 := Lib.hid (Go.Proofs.YtkinlkmmelkdnaaDoor.GoC.grown_new HBwt_47.out Gb49_49.out (Go.Proofs.YtkinlkmmelkdnaaDoor.GoC.own_ge Ox_15.out))
          clear Sb49_49
          have kt_0_0__66 := cell_other kt_0_0__56 Gb49_49.out Dx_15_t_0.out
          have kt_0_1__67 := cell_other kt_0_1__57 Gb49_49.out Dx_15_t_0.out
          have kt_0_2__68 := cell_other kt_0_2__58 Gb49_49.out Dx_15_t_0.out
          have kt_0_3__69 := cell_other kt_0_3__59 Gb49_49.out Dx_15_t_0.out
          have kt_0_4__70 := cell_other kt_0_4__60 Gb49_49.out Dx_15_t_0.out
          replace Ot_0 := Lib.hid (own_other Ot_0.out Gb49_49.out Dx_15_t_0.out)
          replace Ot_3 := Lib.hid (own_other Ot_3.out Gb49_49.out Dx_15_t_3.out)
          replace Ot_6 := Lib.hid (own_other Ot_6.out Gb49_49.out Dx_15_t_6.out)
          replace Ot_9 := Lib.hid (own_other Ot_9.out Gb49_49.out Dx_15_t_9.out)
          replace Ot_12 := Lib.hid (own_other Ot_12.out Gb49_49.out Dx_15_t_12.out)
          replace Ot_46 := Lib.hid (own_other Ot_46.out Gb49_49.out (Apart.symm Dt_46_x_15.out))
          replace Kt_47 := Lib.hid (Go.Proofs.YtkinlkmmelkdnaaDoor.GoC.cur_otherO Kt_47.out Gb49_49.out Dx_15_c0.out L0 Ox_15.out)
          clear Ox_15 Gb49_49
          have kx_15_0__71 : wb49_49.cell? ⟨wt_13.heap.size, 0, none⟩ = some (.string name) := Pb49_49.out.cells rfl 0 _ rfl
          have kx_15_1__72 : wb49_49.cell? ⟨wt_13.heap.size, 1, none⟩ = some (.int .i64 t_4) := Pb49_49.out.cells rfl 1 _ rfl
          have kx_15_2__73 : wb49_49.cell? ⟨wt_13.heap.size, 2, none⟩ = some (.int .i64 t_7) := Pb49_49.out.cells rfl 2 _ rfl
          have kx_15_3__74 : wb49_49.cell? ⟨wt_13.heap.size, 3, none⟩ = some (.int .i64 t_47) := Pb49_49.out.cells rfl 3 _ rfl
          have kx_15_4__75 : wb49_49.cell? ⟨wt_13.heap.size, 4, none⟩ = some (.int .i64 t_13) := Pb49_49.out.cells rfl 4 _ rfl
          obtain ⟨wb55_55, hwb55_55⟩ : ∃ x, (((((wb49_49).setCell ⟨w.heap.size, 0, none⟩ (.string name)).setCell ⟨w.heap.size, 1, none⟩ (.int .i64 t_4)).setCell ⟨w.heap.size, 2, none⟩ (.int .i64 t_7)).setCell ⟨w.heap.size, 3, none⟩ (.int .i64 t_47)).setCell ⟨w.heap.size, 4, none⟩ (.int .i64 t_13) = x := ⟨_, rfl⟩
          have z0b55_55 := Ot_0.out.frozenAt 0
          have z1b55_55 := Ot_0.out.frozenAt 1
          have z2b55_55 := Ot_0.out.frozenAt 2
          have z3b55_55 := Ot_0.out.frozenAt 3
          have z4b55_55 := Ot_0.out.frozenAt 4
          have Sb55_55 := Lib.hid (own_stores [(0, .string name), (1, .int .i64 t_4), (2, .int .i64 t_7), (3, .int .i64 t_47), (4, .int .i64 t_13)] Ot_0.out)
          have Pb55_55 : Hid (wb55_55.ownsRow w.heap.size 54 5 (.slice (some ⟨w.heap.size, 0, none⟩) 1 1) 1 [.string name, .int .i64 t_4, .int .i64 t_7, .int .i64 t_47, .int .i64 t_13]) := Lib.hid (by rw [← hwb55_55]; exact Sb55_55.out.1)
          have Gb55_55 : Hid (wb49_49.grownBy wb55_55 (Value.slice (some ⟨w.heap.size, 0, none⟩) 1 1).ownBlock) := Lib.hid (by rw [← hwb55_55]; exact Sb55_55.out.2)
          have HBwb55_55 := Lib.hid (Go.Proofs.YtkinlkmmelkdnaaDoor.GoC.grown_new HBwb49_49.out Gb55_55.out (Go.Proofs.YtkinlkmmelkdnaaDoor.GoC.own_ge Ot_0.out))
          clear Sb55_55
          have kx_15_0__76 := cell_other kx_15_0__71 Gb55_55.out (Apart.symm Dx_15_t_0.out)
          have kx_15_1__77 := cell_other kx_15_1__72 Gb55_55.out (Apart.symm Dx_15_t_0.out)
          have kx_15_2__78 := cell_other kx_15_2__73 Gb55_55.out (Apart.symm Dx_15_t_0.out)
          have kx_15_3__79 := cell_other kx_15_3__74 Gb55_55.out (Apart.symm Dx_15_t_0.out)
          have kx_15_4__80 := cell_other kx_15_4__75 Gb55_55.out (Apart.symm Dx_15_t_0.out)
          replace Pb49_49 := Lib.hid (own_other Pb49_49.out Gb55_55.out (Apart.symm Dx_15_t_0.out))
          replace Ot_3 := Lib.hid (own_other Ot_3.out Gb55_55.out (Apart.symm Dt_3_t_0.out))
          replace Ot_6 := Lib.hid (own_other Ot_6.out Gb55_55.out (Apart.symm Dt_6_t_0.out))
          replace Ot_9 := Lib.hid (own_other Ot_9.out Gb55_55.out (Apart.symm Dt_9_t_0.out))
          replace Ot_12 := Lib.hid (own_other Ot_12.out Gb55_55.out (Apart.symm Dt_12_t_0.out))
          replace Ot_46 := Lib.hid (own_other Ot_46.out Gb55_55.out (Apart.symm Dt_46_t_0.out))
          replace Kt_47 := Lib.hid (Go.Proofs.YtkinlkmmelkdnaaDoor.GoC.cur_otherO Kt_47.out Gb55_55.out Dt_0_c0.out L0 Ot_0.out)
          clear Ot_0 Gb55_55
          have kt_0_0__81 : wb55_55.cell? ⟨w.heap.size, 0, none⟩ = some (.string name) := Pb55_55.out.cells rfl 0 _ rfl
          have kt_0_1__82 : wb55_55.cell? ⟨w.heap.size, 1, none⟩ = some (.int .i64 t_4) := Pb55_55.out.cells rfl 1 _ rfl
          have kt_0_2__83 : wb55_55.cell? ⟨w.heap.size, 2, none⟩ = some (.int .i64 t_7) := Pb55_55.out.cells rfl 2 _ rfl
          have kt_0_3__84 : wb55_55.cell? ⟨w.heap.size, 3, none⟩ = some (.int .i64 t_47) := Pb55_55.out.cells rfl 3 _ rfl
          have kt_0_4__85 : wb55_55.cell? ⟨w.heap.size, 4, none⟩ = some (.int .i64 t_13) := Pb55_55.out.cells rfl 4 _ rfl
          cases ret_hid H
          go_wp2_with fail
          (try simp only [Exit.inBlock, Exit.then])
          refine bodyPost_ret (v := .agg #[.string name, .int .i64 t_4, .int .i64 t_7, .int .i64 t_47, .int .i64 t_13]) ?hr_ ?hd_ ?_
          case hd_ => rfl
          case hr_ => simp [results, Tryd.results103, kt_0_0__81, kt_0_1__82, kt_0_2__83, kt_0_3__84, kt_0_4__85, go_sem]
          exact ⟨rfl, Kt_47.out, HBwb55_55.out⟩
      | true =>
        replace H := ite_t H
        replace H := let_hid H
        obtain ⟨t_36, ht_36, H⟩ := H
        obtain ⟨w_t_36, hw_t_36⟩ : ∃ x, wt_18.alloc (.cells #[.int .i64 (-1), .int .i64 180] 3) = x := ⟨_, rfl⟩
        have bw_t_36 : Below wt_18.heap.size wt_18 w_t_36 := by rw [← hw_t_36]; exact (Below.refl _ _).alloc (Nat.le_refl _) _
        have hs_t_36 := HBwt_18.out.size
        have nt_36 : t_36.length = 2 := by rw [← ht_36]; rfl
        have Ot_36 : Hid (w_t_36.ownsRow w.heap.size 3 1 (.slice (some ⟨wt_18.heap.size, 0, none⟩) 2 2) 2 (Go.Proofs.YtkinlkmmelkdnaaDoor.HelpInt.iv t_36)) := by
          rw [← hw_t_36, ← ht_36]
          have e_ : ([.int .i64 (-1), .int .i64 180] : List Value) = (Go.Proofs.YtkinlkmmelkdnaaDoor.HelpInt.iv ([(-1), 180] : List Int)) := rfl
          exact Lib.hid (own_laid (n := 2) hs_t_36 e_ rfl (by unfold maxLen; omega))
        clear hs_t_36
        have hht_36 := Lib.hid ht_36
        clear ht_36
        replace nt_36 := Lib.hid nt_36
        have Dt_36_t_3 := Lib.hid (apart_fresh Ot_3.out)
        have Dt_36_t_6 := Lib.hid (apart_fresh Ot_6.out)
        have Dt_36_t_9 := Lib.hid (apart_fresh Ot_9.out)
        have Dt_36_t_12 := Lib.hid (apart_fresh Ot_12.out)
        have Dt_36_c0 := Lib.hid (Go.Proofs.YtkinlkmmelkdnaaDoor.GoC.apart_cur Kt_18.out)
        have Dt_36_t_0 := Lib.hid (apart_box kt_0_0__21)
        have Dt_36_x_15 := Lib.hid (apart_box kx_15_0)
        have HBw_t_36 := Lib.hid (grown_below HBwt_18.out bw_t_36)
        have kt_0_0__86 := cell_below bw_t_36 kt_0_0__21
        have kt_0_1__87 := cell_below bw_t_36 kt_0_1__22
        have kt_0_2__88 := cell_below bw_t_36 kt_0_2__23
        have kt_0_3__89 := cell_below bw_t_36 kt_0_3__24
        have kt_0_4__90 := cell_below bw_t_36 kt_0_4__25
        have kx_15_0__91 := cell_below bw_t_36 kx_15_0
        have kx_15_1__92 := cell_below bw_t_36 kx_15_1
        have kx_15_2__93 := cell_below bw_t_36 kx_15_2
        have kx_15_3__94 := cell_below bw_t_36 kx_15_3
        have kx_15_4__95 := cell_below bw_t_36 kx_15_4
        replace Ot_3 := Lib.hid (own_below Ot_3.out bw_t_36)
        replace Ot_6 := Lib.hid (own_below Ot_6.out bw_t_36)
        replace Ot_9 := Lib.hid (own_below Ot_9.out bw_t_36)
        replace Ot_12 := Lib.hid (own_below Ot_12.out bw_t_36)
        replace Kt_18 := Lib.hid (Go.Proofs.YtkinlkmmelkdnaaDoor.GoC.cur_below Kt_18.out bw_t_36)
        replace Ot_0 := Lib.hid (own_below Ot_0.out bw_t_36)
        replace Ox_15 := Lib.hid (own_below Ox_15.out bw_t_36)
        clear bw_t_36
        replace H := bind2_hid H
        obtain ⟨t_37, t_37_tp, qt_37, H⟩ := H
        go_wp2_with fail
        clear kt_0_0__21 kt_0_1__22 kt_0_2__23 kt_0_3__24 kt_0_4__25 kx_15_0 kx_15_1 kx_15_2 kx_15_3 kx_15_4
        have hc_ := nt_36.out
        have hv_ : (Value.slice (some ⟨wt_18.heap.size, 0, none⟩) 2 2 : Value) = Value.slice (some ⟨wt_18.heap.size, 0, none⟩) t_36.length 2 := by rw [hc_]
        try rw [hv_]
        replace Ot_36 := Lib.hid (own_len hc_ Ot_36.out)
        clear hc_ hv_
        go_wp2_with fail
        go_at_call 46
        refine (Go.Proofs.YtkinlkmmelkdnaaDoor.GsL1CurAmong.C (t_18_tp) (t_36) (some ⟨wt_18.heap.size, 0, none⟩) 2 (g0) (Ac0) (cc0) (bc0) _   (Lib.hid (own_cells Ot_36.out)) (Lib.hid (own_max Ot_36.out)) Kt_18 (Lib.hid (fun _ => Dt_36_c0.out)) qt_37).mono ?_
        rintro e_t_37 wt_37 ⟨rfl, kt_37, gt_37⟩
        have Kt_37 := Lib.hid kt_37
        have Gt_37 : Hid (w_t_36.grownBy wt_37 (Value.slice (some ⟨g0, 0, none⟩) 1 1).ownBlock) := Lib.hid gt_37
        clear kt_37 gt_37
        have HBwt_37 := Lib.hid (Aid.grown_tr HBw_t_36.out Gt_37.out)
        replace kt_0_0__86 := cell_other kt_0_0__86 Gt_37.out (Apart.symm Dt_0_c0.out)
        replace kt_0_1__87 := cell_other kt_0_1__87 Gt_37.out (Apart.symm Dt_0_c0.out)
        replace kt_0_2__88 := cell_other kt_0_2__88 Gt_37.out (Apart.symm Dt_0_c0.out)
        replace kt_0_3__89 := cell_other kt_0_3__89 Gt_37.out (Apart.symm Dt_0_c0.out)
        replace kt_0_4__90 := cell_other kt_0_4__90 Gt_37.out (Apart.symm Dt_0_c0.out)
        replace kx_15_0__91 := cell_other kx_15_0__91 Gt_37.out (Apart.symm Dx_15_c0.out)
        replace kx_15_1__92 := cell_other kx_15_1__92 Gt_37.out (Apart.symm Dx_15_c0.out)
        replace kx_15_2__93 := cell_other kx_15_2__93 Gt_37.out (Apart.symm Dx_15_c0.out)
        replace kx_15_3__94 := cell_other kx_15_3__94 Gt_37.out (Apart.symm Dx_15_c0.out)
        replace kx_15_4__95 := cell_other kx_15_4__95 Gt_37.out (Apart.symm Dx_15_c0.out)
        replace Ot_0 := Lib.hid (own_other Ot_0.out Gt_37.out (Apart.symm Dt_0_c0.out))
        replace Ox_15 := Lib.hid (own_other Ox_15.out Gt_37.out (Apart.symm Dx_15_c0.out))
        replace Ot_3 := Lib.hid (own_other Ot_3.out Gt_37.out (Apart.symm Dt_3_c0.out))
        replace Ot_6 := Lib.hid (own_other Ot_6.out Gt_37.out (Apart.symm Dt_6_c0.out))
        replace Ot_9 := Lib.hid (own_other Ot_9.out Gt_37.out (Apart.symm Dt_9_c0.out))
        replace Ot_12 := Lib.hid (own_other Ot_12.out Gt_37.out (Apart.symm Dt_12_c0.out))
        replace Ot_36 := Lib.hid (own_other Ot_36.out Gt_37.out (Apart.symm Dt_36_c0.out))
        clear Kt_18 Gt_37
        obtain ⟨wb39_39, hwb39_39⟩ : ∃ x, (wt_37).setCell ⟨wt_13.heap.size, 2, none⟩ (.int .i64 t_37) = x := ⟨_, rfl⟩
        have z0b39_39 := Ox_15.out.frozenAt 2
        have Sb39_39 := Lib.hid (own_stores [(2, .int .i64 t_37)] Ox_15.out)
        have Pb39_39 : Hid (wb39_39.ownsRow w.heap.size 54 5 (.slice (some ⟨wt_13.heap.size, 0, none⟩) 1 1) 1 [.string name, .int .i64 t_4, .int .i64 t_37, .int .i64 t_10, .int .i64 t_13]) := Lib.hid (by rw [← hwb39_39]; exact Sb39_39.out.1)
        have Gb39_39 : Hid (wt_37.grownBy wb39_39 (Value.slice (some ⟨wt_13.heap.size, 0, none⟩) 1 1).ownBlock) := Lib.hid (by rw [← hwb39_39]; exact Sb39_39.out.2)
        have HBwb39_39 := Lib.hid (Go.Proofs.YtkinlkmmelkdnaaDoor.GoC.grown_new HBwt_37.out Gb39_39.out (Go.Proofs.YtkinlkmmelkdnaaDoor.GoC.own_ge Ox_15.out))
        clear Sb39_39
        have kt_0_0__96 := cell_other kt_0_0__86 Gb39_39.out Dx_15_t_0.out
        have kt_0_1__97 := cell_other kt_0_1__87 Gb39_39.out Dx_15_t_0.out
        have kt_0_2__98 := cell_other kt_0_2__88 Gb39_39.out Dx_15_t_0.out
        have kt_0_3__99 := cell_other kt_0_3__89 Gb39_39.out Dx_15_t_0.out
        have kt_0_4__100 := cell_other kt_0_4__90 Gb39_39.out Dx_15_t_0.out
        replace Ot_0 := Lib.hid (own_other Ot_0.out Gb39_39.out Dx_15_t_0.out)
        replace Ot_3 := Lib.hid (own_other Ot_3.out Gb39_39.out Dx_15_t_3.out)
        replace Ot_6 := Lib.hid (own_other Ot_6.out Gb39_39.out Dx_15_t_6.out)
        replace Ot_9 := Lib.hid (own_other Ot_9.out Gb39_39.out Dx_15_t_9.out)
        replace Ot_12 := Lib.hid (own_other Ot_12.out Gb39_39.out Dx_15_t_12.out)
        replace Ot_36 := Lib.hid (own_other Ot_36.out Gb39_39.out (Apart.symm Dt_36_x_15.out))
        replace Kt_37 := Lib.hid (Go.Proofs.YtkinlkmmelkdnaaDoor.GoC.cur_otherO Kt_37.out Gb39_39.out Dx_15_c0.out L0 Ox_15.out)
        clear Ox_15 Gb39_39
        have kx_15_0__101 : wb39_39.cell? ⟨wt_13.heap.size, 0, none⟩ = some (.string name) := Pb39_39.out.cells rfl 0 _ rfl
        have kx_15_1__102 : wb39_39.cell? ⟨wt_13.heap.size, 1, none⟩ = some (.int .i64 t_4) := Pb39_39.out.cells rfl 1 _ rfl
        have kx_15_2__103 : wb39_39.cell? ⟨wt_13.heap.size, 2, none⟩ = some (.int .i64 t_37) := Pb39_39.out.cells rfl 2 _ rfl
        have kx_15_3__104 : wb39_39.cell? ⟨wt_13.heap.size, 3, none⟩ = some (.int .i64 t_10) := Pb39_39.out.cells rfl 3 _ rfl
        have kx_15_4__105 : wb39_39.cell? ⟨wt_13.heap.size, 4, none⟩ = some (.int .i64 t_13) := Pb39_39.out.cells rfl 4 _ rfl
        obtain ⟨wb55_55, hwb55_55⟩ : ∃ x, (((((wb39_39).setCell ⟨w.heap.size, 0, none⟩ (.string name)).setCell ⟨w.heap.size, 1, none⟩ (.int .i64 t_4)).setCell ⟨w.heap.size, 2, none⟩ (.int .i64 t_37)).setCell ⟨w.heap.size, 3, none⟩ (.int .i64 t_10)).setCell ⟨w.heap.size, 4, none⟩ (.int .i64 t_13) = x := ⟨_, rfl⟩
        have z0b55_55 := Ot_0.out.frozenAt 0
        have z1b55_55 := Ot_0.out.frozenAt 1
        have z2b55_55 := Ot_0.out.frozenAt 2
        have z3b55_55 := Ot_0.out.frozenAt 3
        have z4b55_55 := Ot_0.out.frozenAt 4
        have Sb55_55 := Lib.hid (own_stores [(0, .string name), (1, .int .i64 t_4), (2, .int .i64 t_37), (3, .int .i64 t_10), (4, .int .i64 t_13)] Ot_0.out)
        have Pb55_55 : Hid (wb55_55.ownsRow w.heap.size 54 5 (.slice (some ⟨w.heap.size, 0, none⟩) 1 1) 1 [.string name, .int .i64 t_4, .int .i64 t_37, .int .i64 t_10, .int .i64 t_13]) := Lib.hid (by rw [← hwb55_55]; exact Sb55_55.out.1)
        have Gb55_55 : Hid (wb39_39.grownBy wb55_55 (Value.slice (some ⟨w.heap.size, 0, none⟩) 1 1).ownBlock) := Lib.hid (by rw [← hwb55_55]; exact Sb55_55.out.2)
        have HBwb55_55 := Lib.hid (Go.Proofs.YtkinlkmmelkdnaaDoor.GoC.grown_new HBwb39_39.out Gb55_55.out (Go.Proofs.YtkinlkmmelkdnaaDoor.GoC.own_ge Ot_0.out))
        clear Sb55_55
        have kx_15_0__106 := cell_other kx_15_0__101 Gb55_55.out (Apart.symm Dx_15_t_0.out)
        have kx_15_1__107 := cell_other kx_15_1__102 Gb55_55.out (Apart.symm Dx_15_t_0.out)
        have kx_15_2__108 := cell_other kx_15_2__103 Gb55_55.out (Apart.symm Dx_15_t_0.out)
        have kx_15_3__109 := cell_other kx_15_3__104 Gb55_55.out (Apart.symm Dx_15_t_0.out)
        have kx_15_4__110 := cell_other kx_15_4__105 Gb55_55.out (Apart.symm Dx_15_t_0.out)
        replace Pb39_39 := Lib.hid (own_other Pb39_39.out Gb55_55.out (Apart.symm Dx_15_t_0.out))
        replace Ot_3 := Lib.hid (own_other Ot_3.out Gb55_55.out (Apart.symm Dt_3_t_0.out))
        replace Ot_6 := Lib.hid (own_other Ot_6.out Gb55_55.out (Apart.symm Dt_6_t_0.out))
        replace Ot_9 := Lib.hid (own_other Ot_9.out Gb55_55.out (Apart.symm Dt_9_t_0.out))
        replace Ot_12 := Lib.hid (own_other Ot_12.out Gb55_55.out (Apart.symm Dt_12_t_0.out))
        replace Ot_36 := Lib.hid (own_other Ot_36.out Gb55_55.out (Apart.symm Dt_36_t_0.out))
        replace Kt_37 := Lib.hid (Go.Proofs.YtkinlkmmelkdnaaDoor.GoC.cur_otherO Kt_37.out Gb55_55.out Dt_0_c0.out L0 Ot_0.out)
        clear Ot_0 Gb55_55
        have kt_0_0__111 : wb55_55.cell? ⟨w.heap.size, 0, none⟩ = some (.string name) := Pb55_55.out.cells rfl 0 _ rfl
        have kt_0_1__112 : wb55_55.cell? ⟨w.heap.size, 1, none⟩ = some (.int .i64 t_4) := Pb55_55.out.cells rfl 1 _ rfl
        have kt_0_2__113 : wb55_55.cell? ⟨w.heap.size, 2, none⟩ = some (.int .i64 t_37) := Pb55_55.out.cells rfl 2 _ rfl
        have kt_0_3__114 : wb55_55.cell? ⟨w.heap.size, 3, none⟩ = some (.int .i64 t_10) := Pb55_55.out.cells rfl 3 _ rfl
        have kt_0_4__115 : wb55_55.cell? ⟨w.heap.size, 4, none⟩ = some (.int .i64 t_13) := Pb55_55.out.cells rfl 4 _ rfl
        cases ret_hid H
        go_wp2_with fail
        (try simp only [Exit.inBlock, Exit.then])
        refine bodyPost_ret (v := .agg #[.string name, .int .i64 t_4, .int .i64 t_37, .int .i64 t_10, .int .i64 t_13]) ?hr_ ?hd_ ?_
        case hd_ => rfl
        case hr_ => simp [results, Tryd.results103, kt_0_0__111, kt_0_1__112, kt_0_2__113, kt_0_3__114, kt_0_4__115, go_sem]
        exact ⟨rfl, Kt_37.out, HBwb55_55.out⟩
    | true =>
      replace H := ite_t H
      replace H := let_hid H
      obtain ⟨t_29, ht_29, H⟩ := H
      obtain ⟨w_t_29, hw_t_29⟩ : ∃ x, wt_18.alloc (.cells #[.int .i64 (-1), .int .i64 360] 3) = x := ⟨_, rfl⟩
      have bw_t_29 : Below wt_18.heap.size wt_18 w_t_29 := by rw [← hw_t_29]; exact (Below.refl _ _).alloc (Nat.le_refl _) _
      have hs_t_29 := HBwt_18.out.size
      have nt_29 : t_29.length = 2 := by rw [← ht_29]; rfl
      have Ot_29 : Hid (w_t_29.ownsRow w.heap.size 3 1 (.slice (some ⟨wt_18.heap.size, 0, none⟩) 2 2) 2 (Go.Proofs.YtkinlkmmelkdnaaDoor.HelpInt.iv t_29)) := by
        rw [← hw_t_29, ← ht_29]
        have e_ : ([.int .i64 (-1), .int .i64 360] : List Value) = (Go.Proofs.YtkinlkmmelkdnaaDoor.HelpInt.iv ([(-1), 360] : List Int)) := rfl
        exact Lib.hid (own_laid (n := 2) hs_t_29 e_ rfl (by unfold maxLen; omega))
      clear hs_t_29
      have hht_29 := Lib.hid ht_29
      clear ht_29
      replace nt_29 := Lib.hid nt_29
      have Dt_29_t_3 := Lib.hid (apart_fresh Ot_3.out)
      have Dt_29_t_6 := Lib.hid (apart_fresh Ot_6.out)
      have Dt_29_t_9 := Lib.hid (apart_fresh Ot_9.out)
      have Dt_29_t_12 := Lib.hid (apart_fresh Ot_12.out)
      have Dt_29_c0 := Lib.hid (Go.Proofs.YtkinlkmmelkdnaaDoor.GoC.apart_cur Kt_18.out)
      have Dt_29_t_0 := Lib.hid (apart_box kt_0_0__21)
      have Dt_29_x_15 := Lib.hid (apart_box kx_15_0)
      have HBw_t_29 := Lib.hid (grown_below HBwt_18.out bw_t_29)
      have kt_0_0__116 := cell_below bw_t_29 kt_0_0__21
      have kt_0_1__117 := cell_below bw_t_29 kt_0_1__22
      have kt_0_2__118 := cell_below bw_t_29 kt_0_2__23
      have kt_0_3__119 := cell_below bw_t_29 kt_0_3__24
      have kt_0_4__120 := cell_below bw_t_29 kt_0_4__25
      have kx_15_0__121 := cell_below bw_t_29 kx_15_0
      have kx_15_1__122 := cell_below bw_t_29 kx_15_1
      have kx_15_2__123 := cell_below bw_t_29 kx_15_2
      have kx_15_3__124 := cell_below bw_t_29 kx_15_3
      have kx_15_4__125 := cell_below bw_t_29 kx_15_4
      replace Ot_3 := Lib.hid (own_below Ot_3.out bw_t_29)
      replace Ot_6 := Lib.hid (own_below Ot_6.out bw_t_29)
      replace Ot_9 := Lib.hid (own_below Ot_9.out bw_t_29)
      replace Ot_12 := Lib.hid (own_below Ot_12.out bw_t_29)
      replace Kt_18 := Lib.hid (Go.Proofs.YtkinlkmmelkdnaaDoor.GoC.cur_below Kt_18.out bw_t_29)
      replace Ot_0 := Lib.hid (own_below Ot_0.out bw_t_29)
      replace Ox_15 := Lib.hid (own_below Ox_15.out bw_t_29)
      clear bw_t_29
      replace H := bind2_hid H
      obtain ⟨t_30, t_30_tp, qt_30, H⟩ := H
      go_wp2_with fail
      clear kt_0_0__21 kt_0_1__22 kt_0_2__23 kt_0_3__24 kt_0_4__25 kx_15_0 kx_15_1 kx_15_2 kx_15_3 kx_15_4
      have hc_ := nt_29.out
      have hv_ : (Value.slice (some ⟨wt_18.heap.size, 0, none⟩) 2 2 : Value) = Value.slice (some ⟨wt_18.heap.size, 0, none⟩) t_29.length 2 := by rw [hc_]
      try rw [hv_]
      replace Ot_29 := Lib.hid (own_len hc_ Ot_29.out)
      clear hc_ hv_
      go_wp2_with fail
      go_at_call 46
      refine (Go.Proofs.YtkinlkmmelkdnaaDoor.GsL1CurAmong.C (t_18_tp) (t_29) (some ⟨wt_18.heap.size, 0, none⟩) 2 (g0) (Ac0) (cc0) (bc0) _   (Lib.hid (own_cells Ot_29.out)) (Lib.hid (own_max Ot_29.out)) Kt_18 (Lib.hid (fun _ => Dt_29_c0.out)) qt_30).mono ?_
      rintro e_t_30 wt_30 ⟨rfl, kt_30, gt_30⟩
      have Kt_30 := Lib.hid kt_30
      have Gt_30 : Hid (w_t_29.grownBy wt_30 (Value.slice (some ⟨g0, 0, none⟩) 1 1).ownBlock) := Lib.hid gt_30
      clear kt_30 gt_30
      have HBwt_30 := Lib.hid (Aid.grown_tr HBw_t_29.out Gt_30.out)
      replace kt_0_0__116 := cell_other kt_0_0__116 Gt_30.out (Apart.symm Dt_0_c0.out)
      replace kt_0_1__117 := cell_other kt_0_1__117 Gt_30.out (Apart.symm Dt_0_c0.out)
      replace kt_0_2__118 := cell_other kt_0_2__118 Gt_30.out (Apart.symm Dt_0_c0.out)
      replace kt_0_3__119 := cell_other kt_0_3__119 Gt_30.out (Apart.symm Dt_0_c0.out)
      replace kt_0_4__120 := cell_other kt_0_4__120 Gt_30.out (Apart.symm Dt_0_c0.out)
      replace kx_15_0__121 := cell_other kx_15_0__121 Gt_30.out (Apart.symm Dx_15_c0.out)
      replace kx_15_1__122 := cell_other kx_15_1__122 Gt_30.out (Apart.symm Dx_15_c0.out)
      replace kx_15_2__123 := cell_other kx_15_2__123 Gt_30.out (Apart.symm Dx_15_c0.out)
      replace kx_15_3__124 := cell_other kx_15_3__124 Gt_30.out (Apart.symm Dx_15_c0.out)
      replace kx_15_4__125 := cell_other kx_15_4__125 Gt_30.out (Apart.symm Dx_15_c0.out)
      replace Ot_0 := Lib.hid (own_other Ot_0.out Gt_30.out (Apart.symm Dt_0_c0.out))
      replace Ox_15 := Lib.hid (own_other Ox_15.out Gt_30.out (Apart.symm Dx_15_c0.out))
      replace Ot_3 := Lib.hid (own_other Ot_3.out Gt_30.out (Apart.symm Dt_3_c0.out))
      replace Ot_6 := Lib.hid (own_other Ot_6.out Gt_30.out (Apart.symm Dt_6_c0.out))
      replace Ot_9 := Lib.hid (own_other Ot_9.out Gt_30.out (Apart.symm Dt_9_c0.out))
      replace Ot_12 := Lib.hid (own_other Ot_12.out Gt_30.out (Apart.symm Dt_12_c0.out))
      replace Ot_29 := Lib.hid (own_other Ot_29.out Gt_30.out (Apart.symm Dt_29_c0.out))
      clear Kt_18 Gt_30
      obtain ⟨wb32_32, hwb32_32⟩ : ∃ x, (wt_30).setCell ⟨wt_13.heap.size, 1, none⟩ (.int .i64 t_30) = x := ⟨_, rfl⟩
      have z0b32_32 := Ox_15.out.frozenAt 1
      have Sb32_32 := Lib.hid (own_stores [(1, .int .i64 t_30)] Ox_15.out)
      have Pb32_32 : Hid (wb32_32.ownsRow w.heap.size 54 5 (.slice (some ⟨wt_13.heap.size, 0, none⟩) 1 1) 1 [.string name, .int .i64 t_30, .int .i64 t_7, .int .i64 t_10, .int .i64 t_13]) := Lib.hid (by rw [← hwb32_32]; exact Sb32_32.out.1)
      have Gb32_32 : Hid (wt_30.grownBy wb32_32 (Value.slice (some ⟨wt_13.heap.size, 0, none⟩) 1 1).ownBlock) := Lib.hid (by rw [← hwb32_32]; exact Sb32_32.out.2)
      have HBwb32_32 := Lib.hid (Go.Proofs.YtkinlkmmelkdnaaDoor.GoC.grown_new HBwt_30.out Gb32_32.out (Go.Proofs.YtkinlkmmelkdnaaDoor.GoC.own_ge Ox_15.out))
      clear Sb32_32
      have kt_0_0__126 := cell_other kt_0_0__116 Gb32_32.out Dx_15_t_0.out
      have kt_0_1__127 := cell_other kt_0_1__117 Gb32_32.out Dx_15_t_0.out
      have kt_0_2__128 := cell_other kt_0_2__118 Gb32_32.out Dx_15_t_0.out
      have kt_0_3__129 := cell_other kt_0_3__119 Gb32_32.out Dx_15_t_0.out
      have kt_0_4__130 := cell_other kt_0_4__120 Gb32_32.out Dx_15_t_0.out
      replace Ot_0 := Lib.hid (own_other Ot_0.out Gb32_32.out Dx_15_t_0.out)
      replace Ot_3 := Lib.hid (own_other Ot_3.out Gb32_32.out Dx_15_t_3.out)
      replace Ot_6 := Lib.hid (own_other Ot_6.out Gb32_32.out Dx_15_t_6.out)
      replace Ot_9 := Lib.hid (own_other Ot_9.out Gb32_32.out Dx_15_t_9.out)
      replace Ot_12 := Lib.hid (own_other Ot_12.out Gb32_32.out Dx_15_t_12.out)
      replace Ot_29 := Lib.hid (own_other Ot_29.out Gb32_32.out (Apart.symm Dt_29_x_15.out))
      replace Kt_30 := Lib.hid (Go.Proofs.YtkinlkmmelkdnaaDoor.GoC.cur_otherO Kt_30.out Gb32_32.out Dx_15_c0.out L0 Ox_15.out)
      clear Ox_15 Gb32_32
      have kx_15_0__131 : wb32_32.cell? ⟨wt_13.heap.size, 0, none⟩ = some (.string name) := Pb32_32.out.cells rfl 0 _ rfl
      have kx_15_1__132 : wb32_32.cell? ⟨wt_13.heap.size, 1, none⟩ = some (.int .i64 t_30) := Pb32_32.out.cells rfl 1 _ rfl
      have kx_15_2__133 : wb32_32.cell? ⟨wt_13.heap.size, 2, none⟩ = some (.int .i64 t_7) := Pb32_32.out.cells rfl 2 _ rfl
      have kx_15_3__134 : wb32_32.cell? ⟨wt_13.heap.size, 3, none⟩ = some (.int .i64 t_10) := Pb32_32.out.cells rfl 3 _ rfl
      have kx_15_4__135 : wb32_32.cell? ⟨wt_13.heap.size, 4, none⟩ = some (.int .i64 t_13) := Pb32_32.out.cells rfl 4 _ rfl
      obtain ⟨wb55_55, hwb55_55⟩ : ∃ x, (((((wb32_32).setCell ⟨w.heap.size, 0, none⟩ (.string name)).setCell ⟨w.heap.size, 1, none⟩ (.int .i64 t_30)).setCell ⟨w.heap.size, 2, none⟩ (.int .i64 t_7)).setCell ⟨w.heap.size, 3, none⟩ (.int .i64 t_10)).setCell ⟨w.heap.size, 4, none⟩ (.int .i64 t_13) = x := ⟨_, rfl⟩
      have z0b55_55 := Ot_0.out.frozenAt 0
      have z1b55_55 := Ot_0.out.frozenAt 1
      have z2b55_55 := Ot_0.out.frozenAt 2
      have z3b55_55 := Ot_0.out.frozenAt 3
      have z4b55_55 := Ot_0.out.frozenAt 4
      have Sb55_55 := Lib.hid (own_stores [(0, .string name), (1, .int .i64 t_30), (2, .int .i64 t_7), (3, .int .i64 t_10), (4, .int .i64 t_13)] Ot_0.out)
      have Pb55_55 : Hid (wb55_55.ownsRow w.heap.size 54 5 (.slice (some ⟨w.heap.size, 0, none⟩) 1 1) 1 [.string name, .int .i64 t_30, .int .i64 t_7, .int .i64 t_10, .int .i64 t_13]) := Lib.hid (by rw [← hwb55_55]; exact Sb55_55.out.1)
      have Gb55_55 : Hid (wb32_32.grownBy wb55_55 (Value.slice (some ⟨w.heap.size, 0, none⟩) 1 1).ownBlock) := Lib.hid (by rw [← hwb55_55]; exact Sb55_55.out.2)
      have HBwb55_55 := Lib.hid (Go.Proofs.YtkinlkmmelkdnaaDoor.GoC.grown_new HBwb32_32.out Gb55_55.out (Go.Proofs.YtkinlkmmelkdnaaDoor.GoC.own_ge Ot_0.out))
      clear Sb55_55
      have kx_15_0__136 := cell_other kx_15_0__131 Gb55_55.out (Apart.symm Dx_15_t_0.out)
      have kx_15_1__137 := cell_other kx_15_1__132 Gb55_55.out (Apart.symm Dx_15_t_0.out)
      have kx_15_2__138 := cell_other kx_15_2__133 Gb55_55.out (Apart.symm Dx_15_t_0.out)
      have kx_15_3__139 := cell_other kx_15_3__134 Gb55_55.out (Apart.symm Dx_15_t_0.out)
      have kx_15_4__140 := cell_other kx_15_4__135 Gb55_55.out (Apart.symm Dx_15_t_0.out)
      replace Pb32_32 := Lib.hid (own_other Pb32_32.out Gb55_55.out (Apart.symm Dx_15_t_0.out))
      replace Ot_3 := Lib.hid (own_other Ot_3.out Gb55_55.out (Apart.symm Dt_3_t_0.out))
      replace Ot_6 := Lib.hid (own_other Ot_6.out Gb55_55.out (Apart.symm Dt_6_t_0.out))
      replace Ot_9 := Lib.hid (own_other Ot_9.out Gb55_55.out (Apart.symm Dt_9_t_0.out))
      replace Ot_12 := Lib.hid (own_other Ot_12.out Gb55_55.out (Apart.symm Dt_12_t_0.out))
      replace Ot_29 := Lib.hid (own_other Ot_29.out Gb55_55.out (Apart.symm Dt_29_t_0.out))
      replace Kt_30 := Lib.hid (Go.Proofs.YtkinlkmmelkdnaaDoor.GoC.cur_otherO Kt_30.out Gb55_55.out Dt_0_c0.out L0 Ot_0.out)
      clear Ot_0 Gb55_55
      have kt_0_0__141 : wb55_55.cell? ⟨w.heap.size, 0, none⟩ = some (.string name) := Pb55_55.out.cells rfl 0 _ rfl
      have kt_0_1__142 : wb55_55.cell? ⟨w.heap.size, 1, none⟩ = some (.int .i64 t_30) := Pb55_55.out.cells rfl 1 _ rfl
      have kt_0_2__143 : wb55_55.cell? ⟨w.heap.size, 2, none⟩ = some (.int .i64 t_7) := Pb55_55.out.cells rfl 2 _ rfl
      have kt_0_3__144 : wb55_55.cell? ⟨w.heap.size, 3, none⟩ = some (.int .i64 t_10) := Pb55_55.out.cells rfl 3 _ rfl
      have kt_0_4__145 : wb55_55.cell? ⟨w.heap.size, 4, none⟩ = some (.int .i64 t_13) := Pb55_55.out.cells rfl 4 _ rfl
      cases ret_hid H
      go_wp2_with fail
      (try simp only [Exit.inBlock, Exit.then])
      refine bodyPost_ret (v := .agg #[.string name, .int .i64 t_30, .int .i64 t_7, .int .i64 t_10, .int .i64 t_13]) ?hr_ ?hd_ ?_
      case hd_ => rfl
      case hr_ => simp [results, Tryd.results103, kt_0_0__141, kt_0_1__142, kt_0_2__143, kt_0_3__144, kt_0_4__145, go_sem]
      exact ⟨rfl, Kt_30.out, HBwb55_55.out⟩
  | true =>
    replace H := ite_t H
    replace H := let_hid H
    obtain ⟨t_22, ht_22, H⟩ := H
    obtain ⟨w_t_22, hw_t_22⟩ : ∃ x, wt_18.alloc (.cells #[.string (⟨#[]⟩ : ByteArray), .string (⟨#[82, 101, 100]⟩ : ByteArray), .string (⟨#[97, 98, 99, 100, 101, 102, 103, 104, 105, 106, 107]⟩ : ByteArray)] 9) = x := ⟨_, rfl⟩
    have bw_t_22 : Below wt_18.heap.size wt_18 w_t_22 := by rw [← hw_t_22]; exact (Below.refl _ _).alloc (Nat.le_refl _) _
    have hs_t_22 := HBwt_18.out.size
    have nt_22 : t_22.length = 3 := by rw [← ht_22]; rfl
    have Ot_22 : Hid (w_t_22.ownsRow w.heap.size 9 1 (.slice (some ⟨wt_18.heap.size, 0, none⟩) 3 3) 3 (t_22.map Value.string)) := by
      rw [← hw_t_22, ← ht_22]
      have e_ : ([.string (⟨#[]⟩ : ByteArray), .string (⟨#[82, 101, 100]⟩ : ByteArray), .string (⟨#[97, 98, 99, 100, 101, 102, 103, 104, 105, 106, 107]⟩ : ByteArray)] : List Value) = (([(⟨#[]⟩ : ByteArray), (⟨#[82, 101, 100]⟩ : ByteArray), (⟨#[97, 98, 99, 100, 101, 102, 103, 104, 105, 106, 107]⟩ : ByteArray)] : List ByteArray).map Value.string) := rfl
      exact Lib.hid (own_laid (n := 3) hs_t_22 e_ rfl (by unfold maxLen; omega))
    clear hs_t_22
    have hht_22 := Lib.hid ht_22
    clear ht_22
    replace nt_22 := Lib.hid nt_22
    have Dt_22_t_3 := Lib.hid (apart_fresh Ot_3.out)
    have Dt_22_t_6 := Lib.hid (apart_fresh Ot_6.out)
    have Dt_22_t_9 := Lib.hid (apart_fresh Ot_9.out)
    have Dt_22_t_12 := Lib.hid (apart_fresh Ot_12.out)
    have Dt_22_c0 := Lib.hid (Go.Proofs.YtkinlkmmelkdnaaDoor.GoC.apart_cur Kt_18.out)
    have Dt_22_t_0 := Lib.hid (apart_box kt_0_0__21)
    have Dt_22_x_15 := Lib.hid (apart_box kx_15_0)
    have HBw_t_22 := Lib.hid (grown_below HBwt_18.out bw_t_22)
    have kt_0_0__146 := cell_below bw_t_22 kt_0_0__21
    have kt_0_1__147 := cell_below bw_t_22 kt_0_1__22
    have kt_0_2__148 := cell_below bw_t_22 kt_0_2__23
    have kt_0_3__149 := cell_below bw_t_22 kt_0_3__24
    have kt_0_4__150 := cell_below bw_t_22 kt_0_4__25
    have kx_15_0__151 := cell_below bw_t_22 kx_15_0
    have kx_15_1__152 := cell_below bw_t_22 kx_15_1
    have kx_15_2__153 := cell_below bw_t_22 kx_15_2
    have kx_15_3__154 := cell_below bw_t_22 kx_15_3
    have kx_15_4__155 := cell_below bw_t_22 kx_15_4
    replace Ot_3 := Lib.hid (own_below Ot_3.out bw_t_22)
    replace Ot_6 := Lib.hid (own_below Ot_6.out bw_t_22)
    replace Ot_9 := Lib.hid (own_below Ot_9.out bw_t_22)
    replace Ot_12 := Lib.hid (own_below Ot_12.out bw_t_22)
    replace Kt_18 := Lib.hid (Go.Proofs.YtkinlkmmelkdnaaDoor.GoC.cur_below Kt_18.out bw_t_22)
    replace Ot_0 := Lib.hid (own_below Ot_0.out bw_t_22)
    replace Ox_15 := Lib.hid (own_below Ox_15.out bw_t_22)
    clear bw_t_22
    replace H := bind2_hid H
    obtain ⟨t_23, t_23_tp, qt_23, H⟩ := H
    go_wp2_with fail
    clear kt_0_0__21 kt_0_1__22 kt_0_2__23 kt_0_3__24 kt_0_4__25 kx_15_0 kx_15_1 kx_15_2 kx_15_3 kx_15_4
    have hc_ := nt_22.out
    have hv_ : (Value.slice (some ⟨wt_18.heap.size, 0, none⟩) 3 3 : Value) = Value.slice (some ⟨wt_18.heap.size, 0, none⟩) t_22.length 3 := by rw [hc_]
    try rw [hv_]
    replace Ot_22 := Lib.hid (own_len hc_ Ot_22.out)
    clear hc_ hv_
    go_wp2_with fail
    go_at_call 71
    refine (Go.Proofs.YtkinlkmmelkdnaaDoor.GsL1CurOf.C (t_18_tp) (t_22) (some ⟨wt_18.heap.size, 0, none⟩) 3 (g0) (Ac0) (cc0) (bc0) _   (Lib.hid (own_cells Ot_22.out)) (Lib.hid (own_max Ot_22.out)) Kt_18 (Lib.hid (fun _ => Dt_22_c0.out)) qt_23).mono ?_
    rintro e_t_23 wt_23 ⟨rfl, kt_23, gt_23⟩
    have Kt_23 := Lib.hid kt_23
    have Gt_23 : Hid (w_t_22.grownBy wt_23 (Value.slice (some ⟨g0, 0, none⟩) 1 1).ownBlock) := Lib.hid gt_23
    clear kt_23 gt_23
    have HBwt_23 := Lib.hid (Aid.grown_tr HBw_t_22.out Gt_23.out)
    replace kt_0_0__146 := cell_other kt_0_0__146 Gt_23.out (Apart.symm Dt_0_c0.out)
    replace kt_0_1__147 := cell_other kt_0_1__147 Gt_23.out (Apart.symm Dt_0_c0.out)
    replace kt_0_2__148 := cell_other kt_0_2__148 Gt_23.out (Apart.symm Dt_0_c0.out)
    replace kt_0_3__149 := cell_other kt_0_3__149 Gt_23.out (Apart.symm Dt_0_c0.out)
    replace kt_0_4__150 := cell_other kt_0_4__150 Gt_23.out (Apart.symm Dt_0_c0.out)
    replace kx_15_0__151 := cell_other kx_15_0__151 Gt_23.out (Apart.symm Dx_15_c0.out)
    replace kx_15_1__152 := cell_other kx_15_1__152 Gt_23.out (Apart.symm Dx_15_c0.out)
    replace kx_15_2__153 := cell_other kx_15_2__153 Gt_23.out (Apart.symm Dx_15_c0.out)
    replace kx_15_3__154 := cell_other kx_15_3__154 Gt_23.out (Apart.symm Dx_15_c0.out)
    replace kx_15_4__155 := cell_other kx_15_4__155 Gt_23.out (Apart.symm Dx_15_c0.out)
    replace Ot_0 := Lib.hid (own_other Ot_0.out Gt_23.out (Apart.symm Dt_0_c0.out))
    replace Ox_15 := Lib.hid (own_other Ox_15.out Gt_23.out (Apart.symm Dx_15_c0.out))
    replace Ot_3 := Lib.hid (own_other Ot_3.out Gt_23.out (Apart.symm Dt_3_c0.out))
    replace Ot_6 := Lib.hid (own_other Ot_6.out Gt_23.out (Apart.symm Dt_6_c0.out))
    replace Ot_9 := Lib.hid (own_other Ot_9.out Gt_23.out (Apart.symm Dt_9_c0.out))
    replace Ot_12 := Lib.hid (own_other Ot_12.out Gt_23.out (Apart.symm Dt_12_c0.out))
    replace Ot_22 := Lib.hid (own_other Ot_22.out Gt_23.out (Apart.symm Dt_22_c0.out))
    clear Kt_18 Gt_23
    obtain ⟨wb25_25, hwb25_25⟩ : ∃ x, (wt_23).setCell ⟨wt_13.heap.size, 0, none⟩ (.string t_23) = x := ⟨_, rfl⟩
    have z0b25_25 := Ox_15.out.frozenAt 0
    have Sb25_25 := Lib.hid (own_stores [(0, .string t_23)] Ox_15.out)
    have Pb25_25 : Hid (wb25_25.ownsRow w.heap.size 54 5 (.slice (some ⟨wt_13.heap.size, 0, none⟩) 1 1) 1 [.string t_23, .int .i64 t_4, .int .i64 t_7, .int .i64 t_10, .int .i64 t_13]) := Lib.hid (by rw [← hwb25_25]; exact Sb25_25.out.1)
    have Gb25_25 : Hid (wt_23.grownBy wb25_25 (Value.slice (some ⟨wt_13.heap.size, 0, none⟩) 1 1).ownBlock) := Lib.hid (by rw [← hwb25_25]; exact Sb25_25.out.2)
    have HBwb25_25 := Lib.hid (Go.Proofs.YtkinlkmmelkdnaaDoor.GoC.grown_new HBwt_23.out Gb25_25.out (Go.Proofs.YtkinlkmmelkdnaaDoor.GoC.own_ge Ox_15.out))
    clear Sb25_25
    have kt_0_0__156 := cell_other kt_0_0__146 Gb25_25.out Dx_15_t_0.out
    have kt_0_1__157 := cell_other kt_0_1__147 Gb25_25.out Dx_15_t_0.out
    have kt_0_2__158 := cell_other kt_0_2__148 Gb25_25.out Dx_15_t_0.out
    have kt_0_3__159 := cell_other kt_0_3__149 Gb25_25.out Dx_15_t_0.out
    have kt_0_4__160 := cell_other kt_0_4__150 Gb25_25.out Dx_15_t_0.out
    replace Ot_0 := Lib.hid (own_other Ot_0.out Gb25_25.out Dx_15_t_0.out)
    replace Ot_3 := Lib.hid (own_other Ot_3.out Gb25_25.out Dx_15_t_3.out)
    replace Ot_6 := Lib.hid (own_other Ot_6.out Gb25_25.out Dx_15_t_6.out)
    replace Ot_9 := Lib.hid (own_other Ot_9.out Gb25_25.out Dx_15_t_9.out)
    replace Ot_12 := Lib.hid (own_other Ot_12.out Gb25_25.out Dx_15_t_12.out)
    replace Ot_22 := Lib.hid (own_other Ot_22.out Gb25_25.out (Apart.symm Dt_22_x_15.out))
    replace Kt_23 := Lib.hid (Go.Proofs.YtkinlkmmelkdnaaDoor.GoC.cur_otherO Kt_23.out Gb25_25.out Dx_15_c0.out L0 Ox_15.out)
    clear Ox_15 Gb25_25
    have kx_15_0__161 : wb25_25.cell? ⟨wt_13.heap.size, 0, none⟩ = some (.string t_23) := Pb25_25.out.cells rfl 0 _ rfl
    have kx_15_1__162 : wb25_25.cell? ⟨wt_13.heap.size, 1, none⟩ = some (.int .i64 t_4) := Pb25_25.out.cells rfl 1 _ rfl
    have kx_15_2__163 : wb25_25.cell? ⟨wt_13.heap.size, 2, none⟩ = some (.int .i64 t_7) := Pb25_25.out.cells rfl 2 _ rfl
    have kx_15_3__164 : wb25_25.cell? ⟨wt_13.heap.size, 3, none⟩ = some (.int .i64 t_10) := Pb25_25.out.cells rfl 3 _ rfl
    have kx_15_4__165 : wb25_25.cell? ⟨wt_13.heap.size, 4, none⟩ = some (.int .i64 t_13) := Pb25_25.out.cells rfl 4 _ rfl
    obtain ⟨wb55_55, hwb55_55⟩ : ∃ x, (((((wb25_25).setCell ⟨w.heap.size, 0, none⟩ (.string t_23)).setCell ⟨w.heap.size, 1, none⟩ (.int .i64 t_4)).setCell ⟨w.heap.size, 2, none⟩ (.int .i64 t_7)).setCell ⟨w.heap.size, 3, none⟩ (.int .i64 t_10)).setCell ⟨w.heap.size, 4, none⟩ (.int .i64 t_13) = x := ⟨_, rfl⟩
    have z0b55_55 := Ot_0.out.frozenAt 0
    have z1b55_55 := Ot_0.out.frozenAt 1
    have z2b55_55 := Ot_0.out.frozenAt 2
    have z3b55_55 := Ot_0.out.frozenAt 3
    have z4b55_55 := Ot_0.out.frozenAt 4
    have Sb55_55 := Lib.hid (own_stores [(0, .string t_23), (1, .int .i64 t_4), (2, .int .i64 t_7), (3, .int .i64 t_10), (4, .int .i64 t_13)] Ot_0.out)
    have Pb55_55 : Hid (wb55_55.ownsRow w.heap.size 54 5 (.slice (some ⟨w.heap.size, 0, none⟩) 1 1) 1 [.string t_23, .int .i64 t_4, .int .i64 t_7, .int .i64 t_10, .int .i64 t_13]) := Lib.hid (by rw [← hwb55_55]; exact Sb55_55.out.1)
    have Gb55_55 : Hid (wb25_25.grownBy wb55_55 (Value.slice (some ⟨w.heap.size, 0, none⟩) 1 1).ownBlock) := Lib.hid (by rw [← hwb55_55]; exact Sb55_55.out.2)
    have HBwb55_55 := Lib.hid (Go.Proofs.YtkinlkmmelkdnaaDoor.GoC.grown_new HBwb25_25.out Gb55_55.out (Go.Proofs.YtkinlkmmelkdnaaDoor.GoC.own_ge Ot_0.out))
    clear Sb55_55
    have kx_15_0__166 := cell_other kx_15_0__161 Gb55_55.out (Apart.symm Dx_15_t_0.out)
    have kx_15_1__167 := cell_other kx_15_1__162 Gb55_55.out (Apart.symm Dx_15_t_0.out)
    have kx_15_2__168 := cell_other kx_15_2__163 Gb55_55.out (Apart.symm Dx_15_t_0.out)
    have kx_15_3__169 := cell_other kx_15_3__164 Gb55_55.out (Apart.symm Dx_15_t_0.out)
    have kx_15_4__170 := cell_other kx_15_4__165 Gb55_55.out (Apart.symm Dx_15_t_0.out)
    replace Pb25_25 := Lib.hid (own_other Pb25_25.out Gb55_55.out (Apart.symm Dx_15_t_0.out))
    replace Ot_3 := Lib.hid (own_other Ot_3.out Gb55_55.out (Apart.symm Dt_3_t_0.out))
    replace Ot_6 := Lib.hid (own_other Ot_6.out Gb55_55.out (Apart.symm Dt_6_t_0.out))
    replace Ot_9 := Lib.hid (own_other Ot_9.out Gb55_55.out (Apart.symm Dt_9_t_0.out))
    replace Ot_12 := Lib.hid (own_other Ot_12.out Gb55_55.out (Apart.symm Dt_12_t_0.out))
    replace Ot_22 := Lib.hid (own_other Ot_22.out Gb55_55.out (Apart.symm Dt_22_t_0.out))
    replace Kt_23 := Lib.hid (Go.Proofs.YtkinlkmmelkdnaaDoor.GoC.cur_otherO Kt_23.out Gb55_55.out Dt_0_c0.out L0 Ot_0.out)
    clear Ot_0 Gb55_55
    have kt_0_0__171 : wb55_55.cell? ⟨w.heap.size, 0, none⟩ = some (.string t_23) := Pb55_55.out.cells rfl 0 _ rfl
    have kt_0_1__172 : wb55_55.cell? ⟨w.heap.size, 1, none⟩ = some (.int .i64 t_4) := Pb55_55.out.cells rfl 1 _ rfl
    have kt_0_2__173 : wb55_55.cell? ⟨w.heap.size, 2, none⟩ = some (.int .i64 t_7) := Pb55_55.out.cells rfl 2 _ rfl
    have kt_0_3__174 : wb55_55.cell? ⟨w.heap.size, 3, none⟩ = some (.int .i64 t_10) := Pb55_55.out.cells rfl 3 _ rfl
    have kt_0_4__175 : wb55_55.cell? ⟨w.heap.size, 4, none⟩ = some (.int .i64 t_13) := Pb55_55.out.cells rfl 4 _ rfl
    cases ret_hid H
    go_wp2_with fail
    (try simp only [Exit.inBlock, Exit.then])
    refine bodyPost_ret (v := .agg #[.string t_23, .int .i64 t_4, .int .i64 t_7, .int .i64 t_10, .int .i64 t_13]) ?hr_ ?hd_ ?_
    case hd_ => rfl
    case hr_ => simp [results, Tryd.results103, kt_0_0__171, kt_0_1__172, kt_0_2__173, kt_0_3__174, kt_0_4__175, go_sem]
    exact ⟨rfl, Kt_23.out, HBwb55_55.out⟩
end Go.Proofs.YtkinlkmmelkdnaaDoor.GsL1CurShade7

/- (*loop.example/g01062/spec.l1Cur).shades7 as a plain function, and the contract of the program's: where the plain one has an answer, the program has it. Conditions: slices read as lists. -/
namespace Go.Proofs.YtkinlkmmelkdnaaDoor.GsL1CurShades7
set_option linter.unusedVariables false
set_option linter.unusedSimpArgs false
open Go.RowKit
open Go.Proofs.YtkinlkmmelkdnaaDoor.Rowed Go.Proofs.YtkinlkmmelkdnaaDoor.Turn Go.Proofs.YtkinlkmmelkdnaaDoor.Aid Go.Proofs.YtkinlkmmelkdnaaDoor.GoP Go.Proofs.YtkinlkmmelkdnaaDoor.GoM

def l0 (t_3 : (List ByteArray)) (k0 : Nat) (s : (List Go.Proofs.YtkinlkmmelkdnaaDoor.PShade.Shade) × Go.Proofs.YtkinlkmmelkdnaaDoor.GoC.Tape) (nx0 bk0 : (List Go.Proofs.YtkinlkmmelkdnaaDoor.PShade.Shade) × Go.Proofs.YtkinlkmmelkdnaaDoor.GoC.Tape → Option ((List Go.Proofs.YtkinlkmmelkdnaaDoor.PShade.Shade) × Go.Proofs.YtkinlkmmelkdnaaDoor.GoC.Tape)) : Option ((List Go.Proofs.YtkinlkmmelkdnaaDoor.PShade.Shade) × Go.Proofs.YtkinlkmmelkdnaaDoor.GoC.Tape) :=
  unp2 s fun out_3l0 c0_c0l0 =>
  bind2 (Go.Proofs.YtkinlkmmelkdnaaDoor.GsL1CurOne.P c0_c0l0 2) fun (t_11 : Bool) (t_11_tp : Go.Proofs.YtkinlkmmelkdnaaDoor.GoC.Tape) =>
  iteK t_11
  (Option.bind (idx t_3 (k0 : Int)) fun (yt_16 : ByteArray) =>
  bind2 (Go.Proofs.YtkinlkmmelkdnaaDoor.GsL1CurShade7.P t_11_tp yt_16) fun (t_18 : Go.Proofs.YtkinlkmmelkdnaaDoor.PShade.Shade) (t_18_tp : Go.Proofs.YtkinlkmmelkdnaaDoor.GoC.Tape) =>
  unShade t_18 fun (t_18_name : ByteArray) (t_18_hue : Int) (t_18_width : Int) (t_18_dark : Int) (t_18_light : Int) =>
  guardK (out_3l0.length ≤ 1099511627776) <|
  letK (out_3l0 ++ [(Go.Proofs.YtkinlkmmelkdnaaDoor.PShade.Shade.mk t_18_name t_18_hue t_18_width t_18_dark t_18_light)]) fun (t_20 : (List Go.Proofs.YtkinlkmmelkdnaaDoor.PShade.Shade)) =>
  appK nx0 (t_20, t_18_tp))
  (appK nx0 (out_3l0, t_11_tp))

def l1  (s : (List Go.Proofs.YtkinlkmmelkdnaaDoor.PShade.Shade) × Int × Go.Proofs.YtkinlkmmelkdnaaDoor.GoC.Tape) (nx1 bk1 : (List Go.Proofs.YtkinlkmmelkdnaaDoor.PShade.Shade) × Int × Go.Proofs.YtkinlkmmelkdnaaDoor.GoC.Tape → Option ((List Go.Proofs.YtkinlkmmelkdnaaDoor.PShade.Shade) × Go.Proofs.YtkinlkmmelkdnaaDoor.GoC.Tape)) : Option ((List Go.Proofs.YtkinlkmmelkdnaaDoor.PShade.Shade) × Go.Proofs.YtkinlkmmelkdnaaDoor.GoC.Tape) :=
  unp3 s fun out_3l1 n_6l1 c0_c0l1 =>
  bind2 (Go.Proofs.YtkinlkmmelkdnaaDoor.GsL1CurPick.P c0_c0l1 2) fun (t_34 : Int) (t_34_tp : Go.Proofs.YtkinlkmmelkdnaaDoor.GoC.Tape) =>
  letK (IntKind.i64.wrap (12 + t_34)) fun (t_35 : Int) =>
  letK (decide (n_6l1 < t_35)) fun (t_36 : Bool) =>
  iteK t_36
  (letK (IntKind.i64.wrap (n_6l1 + 1)) fun (t_40 : Int) =>
  guardK ((0 : Int) ≤ n_6l1 ∧ (n_6l1 : Int) ≤ t_40 ∧ (t_40 : Int) ≤ ((⟨#[97, 98, 99, 100, 101, 102, 103, 104, 105, 106, 107, 108, 109]⟩ : ByteArray).size : Int)) <|
  letK (ByteArray.extract (⟨#[97, 98, 99, 100, 101, 102, 103, 104, 105, 106, 107, 108, 109]⟩ : ByteArray) (Int.toNat n_6l1) (Int.toNat t_40)) fun (t_41 : ByteArray) =>
  letK (Int.tmod n_6l1 12) fun (t_43 : Int) =>
  letK (IntKind.i64.wrap (30 * t_43)) fun (t_44 : Int) =>
  guardK (out_3l1.length ≤ 1099511627776) <|
  letK (out_3l1 ++ [(Go.Proofs.YtkinlkmmelkdnaaDoor.PShade.Shade.mk t_41 t_44 10 0 60)]) fun (t_47 : (List Go.Proofs.YtkinlkmmelkdnaaDoor.PShade.Shade)) =>
  letK (IntKind.i64.wrap (n_6l1 + 1)) fun (t_50 : Int) =>
  appK nx1 (t_47, t_50, t_34_tp))
  (appK bk1 (out_3l1, n_6l1, t_34_tp))

def e1  (s : (List Go.Proofs.YtkinlkmmelkdnaaDoor.PShade.Shade) × Int × Go.Proofs.YtkinlkmmelkdnaaDoor.GoC.Tape) : Option ((List Go.Proofs.YtkinlkmmelkdnaaDoor.PShade.Shade) × Go.Proofs.YtkinlkmmelkdnaaDoor.GoC.Tape) :=
  unp3 s fun out_3l1 n_6l1 c0_c0l1 =>
  some (out_3l1, c0_c0l1)

def e0 (fuel : Nat) (s : (List Go.Proofs.YtkinlkmmelkdnaaDoor.PShade.Shade) × Go.Proofs.YtkinlkmmelkdnaaDoor.GoC.Tape) : Option ((List Go.Proofs.YtkinlkmmelkdnaaDoor.PShade.Shade) × Go.Proofs.YtkinlkmmelkdnaaDoor.GoC.Tape) :=
  unp2 s fun out_3l0 c0_c0l0 =>
  bind2 (Go.Proofs.YtkinlkmmelkdnaaDoor.GsL1CurPick.P c0_c0l0 40) fun (t_26 : Int) (t_26_tp : Go.Proofs.YtkinlkmmelkdnaaDoor.GoC.Tape) =>
  letK (t_26 == 0) fun (t_27 : Bool) =>
  iteK t_27
  (loopK (l1 ) fuel (([] : List Go.Proofs.YtkinlkmmelkdnaaDoor.PShade.Shade), 0, t_26_tp) (e1 ))
  (letK (t_26 == 1) fun (t_52 : Bool) =>
  iteK t_52
  (letK (decide (1 < (out_3l0.length : Int))) fun (t_56 : Bool) =>
  iteK t_56
  (guardK ((0 : Int) ≤ 1 ∧ (1 : Int) ≤ (out_3l0.length : Int)) <|
  letK (List.drop (Int.toNat 1) out_3l0) fun (t_59 : (List Go.Proofs.YtkinlkmmelkdnaaDoor.PShade.Shade)) =>
  guardK (([] : List Go.Proofs.YtkinlkmmelkdnaaDoor.PShade.Shade).length + t_59.length ≤ 1099511627776) <|
  letK (([] : List Go.Proofs.YtkinlkmmelkdnaaDoor.PShade.Shade) ++ t_59) fun (t_60 : (List Go.Proofs.YtkinlkmmelkdnaaDoor.PShade.Shade)) =>
  Option.bind (idx out_3l0 0) fun (yt_62 : Go.Proofs.YtkinlkmmelkdnaaDoor.PShade.Shade) =>
  unShade yt_62 fun (t_62_name : ByteArray) (t_62_hue : Int) (t_62_width : Int) (t_62_dark : Int) (t_62_light : Int) =>
  guardK (t_60.length ≤ 1099511627776) <|
  letK (t_60 ++ [(Go.Proofs.YtkinlkmmelkdnaaDoor.PShade.Shade.mk t_62_name t_62_hue t_62_width t_62_dark t_62_light)]) fun (t_65 : (List Go.Proofs.YtkinlkmmelkdnaaDoor.PShade.Shade)) =>
  some (t_65, t_26_tp))
  (some (out_3l0, t_26_tp)))
  (some (out_3l0, t_26_tp)))

def P (fuel : Nat) (c : Go.Proofs.YtkinlkmmelkdnaaDoor.GoC.Tape) : Option ((List Go.Proofs.YtkinlkmmelkdnaaDoor.PShade.Shade) × Go.Proofs.YtkinlkmmelkdnaaDoor.GoC.Tape) :=
  letK ([(⟨#[98, 114, 105, 99, 107]⟩ : ByteArray), (⟨#[108, 97, 107, 101]⟩ : ByteArray), (⟨#[108, 105, 108, 97, 99]⟩ : ByteArray), (⟨#[111, 114, 97, 110, 103, 101]⟩ : ByteArray), (⟨#[114, 101, 100]⟩ : ByteArray), (⟨#[114, 111, 115, 101]⟩ : ByteArray)]) fun (t_3 : (List ByteArray)) =>
  cntK (l0 t_3) (t_3.length) 0 (([] : List Go.Proofs.YtkinlkmmelkdnaaDoor.PShade.Shade), c) (e0 fuel)

set_option maxRecDepth 100000 in
set_option maxHeartbeats 2000000 in
theorem C (fuel : Nat) (c : Go.Proofs.YtkinlkmmelkdnaaDoor.GoC.Tape)   (g0 : Nat) (Ac0 : Option Addr) (cc0 : Nat) (bc0 : Nat) (w : World)   (K0 : Hid (Go.Proofs.YtkinlkmmelkdnaaDoor.GoC.CurIs w bc0 g0 Ac0 cc0 c)) {r : (List Go.Proofs.YtkinlkmmelkdnaaDoor.PShade.Shade)} {t_ : Go.Proofs.YtkinlkmmelkdnaaDoor.GoC.Tape} (H : Hid (P fuel c = some (r, t_))) :
    Calls Tryd.prog 70 #[.pointer (some ⟨g0, 0, none⟩)] w (fun e w' => ∃ A_r c_r, e = .returned (.slice A_r r.length c_r) ∧ w'.ownsRow w.heap.size 54 5 (.slice A_r r.length c_r) r.length (Go.Proofs.YtkinlkmmelkdnaaDoor.PShade.flat r) ∧ Go.Proofs.YtkinlkmmelkdnaaDoor.GoC.CurIs w' bc0 g0 Ac0 cc0 t_ ∧ w.grownBy w' (Value.slice (some ⟨g0, 0, none⟩) 1 1).ownBlock) := by
  have HB := Lib.hid (Aid.grown_refl w (Value.slice (some ⟨g0, 0, none⟩) 1 1).ownBlock)
  unfold P at H
  have L0 : bc0 ≤ w.heap.size := by have := Go.Proofs.YtkinlkmmelkdnaaDoor.GoC.cur_lt K0.out; omega
  obtain ⟨i0_54, hi_54, hz0_54, hz1_54, hz2_54⟩ := Aid.info_parts (P := Tryd.prog) (T := 54) (z := .agg #[.string ByteArray.empty, .int .i64 0, .int .i64 0, .int .i64 0, .int .i64 0]) (s := 5) (b := 48) (by kernel_rfl)
  go_enter Tryd.func70, Tryd.ntmps70
  obtain ⟨w_t_1, hw_t_1⟩ : ∃ x, w.alloc (.cells #[] 54) = x := ⟨_, rfl⟩
  have bw_t_1 : Below w.heap.size w w_t_1 := by rw [← hw_t_1]; exact (Below.refl _ _).alloc (Nat.le_refl _) _
  have Ot_1 : Hid (w_t_1.ownsRow w.heap.size 54 5 (.slice (some ⟨w.heap.size, 0, none⟩) 0 0) 0 []) := Lib.hid (by rw [← hw_t_1]; exact own_empty HB.out.size)
  have Dt_1_c0 := Lib.hid (Go.Proofs.YtkinlkmmelkdnaaDoor.GoC.apart_cur K0.out)
  have HBw_t_1 := Lib.hid (grown_below HB.out bw_t_1)
  replace K0 := Lib.hid (Go.Proofs.YtkinlkmmelkdnaaDoor.GoC.cur_below K0.out bw_t_1)
  clear bw_t_1
  replace H := let_hid H
  obtain ⟨t_3, ht_3, H⟩ := H
  obtain ⟨w_t_3, hw_t_3⟩ : ∃ x, w_t_1.alloc (.cells #[.string (⟨#[98, 114, 105, 99, 107]⟩ : ByteArray), .string (⟨#[108, 97, 107, 101]⟩ : ByteArray), .string (⟨#[108, 105, 108, 97, 99]⟩ : ByteArray), .string (⟨#[111, 114, 97, 110, 103, 101]⟩ : ByteArray), .string (⟨#[114, 101, 100]⟩ : ByteArray), .string (⟨#[114, 111, 115, 101]⟩ : ByteArray)] 9) = x := ⟨_, rfl⟩
  have bw_t_3 : Below w_t_1.heap.size w_t_1 w_t_3 := by rw [← hw_t_3]; exact (Below.refl _ _).alloc (Nat.le_refl _) _
  have hs_t_3 := HBw_t_1.out.size
  have nt_3 : t_3.length = 6 := by rw [← ht_3]; rfl
  have Ot_3 : Hid (w_t_3.ownsRow w.heap.size 9 1 (.slice (some ⟨w_t_1.heap.size, 0, none⟩) 6 6) 6 (t_3.map Value.string)) := by
    rw [← hw_t_3, ← ht_3]
    have e_ : ([.string (⟨#[98, 114, 105, 99, 107]⟩ : ByteArray), .string (⟨#[108, 97, 107, 101]⟩ : ByteArray), .string (⟨#[108, 105, 108, 97, 99]⟩ : ByteArray), .string (⟨#[111, 114, 97, 110, 103, 101]⟩ : ByteArray), .string (⟨#[114, 101, 100]⟩ : ByteArray), .string (⟨#[114, 111, 115, 101]⟩ : ByteArray)] : List Value) = (([(⟨#[98, 114, 105, 99, 107]⟩ : ByteArray), (⟨#[108, 97, 107, 101]⟩ : ByteArray), (⟨#[108, 105, 108, 97, 99]⟩ : ByteArray), (⟨#[111, 114, 97, 110, 103, 101]⟩ : ByteArray), (⟨#[114, 101, 100]⟩ : ByteArray), (⟨#[114, 111, 115, 101]⟩ : ByteArray)] : List ByteArray).map Value.string) := rfl
    exact Lib.hid (own_laid (n := 6) hs_t_3 e_ rfl (by unfold maxLen; omega))
  clear hs_t_3
  have hht_3 := Lib.hid ht_3
  clear ht_3
  replace nt_3 := Lib.hid nt_3
  have Dt_3_t_1 := Lib.hid (apart_fresh Ot_1.out)
  have Dt_3_c0 := Lib.hid (Go.Proofs.YtkinlkmmelkdnaaDoor.GoC.apart_cur K0.out)
  have HBw_t_3 := Lib.hid (grown_below HBw_t_1.out bw_t_3)
  replace Ot_1 := Lib.hid (own_below Ot_1.out bw_t_3)
  replace K0 := Lib.hid (Go.Proofs.YtkinlkmmelkdnaaDoor.GoC.cur_below K0.out bw_t_3)
  clear bw_t_3
  go_wp2_with fail
  have hc_ := nt_3.out
  have hv_ : (Value.slice (some ⟨w_t_1.heap.size, 0, none⟩) 6 6 : Value) = Value.slice (some ⟨w_t_1.heap.size, 0, none⟩) t_3.length 6 := by rw [hc_]
  try rw [hv_]
  replace Ot_3 := Lib.hid (own_len hc_ Ot_3.out)
  clear hc_ hv_
  have hb_0 : t_3.length ≤ 9223372036854775807 := own_max Ot_3.out
  go_wp2_with fail
  go_loopg [5, 3] (t_3.length) (fun m_ v5_ v3_ wr => ∃ (k0 : Nat) (out_3l0 : (List Go.Proofs.YtkinlkmmelkdnaaDoor.PShade.Shade)) (c0_c0l0 : Go.Proofs.YtkinlkmmelkdnaaDoor.GoC.Tape) (Aout_3l0 : Option Addr) (cout_3l0 : Nat), k0 + m_ = t_3.length ∧ v5_ = .int .i64 (k0 : Int) ∧ v3_ = .slice Aout_3l0 out_3l0.length cout_3l0 ∧ Hid (cntK (l0 t_3) m_ k0 (out_3l0, c0_c0l0) (e0 fuel) = some (r, t_)) ∧ Hid (w.grownBy wr (Value.slice (some ⟨g0, 0, none⟩) 1 1).ownBlock) ∧ Hid (wr.ownsRow w.heap.size 54 5 (.slice Aout_3l0 out_3l0.length cout_3l0) out_3l0.length (Go.Proofs.YtkinlkmmelkdnaaDoor.PShade.flat out_3l0)) ∧ Hid (wr.ownsRow w.heap.size 9 1 (.slice (some ⟨w_t_1.heap.size, 0, none⟩) t_3.length 6) t_3.length (t_3.map Value.string)) ∧ Hid (Apart Aout_3l0 (some ⟨w_t_1.heap.size, 0, none⟩)) ∧ Hid (Apart Aout_3l0 (some ⟨g0, 0, none⟩)) ∧ Hid (Go.Proofs.YtkinlkmmelkdnaaDoor.GoC.CurIs wr bc0 g0 Ac0 cc0 c0_c0l0))
  case atStart => exact ⟨0, _, _, _, _, by omega, rfl, rfl, H, HBw_t_3, Ot_1, Ot_3, Lib.hid (Apart.symm Dt_3_t_1.out), Lib.hid Dt_1_c0.out, K0⟩
  case round =>
    obtain ⟨k0, out_3l0, c0_c0l0, Aout_3l0, cout_3l0, hkm0, rfl, rfl, H, HBwr0, Oout_3l0, Ot_3, Dout_3l0_t_3, Dout_3l0_c0, Kl0_0⟩ := hrel
    rename World => wr0
    cases gk with
    | zero =>
      obtain rfl : k0 = t_3.length := by omega
      have hc0 : decide (((t_3.length : Nat) : Int) < ((t_3.length : Nat) : Int)) = false := by simp
      replace H := cnt_zero H
      unfold e0 at H
      replace H := unp2_hid H
      replace H := bind2_hid H
      obtain ⟨t_26, t_26_tp, qt_26, H⟩ := H
      go_wp2_with fail
      go_at_call 73
      refine (Go.Proofs.YtkinlkmmelkdnaaDoor.GsL1CurPick.C (c0_c0l0) (40) (g0) (Ac0) (cc0) (bc0) _   Kl0_0 qt_26).mono ?_
      rintro e_t_26 wt_26 ⟨rfl, kt_26, gt_26⟩
      have Kt_26 := Lib.hid kt_26
      have Gt_26 : Hid (wr0.grownBy wt_26 (Value.slice (some ⟨g0, 0, none⟩) 1 1).ownBlock) := Lib.hid gt_26
      clear kt_26 gt_26
      have HBwt_26 := Lib.hid (Aid.grown_tr HBwr0.out Gt_26.out)
      replace Ot_3 := Lib.hid (own_other Ot_3.out Gt_26.out (Apart.symm Dt_3_c0.out))
      replace Oout_3l0 := Lib.hid (own_other Oout_3l0.out Gt_26.out (Apart.symm Dout_3l0_c0.out))
      clear Kl0_0 Gt_26
      replace H := let_hid H
      obtain ⟨t_27, ht_27, H⟩ := H
      cases t_27 with
      | false =>
        replace H := ite_f H
        replace H := let_hid H
        obtain ⟨t_52, ht_52, H⟩ := H
        cases t_52 with
        | false =>
          replace H := ite_f H
          cases ret_hid H
          go_wp2_with fail
          go_ret
          exact ⟨Aout_3l0, cout_3l0, rfl, Oout_3l0.out, Kt_26.out, HBwt_26.out⟩
        | true =>
          replace H := ite_t H
          replace H := let_hid H
          obtain ⟨t_56, ht_56, H⟩ := H
          cases t_56 with
          | false =>
            have nht_56 : ¬ (1 < out_3l0.length) := by have := of_decide_eq_false ht_56; omega
            replace H := ite_f H
            cases ret_hid H
            go_wp2_with fail
            go_ret
            exact ⟨Aout_3l0, cout_3l0, rfl, Oout_3l0.out, Kt_26.out, HBwt_26.out⟩
          | true =>
            have nht_56 : 1 < out_3l0.length := by have := of_decide_eq_true ht_56; omega
            replace H := ite_t H
            go_wp2_with fail
            have bd17 : Below wt_26.heap.size wt_26 wt_26.drew := (Below.refl _ _).drew
            have HBwt_26.drew := Lib.hid (grown_below HBwt_26.out bd17)
            replace Ot_3 := Lib.hid (own_below Ot_3.out bd17)
            replace Oout_3l0 := Lib.hid (own_below Oout_3l0.out bd17)
            replace Kt_26 := Lib.hid (Go.Proofs.YtkinlkmmelkdnaaDoor.GoC.cur_below Kt_26.out bd17)
            clear bd17
            replace H := guard_hid H
            obtain ⟨hl_t_59, H⟩ := H
            replace H := let_hid H
            obtain ⟨t_59, ht_59, H⟩ := H
            have hht_59 := Lib.hid ht_59
            have hgt_59 := Lib.hid hl_t_59
            clear ht_59
            clear hl_t_59
            replace H := guard_hid H
            obtain ⟨hlt_60, H⟩ := H
            replace H := let_hid H
            obtain ⟨t_60, ht_60, H⟩ := H
            have hht_60 := Lib.hid ht_60
            clear ht_60
            replace H := idx_hid H
            obtain ⟨nt_62, yt_62, et_62, lt_62, gt_62, H⟩ := H
            obtain rfl : 0 = nt_62 := by omega
            clear et_62
            obtain ⟨t_62_name, t_62_hue, t_62_width, t_62_dark, t_62_light⟩ := yt_62
            replace H := unShade_hid H
            obtain ⟨qt_62, Qt_62⟩ := own_some Oout_3l0.out (by omega)
            subst Qt_62
            obtain ⟨ab_t_62, ao_t_62, zt_62, At_62, z_t_62, ct_62_0, ct_62_1, ct_62_2, ct_62_3, ct_62_4⟩ := Go.Proofs.YtkinlkmmelkdnaaDoor.OShade.at_ (own_cells Oout_3l0.out) (k := 0) (by omega)
            obtain rfl := Option.some.inj (gt_62.out.symm.trans z_t_62)
            simp only [Option.some.injEq, Addr.mk.injEq] at At_62
            obtain ⟨rfl, rfl, _⟩ := At_62
            clear z_t_62
            have b1t_62 : (0 : Int) < ((out_3l0.length : Nat) : Int) := by omega
            have b3t_62 : 0 < out_3l0.length := by omega
            try simp only [Nat.zero_mul, Nat.add_zero, Nat.zero_add, Nat.reduceMul] at ct_62_0 ct_62_1 ct_62_2 ct_62_3 ct_62_4
            replace H := guard_hid H
            obtain ⟨hlt_65, H⟩ := H
            replace H := let_hid H
            obtain ⟨t_65, ht_65, H⟩ := H
            have hht_65 := Lib.hid ht_65
            clear ht_65
            obtain ⟨At_59_p181, ct_59_p181, rt_59_p181, mt_59_p181, qt_59_p181⟩ := Go.Proofs.YtkinlkmmelkdnaaDoor.GoD.slice_view (P := Tryd.prog) (t := 49) (e := 54) (k := .i64) (ys := (Go.Proofs.YtkinlkmmelkdnaaDoor.PShade.flat t_59)) (m := t_59.length) (by kernel_rfl) (by kernel_rfl) hi_54 hz1_54 Oout_3l0.out (by have h_ := hgt_59.out; omega) (by rw [← hht_59.out, List.length_drop] <;> omega) (by rw [← hht_59.out]; exact flat_drop Go.Proofs.YtkinlkmmelkdnaaDoor.PShade.Shade.cells 5 (fun _ => rfl) _ _)
            have Mt_59_p181 := Lib.hid mt_59_p181
            have Qt_59_p181 := Lib.hid qt_59_p181
            have Nt_59_p181 : Hid (t_59.length ≤ 9223372036854775807) := Lib.hid (by have h_ := own_max Oout_3l0.out; rw [← hht_59.out, List.length_drop] <;> omega)
            obtain ⟨w_t_57_p187, hw_t_57_p187⟩ : ∃ x, wt_26.drew.alloc (.cells #[] 54) = x := ⟨_, rfl⟩
            have bw_t_57_p187 : Below wt_26.drew.heap.size wt_26.drew w_t_57_p187 := by rw [← hw_t_57_p187]; exact (Below.refl _ _).alloc (Nat.le_refl _) _
            have Ot_57_p187 : Hid (w_t_57_p187.ownsRow w.heap.size 54 5 (.slice (some ⟨wt_26.heap.size, 0, none⟩) 0 0) 0 []) := Lib.hid (by rw [← hw_t_57_p187]; exact own_empty HBwt_26.drew.out.size)
            have Dt_57_t_3_p187 := Lib.hid (apart_fresh Ot_3.out)
            have Dt_57_out_3l0_p187 := Lib.hid (apart_fresh Oout_3l0.out)
            have Dt_57_c0_p187 := Lib.hid (Go.Proofs.YtkinlkmmelkdnaaDoor.GoC.apart_cur Kt_26.out)
            have HBw_t_57_p187 := Lib.hid (grown_below HBwt_26.drew.out bw_t_57_p187)
            have ct_62_0__182_p187 := cell_below bw_t_57_p187 ct_62_0
            have ct_62_1__183_p187 := cell_below bw_t_57_p187 ct_62_1
            have ct_62_2__184_p187 := cell_below bw_t_57_p187 ct_62_2
            have ct_62_3__185_p187 := cell_below bw_t_57_p187 ct_62_3
            have ct_62_4__186_p187 := cell_below bw_t_57_p187 ct_62_4
            have Ot_3_p187 := Lib.hid (own_below Ot_3.out bw_t_57_p187)
            have Oout_3l0_p187 := Lib.hid (own_below Oout_3l0.out bw_t_57_p187)
            have Kt_26_p187 := Lib.hid (Go.Proofs.YtkinlkmmelkdnaaDoor.GoC.cur_below Kt_26.out bw_t_57_p187)
            obtain ⟨w_t_64_p201, hw_t_64_p201⟩ : ∃ x, w_t_57_p187.alloc (.cells #[.string t_62_name, .int .i64 t_62_hue, .int .i64 t_62_width, .int .i64 t_62_dark, .int .i64 t_62_light] 54) = x := ⟨_, rfl⟩
            have bw_t_64_p201 : Below w_t_57_p187.heap.size w_t_57_p187 w_t_64_p201 := by rw [← hw_t_64_p201]; exact (Below.refl _ _).alloc (Nat.le_refl _) _
            have Ot_64_p201 : Hid (w_t_64_p201.ownsRow w.heap.size 54 5 (.slice (some ⟨w_t_57_p187.heap.size, 0, none⟩) 1 1) 1 [.string t_62_name, .int .i64 t_62_hue, .int .i64 t_62_width, .int .i64 t_62_dark, .int .i64 t_62_light]) := Lib.hid (by rw [← hw_t_64_p201]; exact own_laid (n := 1) HBw_t_57_p187.out.size (rfl : ([.string t_62_name, .int .i64 t_62_hue, .int .i64 t_62_width, .int .i64 t_62_dark, .int .i64 t_62_light] : List Value) = [.string t_62_name, .int .i64 t_62_hue, .int .i64 t_62_width, .int .i64 t_62_dark, .int .i64 t_62_light]) rfl (by unfold maxLen; omega))
            have Dt_64_t_3_p201 := Lib.hid (apart_fresh Ot_3_p187.out)
            have Dt_64_out_3l0_p201 := Lib.hid (apart_fresh Oout_3l0_p187.out)
            have Dt_64_t_57_p201 := Lib.hid (apart_fresh Ot_57_p187.out)
            have Dt_64_c0_p201 := Lib.hid (Go.Proofs.YtkinlkmmelkdnaaDoor.GoC.apart_cur Kt_26_p187.out)
            have HBw_t_64_p201 := Lib.hid (grown_below HBw_t_57_p187.out bw_t_64_p201)
            have ct_62_0__196_p201 := cell_below bw_t_64_p201 ct_62_0__182_p187
            have ct_62_1__197_p201 := cell_below bw_t_64_p201 ct_62_1__183_p187
            have ct_62_2__198_p201 := cell_below bw_t_64_p201 ct_62_2__184_p187
            have ct_62_3__199_p201 := cell_below bw_t_64_p201 ct_62_3__185_p187
            have ct_62_4__200_p201 := cell_below bw_t_64_p201 ct_62_4__186_p187
            have Ot_3_p187_p201 := Lib.hid (own_below Ot_3_p187.out bw_t_64_p201)
            have Oout_3l0_p187_p201 := Lib.hid (own_below Oout_3l0_p187.out bw_t_64_p201)
            have Ot_57_p187_p201 := Lib.hid (own_below Ot_57_p187.out bw_t_64_p201)
            have Kt_26_p187_p201 := Lib.hid (Go.Proofs.YtkinlkmmelkdnaaDoor.GoC.cur_below Kt_26_p187.out bw_t_64_p201)
            obtain ⟨w_t_64_p209, hw_t_64_p209⟩ : ∃ x, wt_26.drew.alloc (.cells #[.string t_62_name, .int .i64 t_62_hue, .int .i64 t_62_width, .int .i64 t_62_dark, .int .i64 t_62_light] 54) = x := ⟨_, rfl⟩
            have bw_t_64_p209 : Below wt_26.drew.heap.size wt_26.drew w_t_64_p209 := by rw [← hw_t_64_p209]; exact (Below.refl _ _).alloc (Nat.le_refl _) _
            have Ot_64_p209 : Hid (w_t_64_p209.ownsRow w.heap.size 54 5 (.slice (some ⟨wt_26.heap.size, 0, none⟩) 1 1) 1 [.string t_62_name, .int .i64 t_62_hue, .int .i64 t_62_width, .int .i64 t_62_dark, .int .i64 t_62_light]) := Lib.hid (by rw [← hw_t_64_p209]; exact own_laid (n := 1) HBwt_26.drew.out.size (rfl : ([.string t_62_name, .int .i64 t_62_hue, .int .i64 t_62_width, .int .i64 t_62_dark, .int .i64 t_62_light] : List Value) = [.string t_62_name, .int .i64 t_62_hue, .int .i64 t_62_width, .int .i64 t_62_dark, .int .i64 t_62_light]) rfl (by unfold maxLen; omega))
            have Dt_64_t_3_p209 := Lib.hid (apart_fresh Ot_3.out)
            have Dt_64_out_3l0_p209 := Lib.hid (apart_fresh Oout_3l0.out)
            have Dt_64_c0_p209 := Lib.hid (Go.Proofs.YtkinlkmmelkdnaaDoor.GoC.apart_cur Kt_26.out)
            have HBw_t_64_p209 := Lib.hid (grown_below HBwt_26.drew.out bw_t_64_p209)
            have ct_62_0__204_p209 := cell_below bw_t_64_p209 ct_62_0
            have ct_62_1__205_p209 := cell_below bw_t_64_p209 ct_62_1
            have ct_62_2__206_p209 := cell_below bw_t_64_p209 ct_62_2
            have ct_62_3__207_p209 := cell_below bw_t_64_p209 ct_62_3
            have ct_62_4__208_p209 := cell_below bw_t_64_p209 ct_62_4
            have Ot_3_p209 := Lib.hid (own_below Ot_3.out bw_t_64_p209)
            have Oout_3l0_p209 := Lib.hid (own_below Oout_3l0.out bw_t_64_p209)
            have Kt_26_p209 := Lib.hid (Go.Proofs.YtkinlkmmelkdnaaDoor.GoC.cur_below Kt_26.out bw_t_64_p209)
            obtain ⟨w_t_57_p215, hw_t_57_p215⟩ : ∃ x, w_t_64_p209.alloc (.cells #[] 54) = x := ⟨_, rfl⟩
            have bw_t_57_p215 : Below w_t_64_p209.heap.size w_t_64_p209 w_t_57_p215 := by rw [← hw_t_57_p215]; exact (Below.refl _ _).alloc (Nat.le_refl _) _
            have Ot_57_p215 : Hid (w_t_57_p215.ownsRow w.heap.size 54 5 (.slice (some ⟨w_t_64_p209.heap.size, 0, none⟩) 0 0) 0 []) := Lib.hid (by rw [← hw_t_57_p215]; exact own_empty HBw_t_64_p209.out.size)
            have Dt_57_t_3_p215 := Lib.hid (apart_fresh Ot_3_p209.out)
            have Dt_57_out_3l0_p215 := Lib.hid (apart_fresh Oout_3l0_p209.out)
            have Dt_57_t_64_p215 := Lib.hid (apart_fresh Ot_64_p209.out)
            have Dt_57_c0_p215 := Lib.hid (Go.Proofs.YtkinlkmmelkdnaaDoor.GoC.apart_cur Kt_26_p209.out)
            have HBw_t_57_p215 := Lib.hid (grown_below HBw_t_64_p209.out bw_t_57_p215)
            have ct_62_0__210_p215 := cell_below bw_t_57_p215 ct_62_0__204_p209
            have ct_62_1__211_p215 := cell_below bw_t_57_p215 ct_62_1__205_p209
            have ct_62_2__212_p215 := cell_below bw_t_57_p215 ct_62_2__206_p209
            have ct_62_3__213_p215 := cell_below bw_t_57_p215 ct_62_3__207_p209
            have ct_62_4__214_p215 := cell_below bw_t_57_p215 ct_62_4__208_p209
            have Ot_3_p209_p215 := Lib.hid (own_below Ot_3_p209.out bw_t_57_p215)
            have Oout_3l0_p209_p215 := Lib.hid (own_below Oout_3l0_p209.out bw_t_57_p215)
            have Ot_64_p209_p215 := Lib.hid (own_below Ot_64_p209.out bw_t_57_p215)
            have Kt_26_p209_p215 := Lib.hid (Go.Proofs.YtkinlkmmelkdnaaDoor.GoC.cur_below Kt_26_p209.out bw_t_57_p215)
            go_region_held3 (fun w' => w'.cell? ⟨qt_62, 0, none⟩ = some (.string t_62_name) ∧ w'.cell? ⟨qt_62, 1, none⟩ = some (.int .i64 t_62_hue) ∧ w'.cell? ⟨qt_62, 2, none⟩ = some (.int .i64 t_62_width) ∧ w'.cell? ⟨qt_62, 3, none⟩ = some (.int .i64 t_62_dark) ∧ w'.cell? ⟨qt_62, 4, none⟩ = some (.int .i64 t_62_light)) (first | exact ⟨ct_62_0, ct_62_1, ct_62_2, ct_62_3, ct_62_4⟩ | exact ⟨ct_62_0__182_p187, ct_62_1__183_p187, ct_62_2__184_p187, ct_62_3__185_p187, ct_62_4__186_p187⟩ | exact ⟨ct_62_0__182_p187_p188, ct_62_1__183_p187_p188, ct_62_2__184_p187_p188, ct_62_3__185_p187_p188, ct_62_4__186_p187_p188⟩ | exact ⟨ct_62_0__189_p194, ct_62_1__190_p194, ct_62_2__191_p194, ct_62_3__192_p194, ct_62_4__193_p194⟩ | exact ⟨ct_62_0__189_p194_p195, ct_62_1__190_p194_p195, ct_62_2__191_p194_p195, ct_62_3__192_p194_p195, ct_62_4__193_p194_p195⟩ | exact ⟨ct_62_0__196_p201, ct_62_1__197_p201, ct_62_2__198_p201, ct_62_3__199_p201, ct_62_4__200_p201⟩ | exact ⟨ct_62_0__196_p201_p202, ct_62_1__197_p201_p202, ct_62_2__198_p201_p202, ct_62_3__199_p201_p202, ct_62_4__200_p201_p202⟩ | exact ⟨ct_62_0__196_p201_p202_p203, ct_62_1__197_p201_p202_p203, ct_62_2__198_p201_p202_p203, ct_62_3__199_p201_p202_p203, ct_62_4__200_p201_p202_p203⟩ | exact ⟨ct_62_0__204_p209, ct_62_1__205_p209, ct_62_2__206_p209, ct_62_3__207_p209, ct_62_4__208_p209⟩ | exact ⟨ct_62_0__210_p215, ct_62_1__211_p215, ct_62_2__212_p215, ct_62_3__213_p215, ct_62_4__214_p215⟩ | exact ⟨ct_62_0__210_p215_p216, ct_62_1__211_p215_p216, ct_62_2__212_p215_p216, ct_62_3__213_p215_p216, ct_62_4__214_p215_p216⟩ | exact ⟨ct_62_0__210_p215_p216_p217, ct_62_1__211_p215_p216_p217, ct_62_2__212_p215_p216_p217, ct_62_3__213_p215_p216_p217, ct_62_4__214_p215_p216_p217⟩)
                (first
                  | (have hst_60_p188 := HBw_t_57_p187.out.size
                     have Ct_60_p188 := Lib.hid ((Mt_59_p181.out _ Oout_3l0_p187.out))
                     have h1t_60_p188 : 0 + t_59.length ≤ maxLen := by have h_ := hlt_60; simp only [List.length_nil] at h_; unfold maxLen; omega
                     have h2t_60_p188 : (0 + t_59.length) * 48 ≤ 140737488355328 := by have h_ := hlt_60; simp only [List.length_nil] at h_; omega
                     refine Go.Proofs.YtkinlkmmelkdnaaDoor.GoH.step_spread_own (w := w_t_57_p187) rfl (.tmp 54) (.tmp 56) 49 rfl w.heap.size 54 i0_54 (.agg #[.string ByteArray.empty, .int .i64 0, .int .i64 0, .int .i64 0, .int .i64 0]) 5 48 Tryd.underlying49 hi_54 hz0_54 hz1_54 hz2_54 rfl (by decide) (some ⟨wt_26.heap.size, 0, none⟩) 0 0 _ rfl Ot_57_p187.out At_59_p181 t_59.length ct_59_p181 (Go.Proofs.YtkinlkmmelkdnaaDoor.PShade.flat t_59) rfl Qt_59_p181.out Ct_60_p188.out (fun u hu => by obtain ⟨y_, _, hy_⟩ := List.mem_flatMap.1 hu; simp only [Go.Proofs.YtkinlkmmelkdnaaDoor.PShade.Shade.cells, List.mem_cons, List.not_mem_nil, or_false] at hy_; rcases hy_ with rfl | rfl | rfl | rfl | rfl <;> rfl) h1t_60_p188 h2t_60_p188 hst_60_p188 ?_
                     intro vt_60_p188 wt_60_p188 ot_60_p188 gt_60_p188 yt_60_p188
                     obtain ⟨At_60_p188, ct_60_p188, rfl, pt_60_p188⟩ := own_pushS (f := Go.Proofs.YtkinlkmmelkdnaaDoor.PShade.flat) hht_60.out (by simp [Go.Proofs.YtkinlkmmelkdnaaDoor.PShade.flat]) rfl ot_60_p188
                     have Pt_60_p188 := Lib.hid pt_60_p188
                     have Yt_60_p188 := Lib.hid yt_60_p188
                     have Gt_60_p188 := Lib.hid gt_60_p188
                     have HBwt_60_p188 := Lib.hid (Go.Proofs.YtkinlkmmelkdnaaDoor.GoC.grown_new HBw_t_57_p187.out Gt_60_p188.out (Go.Proofs.YtkinlkmmelkdnaaDoor.GoC.own_ge Ot_57_p187.out))
                     have Dt_60_t_3_p188 : Hid (Apart At_60_p188 _) := Lib.hid (apart_app Dt_57_t_3_p187.out (fun a_ ha_ => (own_lt Ot_3_p187.out a_ ha_).2) Yt_60_p188.out)
                     have Dt_60_out_3l0_p188 : Hid (Apart At_60_p188 _) := Lib.hid (apart_app Dt_57_out_3l0_p187.out (fun a_ ha_ => (own_lt Oout_3l0_p187.out a_ ha_).2) Yt_60_p188.out)
                     have Dt_60_c0_p188 : Hid (Apart At_60_p188 _) := Lib.hid (apart_app Dt_57_c0_p187.out (fun a_ ha_ => by cases ha_; exact (Go.Proofs.YtkinlkmmelkdnaaDoor.GoC.cur_lt Kt_26_p187.out).2) Yt_60_p188.out)
                     have ct_62_0__182_p187_p188 := cell_other ct_62_0__182_p187 Gt_60_p188.out Dt_57_out_3l0_p187.out
                     have ct_62_1__183_p187_p188 := cell_other ct_62_1__183_p187 Gt_60_p188.out Dt_57_out_3l0_p187.out
                     have ct_62_2__184_p187_p188 := cell_other ct_62_2__184_p187 Gt_60_p188.out Dt_57_out_3l0_p187.out
                     have ct_62_3__185_p187_p188 := cell_other ct_62_3__185_p187 Gt_60_p188.out Dt_57_out_3l0_p187.out
                     have ct_62_4__186_p187_p188 := cell_other ct_62_4__186_p187 Gt_60_p188.out Dt_57_out_3l0_p187.out
                     have Ot_3_p187_p188 := Lib.hid (own_other Ot_3_p187.out Gt_60_p188.out Dt_57_t_3_p187.out)
                     have Oout_3l0_p187_p188 := Lib.hid (own_other Oout_3l0_p187.out Gt_60_p188.out Dt_57_out_3l0_p187.out)
                     have Kt_26_p187_p188 := Lib.hid (Go.Proofs.YtkinlkmmelkdnaaDoor.GoC.cur_otherO Kt_26_p187.out Gt_60_p188.out Dt_57_c0_p187.out L0 Ot_57_p187.out)
                     obtain ⟨w_t_64_p194, hw_t_64_p194⟩ : ∃ x, wt_60_p188.alloc (.cells #[.string t_62_name, .int .i64 t_62_hue, .int .i64 t_62_width, .int .i64 t_62_dark, .int .i64 t_62_light] 54) = x := ⟨_, rfl⟩
                     have bw_t_64_p194 : Below wt_60_p188.heap.size wt_60_p188 w_t_64_p194 := by rw [← hw_t_64_p194]; exact (Below.refl _ _).alloc (Nat.le_refl _) _
                     have Ot_64_p194 : Hid (w_t_64_p194.ownsRow w.heap.size 54 5 (.slice (some ⟨wt_60_p188.heap.size, 0, none⟩) 1 1) 1 [.string t_62_name, .int .i64 t_62_hue, .int .i64 t_62_width, .int .i64 t_62_dark, .int .i64 t_62_light]) := Lib.hid (by rw [← hw_t_64_p194]; exact own_laid (n := 1) HBwt_60_p188.out.size (rfl : ([.string t_62_name, .int .i64 t_62_hue, .int .i64 t_62_width, .int .i64 t_62_dark, .int .i64 t_62_light] : List Value) = [.string t_62_name, .int .i64 t_62_hue, .int .i64 t_62_width, .int .i64 t_62_dark, .int .i64 t_62_light]) rfl (by unfold maxLen; omega))
                     have Dt_64_t_3_p194 := Lib.hid (apart_fresh Ot_3_p187_p188.out)
                     have Dt_64_out_3l0_p194 := Lib.hid (apart_fresh Oout_3l0_p187_p188.out)
                     have Dt_64_t_60_p194 := Lib.hid (apart_fresh Pt_60_p188.out)
                     have Dt_64_c0_p194 := Lib.hid (Go.Proofs.YtkinlkmmelkdnaaDoor.GoC.apart_cur Kt_26_p187_p188.out)
                     have HBw_t_64_p194 := Lib.hid (grown_below HBwt_60_p188.out bw_t_64_p194)
                     have ct_62_0__189_p194 := cell_below bw_t_64_p194 ct_62_0__182_p187_p188
                     have ct_62_1__190_p194 := cell_below bw_t_64_p194 ct_62_1__183_p187_p188
                     have ct_62_2__191_p194 := cell_below bw_t_64_p194 ct_62_2__184_p187_p188
                     have ct_62_3__192_p194 := cell_below bw_t_64_p194 ct_62_3__185_p187_p188
                     have ct_62_4__193_p194 := cell_below bw_t_64_p194 ct_62_4__186_p187_p188
                     have Ot_3_p187_p188_p194 := Lib.hid (own_below Ot_3_p187_p188.out bw_t_64_p194)
                     have Oout_3l0_p187_p188_p194 := Lib.hid (own_below Oout_3l0_p187_p188.out bw_t_64_p194)
                     have Pt_60_p188_p194 := Lib.hid (own_below Pt_60_p188.out bw_t_64_p194)
                     have Kt_26_p187_p188_p194 := Lib.hid (Go.Proofs.YtkinlkmmelkdnaaDoor.GoC.cur_below Kt_26_p187_p188.out bw_t_64_p194))
                  | (have hst_65_p195 := HBw_t_64_p194.out.size
                     have h1t_65_p195 : t_60.length + 1 ≤ maxLen := by unfold maxLen; omega
                     have h2t_65_p195 : (t_60.length + 1) * 48 ≤ 140737488355328 := by omega
                     have h3t_65_p195 := Ot_64_p194.out.cells rfl
                     refine Go.Proofs.YtkinlkmmelkdnaaDoor.GoH.step_append_own (w := w_t_64_p194) rfl (.tmp 57) (.tmp 61) 49 rfl w.heap.size 54 i0_54 (.agg #[.string ByteArray.empty, .int .i64 0, .int .i64 0, .int .i64 0, .int .i64 0]) 5 48 Tryd.underlying49 hi_54 hz0_54 hz1_54 hz2_54 rfl (by decide) At_60_p188 ct_60_p188 t_60.length _ rfl Pt_60_p188_p194.out ⟨wt_60_p188.heap.size, 0, none⟩ 1 [.string t_62_name, .int .i64 t_62_hue, .int .i64 t_62_width, .int .i64 t_62_dark, .int .i64 t_62_light] rfl rfl h3t_65_p195 (one_cells rfl) h1t_65_p195 h2t_65_p195 hst_65_p195 ?_
                     intro vt_65_p195 wt_65_p195 ot_65_p195 gt_65_p195 yt_65_p195
                     obtain ⟨qt_65_p195, ct_65_p195, rfl, pt_65_p195⟩ := own_push hht_65.out (Go.Proofs.YtkinlkmmelkdnaaDoor.PShade.flat_snoc _ _) rfl ot_65_p195
                     have Pt_65_p195 := Lib.hid pt_65_p195
                     have Yt_65_p195 := Lib.hid yt_65_p195
                     have Gt_65_p195 := Lib.hid gt_65_p195
                     have HBwt_65_p195 := Lib.hid (Go.Proofs.YtkinlkmmelkdnaaDoor.GoC.grown_new HBw_t_64_p194.out Gt_65_p195.out (Go.Proofs.YtkinlkmmelkdnaaDoor.GoC.own_ge Pt_60_p188_p194.out))
                     have Dt_65_t_3_p195 : Hid (Apart (some ⟨qt_65_p195, 0, none⟩) _) := Lib.hid (apart_app Dt_60_t_3_p188.out (fun a_ ha_ => (own_lt Ot_3_p187_p188_p194.out a_ ha_).2) Yt_65_p195.out)
                     have Dt_65_out_3l0_p195 : Hid (Apart (some ⟨qt_65_p195, 0, none⟩) _) := Lib.hid (apart_app Dt_60_out_3l0_p188.out (fun a_ ha_ => (own_lt Oout_3l0_p187_p188_p194.out a_ ha_).2) Yt_65_p195.out)
                     have Dt_65_c0_p195 : Hid (Apart (some ⟨qt_65_p195, 0, none⟩) _) := Lib.hid (apart_app Dt_60_c0_p188.out (fun a_ ha_ => by cases ha_; exact (Go.Proofs.YtkinlkmmelkdnaaDoor.GoC.cur_lt Kt_26_p187_p188_p194.out).2) Yt_65_p195.out)
                     have Dt_65_t_64_p195 : Hid (Apart (some ⟨qt_65_p195, 0, none⟩) _) := Lib.hid (apart_app (Apart.symm Dt_64_t_60_p194.out) (fun a_ ha_ => (own_lt Ot_64_p194.out a_ ha_).2) Yt_65_p195.out)
                     have ct_62_0__189_p194_p195 := cell_other ct_62_0__189_p194 Gt_65_p195.out Dt_60_out_3l0_p188.out
                     have ct_62_1__190_p194_p195 := cell_other ct_62_1__190_p194 Gt_65_p195.out Dt_60_out_3l0_p188.out
                     have ct_62_2__191_p194_p195 := cell_other ct_62_2__191_p194 Gt_65_p195.out Dt_60_out_3l0_p188.out
                     have ct_62_3__192_p194_p195 := cell_other ct_62_3__192_p194 Gt_65_p195.out Dt_60_out_3l0_p188.out
                     have ct_62_4__193_p194_p195 := cell_other ct_62_4__193_p194 Gt_65_p195.out Dt_60_out_3l0_p188.out
                     have Ot_3_p187_p188_p194_p195 := Lib.hid (own_other Ot_3_p187_p188_p194.out Gt_65_p195.out Dt_60_t_3_p188.out)
                     have Oout_3l0_p187_p188_p194_p195 := Lib.hid (own_other Oout_3l0_p187_p188_p194.out Gt_65_p195.out Dt_60_out_3l0_p188.out)
                     have Ot_64_p194_p195 := Lib.hid (own_other Ot_64_p194.out Gt_65_p195.out (Apart.symm Dt_64_t_60_p194.out))
                     have Kt_26_p187_p188_p194_p195 := Lib.hid (Go.Proofs.YtkinlkmmelkdnaaDoor.GoC.cur_otherO Kt_26_p187_p188_p194.out Gt_65_p195.out Dt_60_c0_p188.out L0 Pt_60_p188_p194.out))
                  | (have hst_60_p202 := HBw_t_64_p201.out.size
                     have Ct_60_p202 := Lib.hid ((Mt_59_p181.out _ Oout_3l0_p187_p201.out))
                     have h1t_60_p202 : 0 + t_59.length ≤ maxLen := by have h_ := hlt_60; simp only [List.length_nil] at h_; unfold maxLen; omega
                     have h2t_60_p202 : (0 + t_59.length) * 48 ≤ 140737488355328 := by have h_ := hlt_60; simp only [List.length_nil] at h_; omega
                     refine Go.Proofs.YtkinlkmmelkdnaaDoor.GoH.step_spread_own (w := w_t_64_p201) rfl (.tmp 54) (.tmp 56) 49 rfl w.heap.size 54 i0_54 (.agg #[.string ByteArray.empty, .int .i64 0, .int .i64 0, .int .i64 0, .int .i64 0]) 5 48 Tryd.underlying49 hi_54 hz0_54 hz1_54 hz2_54 rfl (by decide) (some ⟨wt_26.heap.size, 0, none⟩) 0 0 _ rfl Ot_57_p187_p201.out At_59_p181 t_59.length ct_59_p181 (Go.Proofs.YtkinlkmmelkdnaaDoor.PShade.flat t_59) rfl Qt_59_p181.out Ct_60_p202.out (fun u hu => by obtain ⟨y_, _, hy_⟩ := List.mem_flatMap.1 hu; simp only [Go.Proofs.YtkinlkmmelkdnaaDoor.PShade.Shade.cells, List.mem_cons, List.not_mem_nil, or_false] at hy_; rcases hy_ with rfl | rfl | rfl | rfl | rfl <;> rfl) h1t_60_p202 h2t_60_p202 hst_60_p202 ?_
                     intro vt_60_p202 wt_60_p202 ot_60_p202 gt_60_p202 yt_60_p202
                     obtain ⟨At_60_p202, ct_60_p202, rfl, pt_60_p202⟩ := own_pushS (f := Go.Proofs.YtkinlkmmelkdnaaDoor.PShade.flat) hht_60.out (by simp [Go.Proofs.YtkinlkmmelkdnaaDoor.PShade.flat]) rfl ot_60_p202
                     have Pt_60_p202 := Lib.hid pt_60_p202
                     have Yt_60_p202 := Lib.hid yt_60_p202
                     have Gt_60_p202 := Lib.hid gt_60_p202
                     have HBwt_60_p202 := Lib.hid (Go.Proofs.YtkinlkmmelkdnaaDoor.GoC.grown_new HBw_t_64_p201.out Gt_60_p202.out (Go.Proofs.YtkinlkmmelkdnaaDoor.GoC.own_ge Ot_57_p187_p201.out))
                     have Dt_60_t_3_p202 : Hid (Apart At_60_p202 _) := Lib.hid (apart_app Dt_57_t_3_p187.out (fun a_ ha_ => (own_lt Ot_3_p187_p201.out a_ ha_).2) Yt_60_p202.out)
                     have Dt_60_out_3l0_p202 : Hid (Apart At_60_p202 _) := Lib.hid (apart_app Dt_57_out_3l0_p187.out (fun a_ ha_ => (own_lt Oout_3l0_p187_p201.out a_ ha_).2) Yt_60_p202.out)
                     have Dt_60_c0_p202 : Hid (Apart At_60_p202 _) := Lib.hid (apart_app Dt_57_c0_p187.out (fun a_ ha_ => by cases ha_; exact (Go.Proofs.YtkinlkmmelkdnaaDoor.GoC.cur_lt Kt_26_p187_p201.out).2) Yt_60_p202.out)
                     have Dt_60_t_64_p202 : Hid (Apart At_60_p202 _) := Lib.hid (apart_app (Apart.symm Dt_64_t_57_p201.out) (fun a_ ha_ => (own_lt Ot_64_p201.out a_ ha_).2) Yt_60_p202.out)
                     have ct_62_0__196_p201_p202 := cell_other ct_62_0__196_p201 Gt_60_p202.out Dt_57_out_3l0_p187.out
                     have ct_62_1__197_p201_p202 := cell_other ct_62_1__197_p201 Gt_60_p202.out Dt_57_out_3l0_p187.out
                     have ct_62_2__198_p201_p202 := cell_other ct_62_2__198_p201 Gt_60_p202.out Dt_57_out_3l0_p187.out
                     have ct_62_3__199_p201_p202 := cell_other ct_62_3__199_p201 Gt_60_p202.out Dt_57_out_3l0_p187.out
                     have ct_62_4__200_p201_p202 := cell_other ct_62_4__200_p201 Gt_60_p202.out Dt_57_out_3l0_p187.out
                     have Ot_3_p187_p201_p202 := Lib.hid (own_other Ot_3_p187_p201.out Gt_60_p202.out Dt_57_t_3_p187.out)
                     have Oout_3l0_p187_p201_p202 := Lib.hid (own_other Oout_3l0_p187_p201.out Gt_60_p202.out Dt_57_out_3l0_p187.out)
                     have Ot_64_p201_p202 := Lib.hid (own_other Ot_64_p201.out Gt_60_p202.out (Apart.symm Dt_64_t_57_p201.out))
                     have Kt_26_p187_p201_p202 := Lib.hid (Go.Proofs.YtkinlkmmelkdnaaDoor.GoC.cur_otherO Kt_26_p187_p201.out Gt_60_p202.out Dt_57_c0_p187.out L0 Ot_57_p187_p201.out))
                  | (have hst_65_p203 := HBwt_60_p202.out.size
                     have h1t_65_p203 : t_60.length + 1 ≤ maxLen := by unfold maxLen; omega
                     have h2t_65_p203 : (t_60.length + 1) * 48 ≤ 140737488355328 := by omega
                     have h3t_65_p203 := Ot_64_p201_p202.out.cells rfl
                     refine Go.Proofs.YtkinlkmmelkdnaaDoor.GoH.step_append_own (w := wt_60_p202) rfl (.tmp 57) (.tmp 61) 49 rfl w.heap.size 54 i0_54 (.agg #[.string ByteArray.empty, .int .i64 0, .int .i64 0, .int .i64 0, .int .i64 0]) 5 48 Tryd.underlying49 hi_54 hz0_54 hz1_54 hz2_54 rfl (by decide) At_60_p202 ct_60_p202 t_60.length _ rfl Pt_60_p202.out ⟨w_t_57_p187.heap.size, 0, none⟩ 1 [.string t_62_name, .int .i64 t_62_hue, .int .i64 t_62_width, .int .i64 t_62_dark, .int .i64 t_62_light] rfl rfl h3t_65_p203 (one_cells rfl) h1t_65_p203 h2t_65_p203 hst_65_p203 ?_
                     intro vt_65_p203 wt_65_p203 ot_65_p203 gt_65_p203 yt_65_p203
                     obtain ⟨qt_65_p203, ct_65_p203, rfl, pt_65_p203⟩ := own_push hht_65.out (Go.Proofs.YtkinlkmmelkdnaaDoor.PShade.flat_snoc _ _) rfl ot_65_p203
                     have Pt_65_p203 := Lib.hid pt_65_p203
                     have Yt_65_p203 := Lib.hid yt_65_p203
                     have Gt_65_p203 := Lib.hid gt_65_p203
                     have HBwt_65_p203 := Lib.hid (Go.Proofs.YtkinlkmmelkdnaaDoor.GoC.grown_new HBwt_60_p202.out Gt_65_p203.out (Go.Proofs.YtkinlkmmelkdnaaDoor.GoC.own_ge Pt_60_p202.out))
                     have Dt_65_t_3_p203 : Hid (Apart (some ⟨qt_65_p203, 0, none⟩) _) := Lib.hid (apart_app Dt_60_t_3_p202.out (fun a_ ha_ => (own_lt Ot_3_p187_p201_p202.out a_ ha_).2) Yt_65_p203.out)
                     have Dt_65_out_3l0_p203 : Hid (Apart (some ⟨qt_65_p203, 0, none⟩) _) := Lib.hid (apart_app Dt_60_out_3l0_p202.out (fun a_ ha_ => (own_lt Oout_3l0_p187_p201_p202.out a_ ha_).2) Yt_65_p203.out)
                     have Dt_65_c0_p203 : Hid (Apart (some ⟨qt_65_p203, 0, none⟩) _) := Lib.hid (apart_app Dt_60_c0_p202.out (fun a_ ha_ => by cases ha_; exact (Go.Proofs.YtkinlkmmelkdnaaDoor.GoC.cur_lt Kt_26_p187_p201_p202.out).2) Yt_65_p203.out)
                     have Dt_65_t_64_p203 : Hid (Apart (some ⟨qt_65_p203, 0, none⟩) _) := Lib.hid (apart_app Dt_60_t_64_p202.out (fun a_ ha_ => (own_lt Ot_64_p201_p202.out a_ ha_).2) Yt_65_p203.out)
                     have ct_62_0__196_p201_p202_p203 := cell_other ct_62_0__196_p201_p202 Gt_65_p203.out Dt_60_out_3l0_p202.out
                     have ct_62_1__197_p201_p202_p203 := cell_other ct_62_1__197_p201_p202 Gt_65_p203.out Dt_60_out_3l0_p202.out
                     have ct_62_2__198_p201_p202_p203 := cell_other ct_62_2__198_p201_p202 Gt_65_p203.out Dt_60_out_3l0_p202.out
                     have ct_62_3__199_p201_p202_p203 := cell_other ct_62_3__199_p201_p202 Gt_65_p203.out Dt_60_out_3l0_p202.out
                     have ct_62_4__200_p201_p202_p203 := cell_other ct_62_4__200_p201_p202 Gt_65_p203.out Dt_60_out_3l0_p202.out
                     have Ot_3_p187_p201_p202_p203 := Lib.hid (own_other Ot_3_p187_p201_p202.out Gt_65_p203.out Dt_60_t_3_p202.out)
                     have Oout_3l0_p187_p201_p202_p203 := Lib.hid (own_other Oout_3l0_p187_p201_p202.out Gt_65_p203.out Dt_60_out_3l0_p202.out)
                     have Ot_64_p201_p202_p203 := Lib.hid (own_other Ot_64_p201_p202.out Gt_65_p203.out Dt_60_t_64_p202.out)
                     have Kt_26_p187_p201_p202_p203 := Lib.hid (Go.Proofs.YtkinlkmmelkdnaaDoor.GoC.cur_otherO Kt_26_p187_p201_p202.out Gt_65_p203.out Dt_60_c0_p202.out L0 Pt_60_p202.out))
                  | (have hst_60_p216 := HBw_t_57_p215.out.size
                     have Ct_60_p216 := Lib.hid ((Mt_59_p181.out _ Oout_3l0_p209_p215.out))
                     have h1t_60_p216 : 0 + t_59.length ≤ maxLen := by have h_ := hlt_60; simp only [List.length_nil] at h_; unfold maxLen; omega
                     have h2t_60_p216 : (0 + t_59.length) * 48 ≤ 140737488355328 := by have h_ := hlt_60; simp only [List.length_nil] at h_; omega
                     refine Go.Proofs.YtkinlkmmelkdnaaDoor.GoH.step_spread_own (w := w_t_57_p215) rfl (.tmp 54) (.tmp 56) 49 rfl w.heap.size 54 i0_54 (.agg #[.string ByteArray.empty, .int .i64 0, .int .i64 0, .int .i64 0, .int .i64 0]) 5 48 Tryd.underlying49 hi_54 hz0_54 hz1_54 hz2_54 rfl (by decide) (some ⟨w_t_64_p209.heap.size, 0, none⟩) 0 0 _ rfl Ot_57_p215.out At_59_p181 t_59.length ct_59_p181 (Go.Proofs.YtkinlkmmelkdnaaDoor.PShade.flat t_59) rfl Qt_59_p181.out Ct_60_p216.out (fun u hu => by obtain ⟨y_, _, hy_⟩ := List.mem_flatMap.1 hu; simp only [Go.Proofs.YtkinlkmmelkdnaaDoor.PShade.Shade.cells, List.mem_cons, List.not_mem_nil, or_false] at hy_; rcases hy_ with rfl | rfl | rfl | rfl | rfl <;> rfl) h1t_60_p216 h2t_60_p216 hst_60_p216 ?_
                     intro vt_60_p216 wt_60_p216 ot_60_p216 gt_60_p216 yt_60_p216
                     obtain ⟨At_60_p216, ct_60_p216, rfl, pt_60_p216⟩ := own_pushS (f := Go.Proofs.YtkinlkmmelkdnaaDoor.PShade.flat) hht_60.out (by simp [Go.Proofs.YtkinlkmmelkdnaaDoor.PShade.flat]) rfl ot_60_p216
                     have Pt_60_p216 := Lib.hid pt_60_p216
                     have Yt_60_p216 := Lib.hid yt_60_p216
                     have Gt_60_p216 := Lib.hid gt_60_p216
                     have HBwt_60_p216 := Lib.hid (Go.Proofs.YtkinlkmmelkdnaaDoor.GoC.grown_new HBw_t_57_p215.out Gt_60_p216.out (Go.Proofs.YtkinlkmmelkdnaaDoor.GoC.own_ge Ot_57_p215.out))
                     have Dt_60_t_3_p216 : Hid (Apart At_60_p216 _) := Lib.hid (apart_app Dt_57_t_3_p215.out (fun a_ ha_ => (own_lt Ot_3_p209_p215.out a_ ha_).2) Yt_60_p216.out)
                     have Dt_60_out_3l0_p216 : Hid (Apart At_60_p216 _) := Lib.hid (apart_app Dt_57_out_3l0_p215.out (fun a_ ha_ => (own_lt Oout_3l0_p209_p215.out a_ ha_).2) Yt_60_p216.out)
                     have Dt_60_t_64_p216 : Hid (Apart At_60_p216 _) := Lib.hid (apart_app Dt_57_t_64_p215.out (fun a_ ha_ => (own_lt Ot_64_p209_p215.out a_ ha_).2) Yt_60_p216.out)
                     have Dt_60_c0_p216 : Hid (Apart At_60_p216 _) := Lib.hid (apart_app Dt_57_c0_p215.out (fun a_ ha_ => by cases ha_; exact (Go.Proofs.YtkinlkmmelkdnaaDoor.GoC.cur_lt Kt_26_p209_p215.out).2) Yt_60_p216.out)
                     have ct_62_0__210_p215_p216 := cell_other ct_62_0__210_p215 Gt_60_p216.out Dt_57_out_3l0_p215.out
                     have ct_62_1__211_p215_p216 := cell_other ct_62_1__211_p215 Gt_60_p216.out Dt_57_out_3l0_p215.out
                     have ct_62_2__212_p215_p216 := cell_other ct_62_2__212_p215 Gt_60_p216.out Dt_57_out_3l0_p215.out
                     have ct_62_3__213_p215_p216 := cell_other ct_62_3__213_p215 Gt_60_p216.out Dt_57_out_3l0_p215.out
                     have ct_62_4__214_p215_p216 := cell_other ct_62_4__214_p215 Gt_60_p216.out Dt_57_out_3l0_p215.out
                     have Ot_3_p209_p215_p216 := Lib.hid (own_other Ot_3_p209_p215.out Gt_60_p216.out Dt_57_t_3_p215.out)
                     have Oout_3l0_p209_p215_p216 := Lib.hid (own_other Oout_3l0_p209_p215.out Gt_60_p216.out Dt_57_out_3l0_p215.out)
                     have Ot_64_p209_p215_p216 := Lib.hid (own_other Ot_64_p209_p215.out Gt_60_p216.out Dt_57_t_64_p215.out)
                     have Kt_26_p209_p215_p216 := Lib.hid (Go.Proofs.YtkinlkmmelkdnaaDoor.GoC.cur_otherO Kt_26_p209_p215.out Gt_60_p216.out Dt_57_c0_p215.out L0 Ot_57_p215.out))
                  | (have hst_65_p217 := HBwt_60_p216.out.size
                     have h1t_65_p217 : t_60.length + 1 ≤ maxLen := by unfold maxLen; omega
                     have h2t_65_p217 : (t_60.length + 1) * 48 ≤ 140737488355328 := by omega
                     have h3t_65_p217 := Ot_64_p209_p215_p216.out.cells rfl
                     refine Go.Proofs.YtkinlkmmelkdnaaDoor.GoH.step_append_own (w := wt_60_p216) rfl (.tmp 57) (.tmp 61) 49 rfl w.heap.size 54 i0_54 (.agg #[.string ByteArray.empty, .int .i64 0, .int .i64 0, .int .i64 0, .int .i64 0]) 5 48 Tryd.underlying49 hi_54 hz0_54 hz1_54 hz2_54 rfl (by decide) At_60_p216 ct_60_p216 t_60.length _ rfl Pt_60_p216.out ⟨wt_26.heap.size, 0, none⟩ 1 [.string t_62_name, .int .i64 t_62_hue, .int .i64 t_62_width, .int .i64 t_62_dark, .int .i64 t_62_light] rfl rfl h3t_65_p217 (one_cells rfl) h1t_65_p217 h2t_65_p217 hst_65_p217 ?_
                     intro vt_65_p217 wt_65_p217 ot_65_p217 gt_65_p217 yt_65_p217
                     obtain ⟨qt_65_p217, ct_65_p217, rfl, pt_65_p217⟩ := own_push hht_65.out (Go.Proofs.YtkinlkmmelkdnaaDoor.PShade.flat_snoc _ _) rfl ot_65_p217
                     have Pt_65_p217 := Lib.hid pt_65_p217
                     have Yt_65_p217 := Lib.hid yt_65_p217
                     have Gt_65_p217 := Lib.hid gt_65_p217
                     have HBwt_65_p217 := Lib.hid (Go.Proofs.YtkinlkmmelkdnaaDoor.GoC.grown_new HBwt_60_p216.out Gt_65_p217.out (Go.Proofs.YtkinlkmmelkdnaaDoor.GoC.own_ge Pt_60_p216.out))
                     have Dt_65_t_3_p217 : Hid (Apart (some ⟨qt_65_p217, 0, none⟩) _) := Lib.hid (apart_app Dt_60_t_3_p216.out (fun a_ ha_ => (own_lt Ot_3_p209_p215_p216.out a_ ha_).2) Yt_65_p217.out)
                     have Dt_65_out_3l0_p217 : Hid (Apart (some ⟨qt_65_p217, 0, none⟩) _) := Lib.hid (apart_app Dt_60_out_3l0_p216.out (fun a_ ha_ => (own_lt Oout_3l0_p209_p215_p216.out a_ ha_).2) Yt_65_p217.out)
                     have Dt_65_t_64_p217 : Hid (Apart (some ⟨qt_65_p217, 0, none⟩) _) := Lib.hid (apart_app Dt_60_t_64_p216.out (fun a_ ha_ => (own_lt Ot_64_p209_p215_p216.out a_ ha_).2) Yt_65_p217.out)
                     have Dt_65_c0_p217 : Hid (Apart (some ⟨qt_65_p217, 0, none⟩) _) := Lib.hid (apart_app Dt_60_c0_p216.out (fun a_ ha_ => by cases ha_; exact (Go.Proofs.YtkinlkmmelkdnaaDoor.GoC.cur_lt Kt_26_p209_p215_p216.out).2) Yt_65_p217.out)
                     have ct_62_0__210_p215_p216_p217 := cell_other ct_62_0__210_p215_p216 Gt_65_p217.out Dt_60_out_3l0_p216.out
                     have ct_62_1__211_p215_p216_p217 := cell_other ct_62_1__211_p215_p216 Gt_65_p217.out Dt_60_out_3l0_p216.out
                     have ct_62_2__212_p215_p216_p217 := cell_other ct_62_2__212_p215_p216 Gt_65_p217.out Dt_60_out_3l0_p216.out
                     have ct_62_3__213_p215_p216_p217 := cell_other ct_62_3__213_p215_p216 Gt_65_p217.out Dt_60_out_3l0_p216.out
                     have ct_62_4__214_p215_p216_p217 := cell_other ct_62_4__214_p215_p216 Gt_65_p217.out Dt_60_out_3l0_p216.out
                     have Ot_3_p209_p215_p216_p217 := Lib.hid (own_other Ot_3_p209_p215_p216.out Gt_65_p217.out Dt_60_t_3_p216.out)
                     have Oout_3l0_p209_p215_p216_p217 := Lib.hid (own_other Oout_3l0_p209_p215_p216.out Gt_65_p217.out Dt_60_out_3l0_p216.out)
                     have Ot_64_p209_p215_p216_p217 := Lib.hid (own_other Ot_64_p209_p215_p216.out Gt_65_p217.out Dt_60_t_64_p216.out)
                     have Kt_26_p209_p215_p216_p217 := Lib.hid (Go.Proofs.YtkinlkmmelkdnaaDoor.GoC.cur_otherO Kt_26_p209_p215_p216.out Gt_65_p217.out Dt_60_c0_p216.out L0 Pt_60_p216.out)))
            · skip
              cases ret_hid H
              go_wp2_with fail
              go_ret
              exact ⟨(some ⟨qt_65_p195, 0, none⟩), ct_65_p195, rfl, Pt_65_p195.out, Kt_26_p187_p188_p194_p195.out, HBwt_65_p195.out⟩
            · skip
              cases ret_hid H
              go_wp2_with fail
              go_ret
              exact ⟨(some ⟨qt_65_p203, 0, none⟩), ct_65_p203, rfl, Pt_65_p203.out, Kt_26_p187_p201_p202_p203.out, HBwt_65_p203.out⟩
            · skip
              cases ret_hid H
              go_wp2_with fail
              go_ret
              exact ⟨(some ⟨qt_65_p217, 0, none⟩), ct_65_p217, rfl, Pt_65_p217.out, Kt_26_p209_p215_p216_p217.out, HBwt_65_p217.out⟩
      | true =>
        replace H := ite_t H
        obtain ⟨w_t_29, hw_t_29⟩ : ∃ x, wt_26.alloc (.cells #[] 54) = x := ⟨_, rfl⟩
        have bw_t_29 : Below wt_26.heap.size wt_26 w_t_29 := by rw [← hw_t_29]; exact (Below.refl _ _).alloc (Nat.le_refl _) _
        have Ot_29 : Hid (w_t_29.ownsRow w.heap.size 54 5 (.slice (some ⟨wt_26.heap.size, 0, none⟩) 0 0) 0 []) := Lib.hid (by rw [← hw_t_29]; exact own_empty HBwt_26.out.size)
        have Dt_29_t_3 := Lib.hid (apart_fresh Ot_3.out)
        have Dt_29_out_3l0 := Lib.hid (apart_fresh Oout_3l0.out)
        have Dt_29_c0 := Lib.hid (Go.Proofs.YtkinlkmmelkdnaaDoor.GoC.apart_cur Kt_26.out)
        have HBw_t_29 := Lib.hid (grown_below HBwt_26.out bw_t_29)
        replace Ot_3 := Lib.hid (own_below Ot_3.out bw_t_29)
        replace Oout_3l0 := Lib.hid (own_below Oout_3l0.out bw_t_29)
        replace Kt_26 := Lib.hid (Go.Proofs.YtkinlkmmelkdnaaDoor.GoC.cur_below Kt_26.out bw_t_29)
        clear bw_t_29
        go_wp2_with fail
        go_loopg [3, 6] (fuel) (fun m_ v3_ v6_ wr => ∃ (out_3l1 : (List Go.Proofs.YtkinlkmmelkdnaaDoor.PShade.Shade)) (n_6l1 : Int) (c0_c0l1 : Go.Proofs.YtkinlkmmelkdnaaDoor.GoC.Tape) (Aout_3l1 : Option Addr) (cout_3l1 : Nat), v3_ = .slice Aout_3l1 out_3l1.length cout_3l1 ∧ v6_ = .int .i64 n_6l1 ∧ Hid (loopK (l1 ) m_ (out_3l1, n_6l1, c0_c0l1) (e1 ) = some (r, t_)) ∧ Hid (w.grownBy wr (Value.slice (some ⟨g0, 0, none⟩) 1 1).ownBlock) ∧ Hid (wr.ownsRow w.heap.size 54 5 (.slice Aout_3l1 out_3l1.length cout_3l1) out_3l1.length (Go.Proofs.YtkinlkmmelkdnaaDoor.PShade.flat out_3l1)) ∧ Hid (wr.ownsRow w.heap.size 9 1 (.slice (some ⟨w_t_1.heap.size, 0, none⟩) t_3.length 6) t_3.length (t_3.map Value.string)) ∧ Hid (Apart Aout_3l1 (some ⟨w_t_1.heap.size, 0, none⟩)) ∧ Hid (Apart Aout_3l1 (some ⟨g0, 0, none⟩)) ∧ Hid (Go.Proofs.YtkinlkmmelkdnaaDoor.GoC.CurIs wr bc0 g0 Ac0 cc0 c0_c0l1))
        case atStart => exact ⟨_, _, _, _, _, rfl, rfl, H, HBw_t_29, Ot_29, Ot_3, Lib.hid Dt_29_t_3.out, Lib.hid Dt_29_c0.out, Kt_26⟩
        case round =>
          obtain ⟨out_3l1, n_6l1, c0_c0l1, Aout_3l1, cout_3l1, rfl, rfl, H, HBwr1, Oout_3l1, Ot_3, Dout_3l1_t_3, Dout_3l1_c0, Kl1_0⟩ := hrel
          rename World => wr1
          cases gk with
          | zero => exact (loop_zero H).elim
          | succ m1 =>
            replace H := loop_succ H
            unfold l1 at H
            replace H := unp3_hid H
            replace H := bind2_hid H
            obtain ⟨t_34, t_34_tp, qt_34, H⟩ := H
            go_wp2_with fail
            go_at_call 73
            refine (Go.Proofs.YtkinlkmmelkdnaaDoor.GsL1CurPick.C (c0_c0l1) (2) (g0) (Ac0) (cc0) (bc0) _   Kl1_0 qt_34).mono ?_
            rintro e_t_34 wt_34 ⟨rfl, kt_34, gt_34⟩
            have Kt_34 := Lib.hid kt_34
            have Gt_34 : Hid (wr1.grownBy wt_34 (Value.slice (some ⟨g0, 0, none⟩) 1 1).ownBlock) := Lib.hid gt_34
            clear kt_34 gt_34
            have HBwt_34 := Lib.hid (Aid.grown_tr HBwr1.out Gt_34.out)
            replace Ot_3 := Lib.hid (own_other Ot_3.out Gt_34.out (Apart.symm Dt_3_c0.out))
            replace Oout_3l1 := Lib.hid (own_other Oout_3l1.out Gt_34.out (Apart.symm Dout_3l1_c0.out))
            clear Kl1_0 Gt_34
            replace H := let_hid H
            obtain ⟨t_35, ht_35, H⟩ := H
            replace H := let_hid H
            obtain ⟨t_36, ht_36, H⟩ := H
            cases t_36 with
            | false =>
              replace H := ite_f H
              replace H := app_hid H
              unfold e1 at H
              replace H := unp3_hid H
              cases ret_hid H
              go_wp2_with fail
              go_ret
              exact ⟨Aout_3l1, cout_3l1, rfl, Oout_3l1.out, Kt_34.out, HBwt_34.out⟩
            | true =>
              replace H := ite_t H
              replace H := let_hid H
              obtain ⟨t_40, ht_40, H⟩ := H
              replace H := guard_hid H
              obtain ⟨hl_t_41, H⟩ := H
              replace H := let_hid H
              obtain ⟨t_41, ht_41, H⟩ := H
              have ct_41 := slice_both (P := Tryd.prog) (t := 9) (k := .i64) (k' := .i64) Tryd.underlying9 ht_41 hl_t_41
              clear hl_t_41
              have hht_41 := Lib.hid ht_41
              clear ht_41
              replace H := let_hid H
              obtain ⟨t_43, ht_43, H⟩ := H
              replace H := let_hid H
              obtain ⟨t_44, ht_44, H⟩ := H
              obtain ⟨w_t_46, hw_t_46⟩ : ∃ x, wt_34.alloc (.cells #[.string t_41, .int .i64 t_44, .int .i64 10, .int .i64 0, .int .i64 60] 54) = x := ⟨_, rfl⟩
              have bw_t_46 : Below wt_34.heap.size wt_34 w_t_46 := by rw [← hw_t_46]; exact (Below.refl _ _).alloc (Nat.le_refl _) _
              have HBw_t_46 := Lib.hid (grown_below HBwt_34.out bw_t_46)
              replace Ot_3 := Lib.hid (own_below Ot_3.out bw_t_46)
              replace Oout_3l1 := Lib.hid (own_below Oout_3l1.out bw_t_46)
              replace Kt_34 := Lib.hid (Go.Proofs.YtkinlkmmelkdnaaDoor.GoC.cur_below Kt_34.out bw_t_46)
              clear bw_t_46
              replace H := guard_hid H
              obtain ⟨hlt_47, H⟩ := H
              replace H := let_hid H
              obtain ⟨t_47, ht_47, H⟩ := H
              have hht_47 := Lib.hid ht_47
              clear ht_47
              have hst_47 := HBw_t_46.out.size
              go_wp2_with (at_builtin; refine wpList_append_own_at _ rfl _ _ 49 rfl w.heap.size 54 i0_54 (.agg #[.string ByteArray.empty, .int .i64 0, .int .i64 0, .int .i64 0, .int .i64 0]) 5 48 Tryd.underlying49 hi_54 hz0_54 hz1_54 hz2_54 rfl (by decide) _ _ _ rfl Oout_3l1.out ⟨wt_34.heap.size, 0, none⟩ 1 1 [.string t_41, .int .i64 t_44, .int .i64 10, .int .i64 0, .int .i64 60] rfl rfl (news_new hw_t_46) (one_cells rfl) (by unfold maxLen; omega) (by omega) hst_47 ?_; intro vt_47 wt_47 ot_47 gt_47 zt_47 yt_47; clear zt_47; obtain ⟨qt_47, ct_47, rfl, pt_47⟩ := own_push hht_47.out (Go.Proofs.YtkinlkmmelkdnaaDoor.PShade.flat_snoc _ _) rfl ot_47; have Pt_47 := Lib.hid pt_47; have Yt_47 := Lib.hid yt_47; have Gt_47 := Lib.hid gt_47; clear ot_47 gt_47 pt_47 yt_47; refine stop_in ?_)
              refine stop_out ?_
              have HBwt_47 := Lib.hid (Go.Proofs.YtkinlkmmelkdnaaDoor.GoC.grown_new HBw_t_46.out Gt_47.out (Go.Proofs.YtkinlkmmelkdnaaDoor.GoC.own_ge Oout_3l1.out))
              clear hst_47
              have Dt_47_t_3 : Hid (Apart (some ⟨qt_47, 0, none⟩) _) := Lib.hid (apart_app Dout_3l1_t_3.out (fun a_ ha_ => (own_lt Ot_3.out a_ ha_).2) Yt_47.out)
              have Dt_47_c0 : Hid (Apart (some ⟨qt_47, 0, none⟩) _) := Lib.hid (apart_app Dout_3l1_c0.out (fun a_ ha_ => by cases ha_; exact (Go.Proofs.YtkinlkmmelkdnaaDoor.GoC.cur_lt Kt_34.out).2) Yt_47.out)
              replace Ot_3 := Lib.hid (own_other Ot_3.out Gt_47.out Dout_3l1_t_3.out)
              replace Kt_34 := Lib.hid (Go.Proofs.YtkinlkmmelkdnaaDoor.GoC.cur_otherO Kt_34.out Gt_47.out Dout_3l1_c0.out L0 Oout_3l1.out)
              clear Oout_3l1 Yt_47 Gt_47
              replace H := let_hid H
              obtain ⟨t_50, ht_50, H⟩ := H
              obtain rfl := ht_40.symm.trans ht_50
              replace H := app_hid H
              go_wp2_with fail
              go_roundg m1
              case measure => omega
              case rel => exact ⟨_, _, _, _, _, rfl, rfl, H, HBwt_47, Pt_47, Ot_3, Lib.hid Dt_47_t_3.out, Lib.hid Dt_47_c0.out, Kt_34⟩
    | succ m0 =>
      have hlt0 : k0 < t_3.length := by omega
      have hc0 : decide ((k0 : Int) < ((t_3.length : Nat) : Int)) = true := by simp; omega
      replace H := cnt_succ H
      unfold l0 at H
      replace H := unp2_hid H
      replace H := bind2_hid H
      obtain ⟨t_11, t_11_tp, qt_11, H⟩ := H
      go_wp2_with fail
      go_at_call 72
      refine (Go.Proofs.YtkinlkmmelkdnaaDoor.GsL1CurOne.C (c0_c0l0) (2) (g0) (Ac0) (cc0) (bc0) _   Kl0_0 qt_11).mono ?_
      rintro e_t_11 wt_11 ⟨rfl, kt_11, gt_11⟩
      have Kt_11 := Lib.hid kt_11
      have Gt_11 : Hid (wr0.grownBy wt_11 (Value.slice (some ⟨g0, 0, none⟩) 1 1).ownBlock) := Lib.hid gt_11
      clear kt_11 gt_11
      have HBwt_11 := Lib.hid (Aid.grown_tr HBwr0.out Gt_11.out)
      replace Ot_3 := Lib.hid (own_other Ot_3.out Gt_11.out (Apart.symm Dt_3_c0.out))
      replace Oout_3l0 := Lib.hid (own_other Oout_3l0.out Gt_11.out (Apart.symm Dout_3l0_c0.out))
      clear Kl0_0 Gt_11
      cases t_11 with
      | false =>
        replace H := ite_f H
        replace H := app_hid H
        go_wp2_with fail
        go_roundg m0
        case measure => omega
        case rel => exact ⟨k0 + 1, _, _, _, _, by omega, by go_num, rfl, H, HBwt_11, Oout_3l0, Ot_3, Lib.hid Dout_3l0_t_3.out, Lib.hid Dout_3l0_c0.out, Kt_11⟩
      | true =>
        replace H := ite_t H
        replace H := idx_hid H
        obtain ⟨nt_16, yt_16, et_16, lt_16, gt_16, H⟩ := H
        obtain rfl : k0 = nt_16 := by omega
        clear et_16
        obtain ⟨ab_t_16, ao_t_16, zt_16, At_16, z_t_16, ct_16_0⟩ := strs_at (own_cells Ot_3.out) (k := k0) (by omega)
        obtain rfl := Option.some.inj (gt_16.out.symm.trans z_t_16)
        simp only [Option.some.injEq, Addr.mk.injEq] at At_16
        obtain ⟨rfl, rfl, _⟩ := At_16
        clear z_t_16
        simp only [Nat.zero_add] at ct_16_0
        have b0t_16 : (0 : Int) ≤ (k0 : Int) := by omega
        have b1t_16 : (k0 : Int) < ((t_3.length : Nat) : Int) := by omega
        have b2t_16 : ((k0 : Int)).toNat = k0 := by omega
        replace H := bind2_hid H
        obtain ⟨t_18, t_18_tp, qt_18, H⟩ := H
        obtain ⟨t_18_name, t_18_hue, t_18_width, t_18_dark, t_18_light⟩ := t_18
        replace H := unShade_hid H
        go_wp2_with fail
        go_at_call 103
        refine (Go.Proofs.YtkinlkmmelkdnaaDoor.GsL1CurShade7.C (t_11_tp) (yt_16) (g0) (Ac0) (cc0) (bc0) _   Kt_11 qt_18).mono ?_
        rintro e_t_18 wt_18 ⟨rfl, kt_18, gt_18⟩
        unfold Go.Proofs.YtkinlkmmelkdnaaDoor.PShade.Shade.val
        have Kt_18 := Lib.hid kt_18
        have Gt_18 : Hid (wt_11.grownBy wt_18 (Value.slice (some ⟨g0, 0, none⟩) 1 1).ownBlock) := Lib.hid gt_18
        clear kt_18 gt_18
        have HBwt_18 := Lib.hid (Aid.grown_tr HBwt_11.out Gt_18.out)
        replace ct_16_0 := cell_other ct_16_0 Gt_18.out (Apart.symm Dt_3_c0.out)
        replace Ot_3 := Lib.hid (own_other Ot_3.out Gt_18.out (Apart.symm Dt_3_c0.out))
        replace Oout_3l0 := Lib.hid (own_other Oout_3l0.out Gt_18.out (Apart.symm Dout_3l0_c0.out))
        clear Kt_11 Gt_18
        obtain ⟨w_t_19, hw_t_19⟩ : ∃ x, wt_18.alloc (.cells #[.string t_18_name, .int .i64 t_18_hue, .int .i64 t_18_width, .int .i64 t_18_dark, .int .i64 t_18_light] 54) = x := ⟨_, rfl⟩
        have bw_t_19 : Below wt_18.heap.size wt_18 w_t_19 := by rw [← hw_t_19]; exact (Below.refl _ _).alloc (Nat.le_refl _) _
        have HBw_t_19 := Lib.hid (grown_below HBwt_18.out bw_t_19)
        have ct_16_0__218 := cell_below bw_t_19 ct_16_0
        replace Ot_3 := Lib.hid (own_below Ot_3.out bw_t_19)
        replace Oout_3l0 := Lib.hid (own_below Oout_3l0.out bw_t_19)
        replace Kt_18 := Lib.hid (Go.Proofs.YtkinlkmmelkdnaaDoor.GoC.cur_below Kt_18.out bw_t_19)
        clear bw_t_19
        replace H := guard_hid H
        obtain ⟨hlt_20, H⟩ := H
        replace H := let_hid H
        obtain ⟨t_20, ht_20, H⟩ := H
        have hht_20 := Lib.hid ht_20
        clear ht_20
        have hst_20 := HBw_t_19.out.size
        go_wp2_with (at_builtin; refine wpList_append_own_at _ rfl _ _ 49 rfl w.heap.size 54 i0_54 (.agg #[.string ByteArray.empty, .int .i64 0, .int .i64 0, .int .i64 0, .int .i64 0]) 5 48 Tryd.underlying49 hi_54 hz0_54 hz1_54 hz2_54 rfl (by decide) _ _ _ rfl Oout_3l0.out ⟨wt_18.heap.size, 0, none⟩ 1 1 [.string t_18_name, .int .i64 t_18_hue, .int .i64 t_18_width, .int .i64 t_18_dark, .int .i64 t_18_light] rfl rfl (news_new hw_t_19) (one_cells rfl) (by unfold maxLen; omega) (by omega) hst_20 ?_; intro vt_20 wt_20 ot_20 gt_20 zt_20 yt_20; clear zt_20; obtain ⟨qt_20, ct_20, rfl, pt_20⟩ := own_push hht_20.out (Go.Proofs.YtkinlkmmelkdnaaDoor.PShade.flat_snoc _ _) rfl ot_20; have Pt_20 := Lib.hid pt_20; have Yt_20 := Lib.hid yt_20; have Gt_20 := Lib.hid gt_20; clear ot_20 gt_20 pt_20 yt_20; refine stop_in ?_)
        refine stop_out ?_
        have HBwt_20 := Lib.hid (Go.Proofs.YtkinlkmmelkdnaaDoor.GoC.grown_new HBw_t_19.out Gt_20.out (Go.Proofs.YtkinlkmmelkdnaaDoor.GoC.own_ge Oout_3l0.out))
        clear hst_20
        have Dt_20_t_3 : Hid (Apart (some ⟨qt_20, 0, none⟩) _) := Lib.hid (apart_app Dout_3l0_t_3.out (fun a_ ha_ => (own_lt Ot_3.out a_ ha_).2) Yt_20.out)
        have Dt_20_c0 : Hid (Apart (some ⟨qt_20, 0, none⟩) _) := Lib.hid (apart_app Dout_3l0_c0.out (fun a_ ha_ => by cases ha_; exact (Go.Proofs.YtkinlkmmelkdnaaDoor.GoC.cur_lt Kt_18.out).2) Yt_20.out)
        replace ct_16_0__218 := cell_other ct_16_0__218 Gt_20.out Dout_3l0_t_3.out
        replace Ot_3 := Lib.hid (own_other Ot_3.out Gt_20.out Dout_3l0_t_3.out)
        replace Kt_18 := Lib.hid (Go.Proofs.YtkinlkmmelkdnaaDoor.GoC.cur_otherO Kt_18.out Gt_20.out Dout_3l0_c0.out L0 Oout_3l0.out)
        clear ct_16_0
        clear Oout_3l0 Yt_20 Gt_20
        replace H := app_hid H
        go_wp2_with fail
        go_roundg m0
        case measure => omega
        case rel => exact ⟨k0 + 1, _, _, _, _, by omega, by go_num, rfl, H, HBwt_20, Pt_20, Ot_3, Lib.hid Dt_20_t_3.out, Lib.hid Dt_20_c0.out, Kt_18⟩
end Go.Proofs.YtkinlkmmelkdnaaDoor.GsL1CurShades7

/- (*loop.example/g01062/spec.l1Cur).light7 as a plain function, and the contract of the program's: where the plain one has an answer, the program has it. Conditions: slices read as lists. -/
namespace Go.Proofs.YtkinlkmmelkdnaaDoor.GsL1CurLight7
set_option linter.unusedVariables false
set_option linter.unusedSimpArgs false
open Go.RowKit
open Go.Proofs.YtkinlkmmelkdnaaDoor.Rowed Go.Proofs.YtkinlkmmelkdnaaDoor.Turn Go.Proofs.YtkinlkmmelkdnaaDoor.Aid Go.Proofs.YtkinlkmmelkdnaaDoor.GoP Go.Proofs.YtkinlkmmelkdnaaDoor.GoM

def P (c : Go.Proofs.YtkinlkmmelkdnaaDoor.GoC.Tape) : Option (Int × Go.Proofs.YtkinlkmmelkdnaaDoor.GoC.Tape) :=
  letK ([0, 30, 49, 50, 51, 70, 100, (-1), 101]) fun (t_2 : (List Int)) =>
  bind2 (Go.Proofs.YtkinlkmmelkdnaaDoor.GsL1CurPick.P c 24) fun (t_4 : Int) (t_4_tp : Go.Proofs.YtkinlkmmelkdnaaDoor.GoC.Tape) =>
  letK (IntKind.i64.wrap (Int.tdiv t_4 11)) fun (t_5 : Int) =>
  letK (IntKind.i64.wrap (7 + t_5)) fun (t_6 : Int) =>
  guardK ((0 : Int) ≤ t_6 ∧ (t_6 : Int) ≤ (t_2.length : Int)) <|
  letK (List.take (Int.toNat t_6) t_2) fun (t_7 : (List Int)) =>
  bind2 (Go.Proofs.YtkinlkmmelkdnaaDoor.GsL1CurAmong.P t_4_tp t_7) fun (t_8 : Int) (t_8_tp : Go.Proofs.YtkinlkmmelkdnaaDoor.GoC.Tape) =>
  some (t_8, t_8_tp)

set_option maxRecDepth 100000 in
set_option maxHeartbeats 2000000 in
theorem C (c : Go.Proofs.YtkinlkmmelkdnaaDoor.GoC.Tape)   (g0 : Nat) (Ac0 : Option Addr) (cc0 : Nat) (bc0 : Nat) (w : World)   (K0 : Hid (Go.Proofs.YtkinlkmmelkdnaaDoor.GoC.CurIs w bc0 g0 Ac0 cc0 c)) {r : Int} {t_ : Go.Proofs.YtkinlkmmelkdnaaDoor.GoC.Tape} (H : Hid (P c = some (r, t_))) :
    Calls Tryd.prog 74 #[.pointer (some ⟨g0, 0, none⟩)] w (fun e w' => e = .returned (.int .i64 r) ∧ Go.Proofs.YtkinlkmmelkdnaaDoor.GoC.CurIs w' bc0 g0 Ac0 cc0 t_ ∧ w.grownBy w' (Value.slice (some ⟨g0, 0, none⟩) 1 1).ownBlock) := by
  have HB := Lib.hid (Aid.grown_refl w (Value.slice (some ⟨g0, 0, none⟩) 1 1).ownBlock)
  unfold P at H
  have L0 : bc0 ≤ w.heap.size := by have := Go.Proofs.YtkinlkmmelkdnaaDoor.GoC.cur_lt K0.out; omega
  obtain ⟨i0_3, hi_3, hz0_3, hz1_3, hz2_3⟩ := Aid.info_parts (P := Tryd.prog) (T := 3) (z := .int .i64 0) (s := 1) (b := 8) (by kernel_rfl)
  go_enter Tryd.func74, Tryd.ntmps74
  replace H := let_hid H
  obtain ⟨t_2, ht_2, H⟩ := H
  obtain ⟨w_t_2, hw_t_2⟩ : ∃ x, w.alloc (.cells #[.int .i64 0, .int .i64 30, .int .i64 49, .int .i64 50, .int .i64 51, .int .i64 70, .int .i64 100, .int .i64 (-1), .int .i64 101] 3) = x := ⟨_, rfl⟩
  have bw_t_2 : Below w.heap.size w w_t_2 := by rw [← hw_t_2]; exact (Below.refl _ _).alloc (Nat.le_refl _) _
  have hs_t_2 := HB.out.size
  have nt_2 : t_2.length = 9 := by rw [← ht_2]; rfl
  have Ot_2 : Hid (w_t_2.ownsRow w.heap.size 3 1 (.slice (some ⟨w.heap.size, 0, none⟩) 9 9) 9 (Go.Proofs.YtkinlkmmelkdnaaDoor.HelpInt.iv t_2)) := by
    rw [← hw_t_2, ← ht_2]
    have e_ : ([.int .i64 0, .int .i64 30, .int .i64 49, .int .i64 50, .int .i64 51, .int .i64 70, .int .i64 100, .int .i64 (-1), .int .i64 101] : List Value) = (Go.Proofs.YtkinlkmmelkdnaaDoor.HelpInt.iv ([0, 30, 49, 50, 51, 70, 100, (-1), 101] : List Int)) := rfl
    exact Lib.hid (own_laid (n := 9) hs_t_2 e_ rfl (by unfold maxLen; omega))
  clear hs_t_2
  have hht_2 := Lib.hid ht_2
  clear ht_2
  replace nt_2 := Lib.hid nt_2
  have Dt_2_c0 := Lib.hid (Go.Proofs.YtkinlkmmelkdnaaDoor.GoC.apart_cur K0.out)
  have HBw_t_2 := Lib.hid (grown_below HB.out bw_t_2)
  replace K0 := Lib.hid (Go.Proofs.YtkinlkmmelkdnaaDoor.GoC.cur_below K0.out bw_t_2)
  clear bw_t_2
  replace H := bind2_hid H
  obtain ⟨t_4, t_4_tp, qt_4, H⟩ := H
  go_wp2_with fail
  go_at_call 73
  refine (Go.Proofs.YtkinlkmmelkdnaaDoor.GsL1CurPick.C (c) (24) (g0) (Ac0) (cc0) (bc0) _   K0 qt_4).mono ?_
  rintro e_t_4 wt_4 ⟨rfl, kt_4, gt_4⟩
  have Kt_4 := Lib.hid kt_4
  have Gt_4 : Hid (w_t_2.grownBy wt_4 (Value.slice (some ⟨g0, 0, none⟩) 1 1).ownBlock) := Lib.hid gt_4
  clear kt_4 gt_4
  have HBwt_4 := Lib.hid (Aid.grown_tr HBw_t_2.out Gt_4.out)
  replace Ot_2 := Lib.hid (own_other Ot_2.out Gt_4.out (Apart.symm Dt_2_c0.out))
  clear K0 Gt_4
  replace H := let_hid H
  obtain ⟨t_5, ht_5, H⟩ := H
  replace H := let_hid H
  obtain ⟨t_6, ht_6, H⟩ := H
  replace H := guard_hid H
  obtain ⟨hl_t_7, H⟩ := H
  replace H := let_hid H
  obtain ⟨t_7, ht_7, H⟩ := H
  have dt_7 : ((Go.Proofs.YtkinlkmmelkdnaaDoor.HelpInt.iv t_2)).take (Int.toNat t_6 * 1) = (Go.Proofs.YtkinlkmmelkdnaaDoor.HelpInt.iv t_7) := by
    rw [← ht_7]
    simp [Go.Proofs.YtkinlkmmelkdnaaDoor.HelpInt.iv, List.map_take]
  have nt_7 : Int.toNat t_6 = t_7.length := by rw [← ht_7, List.length_take]; have h_ := nt_2.out; omega
  replace hl_t_7 : (0 : Int) ≤ t_6 ∧ (t_6 : Int) ≤ ((9 : Nat) : Int) := by have h_ := nt_2.out; omega
  obtain ⟨rt_7, Ot_7⟩ := slice_head (P := Tryd.prog) (t := 68) (e := 3) (k := .i64) (by kernel_rfl) (by kernel_rfl) hi_3 hz1_3 Ot_2.out hl_t_7 nt_7 dt_7
  replace Ot_7 := Lib.hid Ot_7
  clear dt_7 nt_7 hl_t_7
  have hht_7 := Lib.hid ht_7
  clear ht_7
  replace H := bind2_hid H
  obtain ⟨t_8, t_8_tp, qt_8, H⟩ := H
  go_wp2_with fail
  go_at_call 46
  refine (Go.Proofs.YtkinlkmmelkdnaaDoor.GsL1CurAmong.C (t_4_tp) (t_7) (some ⟨w.heap.size, 0, none⟩) 9 (g0) (Ac0) (cc0) (bc0) _   (Lib.hid (own_cells Ot_7.out)) (Lib.hid (own_max Ot_7.out)) Kt_4 (Lib.hid (fun _ => Dt_2_c0.out)) qt_8).mono ?_
  rintro e_t_8 wt_8 ⟨rfl, kt_8, gt_8⟩
  have Kt_8 := Lib.hid kt_8
  have Gt_8 : Hid (wt_4.grownBy wt_8 (Value.slice (some ⟨g0, 0, none⟩) 1 1).ownBlock) := Lib.hid gt_8
  clear kt_8 gt_8
  have HBwt_8 := Lib.hid (Aid.grown_tr HBwt_4.out Gt_8.out)
  replace Ot_7 := Lib.hid (own_other Ot_7.out Gt_8.out (Apart.symm Dt_2_c0.out))
  clear Kt_4 Gt_8
  cases ret_hid H
  go_wp2_with fail
  go_ret
  exact ⟨rfl, Kt_8.out, HBwt_8.out⟩
end Go.Proofs.YtkinlkmmelkdnaaDoor.GsL1CurLight7

/- loop.example/g01062/spec.DrawCertainHues as a plain function, and the contract of the program's: where the plain one has an answer, the program has it. Conditions: slices read as lists. -/
namespace Go.Proofs.YtkinlkmmelkdnaaDoor.GsDrawCertainHues
set_option linter.unusedVariables false
set_option linter.unusedSimpArgs false
open Go.RowKit
open Go.Proofs.YtkinlkmmelkdnaaDoor.Rowed Go.Proofs.YtkinlkmmelkdnaaDoor.Turn Go.Proofs.YtkinlkmmelkdnaaDoor.Aid Go.Proofs.YtkinlkmmelkdnaaDoor.GoP Go.Proofs.YtkinlkmmelkdnaaDoor.GoM

def j0 (t_8 : (List Go.Proofs.YtkinlkmmelkdnaaDoor.PShade.Shade)) (s : ByteArray × Go.Proofs.YtkinlkmmelkdnaaDoor.GoC.Tape) : Option ((List Go.Proofs.YtkinlkmmelkdnaaDoor.PShade.Shade) × ByteArray × Int) :=
  unp2 s fun name_7j0 t_5_c0j0 =>
  bind2 (Go.Proofs.YtkinlkmmelkdnaaDoor.GsL1CurLight7.P t_5_c0j0) fun (t_35 : Int) (t_35_tp : Go.Proofs.YtkinlkmmelkdnaaDoor.GoC.Tape) =>
  some (t_8, name_7j0, t_35)

def P (fuel : Nat) (tapes : List Int → Go.Proofs.YtkinlkmmelkdnaaDoor.GoC.Tape) (code : (List Int)) : Option ((List Go.Proofs.YtkinlkmmelkdnaaDoor.PShade.Shade) × ByteArray × Int) :=
  letK (tapes code) fun (t_5 : Go.Proofs.YtkinlkmmelkdnaaDoor.GoC.Tape) =>
  bind2 (Go.Proofs.YtkinlkmmelkdnaaDoor.GsL1CurShades7.P fuel t_5) fun (t_8 : (List Go.Proofs.YtkinlkmmelkdnaaDoor.PShade.Shade)) (t_8_tp : Go.Proofs.YtkinlkmmelkdnaaDoor.GoC.Tape) =>
  letK ([(⟨#[114, 101, 100]⟩ : ByteArray), (⟨#[122, 105, 110, 99]⟩ : ByteArray), (⟨#[]⟩ : ByteArray)]) fun (t_11 : (List ByteArray)) =>
  bind2 (Go.Proofs.YtkinlkmmelkdnaaDoor.GsL1CurOf.P t_8_tp t_11) fun (t_12 : ByteArray) (t_12_tp : Go.Proofs.YtkinlkmmelkdnaaDoor.GoC.Tape) =>
  letK (decide (0 < (t_8.length : Int))) fun (t_18 : Bool) =>
  joinK (fun (st_23 : Bool × Go.Proofs.YtkinlkmmelkdnaaDoor.GoC.Tape) => unp2 st_23 fun t_23 t_23_tp =>
  iteK t_23
  (bind2 (Go.Proofs.YtkinlkmmelkdnaaDoor.GsL1CurPick.P t_23_tp (t_8.length : Int)) fun (t_27 : Int) (t_27_tp : Go.Proofs.YtkinlkmmelkdnaaDoor.GoC.Tape) =>
  Option.bind (idx t_8 t_27) fun (yt_28 : Go.Proofs.YtkinlkmmelkdnaaDoor.PShade.Shade) =>
  unShade yt_28 fun (t_28_name : ByteArray) (t_28_hue : Int) (t_28_width : Int) (t_28_dark : Int) (t_28_light : Int) =>
  j0 t_8 (t_28_name, t_27_tp))
  (j0 t_8 (t_12, t_23_tp))) fun jt_23 => iteK t_18 (bind2 (Go.Proofs.YtkinlkmmelkdnaaDoor.GsL1CurOne.P t_12_tp 10) fun (t_21 : Bool) (t_21_tp : Go.Proofs.YtkinlkmmelkdnaaDoor.GoC.Tape) =>
  letK (!t_21) fun (t_22 : Bool) =>
  appK jt_23 (t_22, t_21_tp)) (appK jt_23 (false, t_12_tp))

set_option maxRecDepth 100000 in
set_option maxHeartbeats 2000000 in
theorem C (fuel : Nat) (tapes : List Int → Go.Proofs.YtkinlkmmelkdnaaDoor.GoC.Tape) (code : (List Int)) (A0 : Option Addr) (c0 : Nat)  (w : World) (HE : Hid (Go.Proofs.YtkinlkmmelkdnaaDoor.GoC.Tells tapes)) (M0 : Hid (Cells w 1 A0 code.length (Go.Proofs.YtkinlkmmelkdnaaDoor.GoC.u8s code))) (N0 : Hid (code.length ≤ 9223372036854775807)) (V0 : Hid (∀ z ∈ code, 0 ≤ z ∧ z ≤ 255))  {r0 : (List Go.Proofs.YtkinlkmmelkdnaaDoor.PShade.Shade)} {r1 : ByteArray} {r2 : Int} (H : Hid (P fuel tapes code = some (r0, r1, r2))) :
    Calls Tryd.prog 31 #[.slice A0 code.length c0] w (fun e w' => ∃ A_r0 c_r0, e = .returned (.tuple #[.slice A_r0 r0.length c_r0, .string r1, .int .i64 r2]) ∧ w'.ownsRow w.heap.size 54 5 (.slice A_r0 r0.length c_r0) r0.length (Go.Proofs.YtkinlkmmelkdnaaDoor.PShade.flat r0) ∧ Below w.heap.size w w') := by
  have HB := Lib.hid (Below.refl w.heap.size w)
  unfold P at H
  have N0o := N0.out
  go_enter Tryd.func31, Tryd.ntmps31
  replace H := let_hid H
  obtain ⟨t_5, ht_5, H⟩ := H
  obtain ⟨w_t_5, hw_t_5⟩ : ∃ x, w.alloc (.cells #[.slice A0 code.length c0, .int .i64 0, .int .u64 0] 65) = x := ⟨_, rfl⟩
  have bw_t_5 : Below w.heap.size w w_t_5 := by rw [← hw_t_5]; exact (Below.refl _ _).alloc (Nat.le_refl _) _
  have Kt_5 : Hid (Go.Proofs.YtkinlkmmelkdnaaDoor.GoC.CurIs w_t_5 w.heap.size w.heap.size A0 c0 t_5) := Lib.hid (by rw [← hw_t_5, ← ht_5]; exact Go.Proofs.YtkinlkmmelkdnaaDoor.GoC.cur_new HB.out.size (Cells.below M0.out HB.out) (fun a_ ha_ h0_ => by subst ha_; exact Go.Proofs.YtkinlkmmelkdnaaDoor.GoC.cells_lt M0.out (by unfold Go.Proofs.YtkinlkmmelkdnaaDoor.GoC.u8s; rw [List.length_map]; exact h0_)) (HE.out.2.2 code V0.out N0.out))
  have hht_5 := Lib.hid ht_5
  clear ht_5
  have HBw_t_5 := Lib.hid (Below.step HB.out bw_t_5)
  clear bw_t_5
  replace H := bind2_hid H
  obtain ⟨t_8, t_8_tp, qt_8, H⟩ := H
  go_wp2_with fail
  go_at_call 70
  refine (Go.Proofs.YtkinlkmmelkdnaaDoor.GsL1CurShades7.C fuel (t_5) (w.heap.size) (A0) (c0) (w.heap.size) _   Kt_5 qt_8).mono ?_
  rintro e_t_8 wt_8 ⟨At_8, ct_8, rfl, ot_8, kt_8, gt_8⟩
  have Dt_8_t_5 := Lib.hid (Go.Proofs.YtkinlkmmelkdnaaDoor.GoC.apart_callcur ot_8 Kt_5.out)
  have Ot_8 := Lib.hid (own_lower ot_8 HBw_t_5.out.size)
  clear ot_8
  have Kt_8 := Lib.hid kt_8
  have Gt_8 : Hid (w_t_5.grownBy wt_8 (Value.slice (some ⟨w.heap.size, 0, none⟩) 1 1).ownBlock) := Lib.hid gt_8
  clear kt_8 gt_8
  have HBwt_8 := Lib.hid (Go.Proofs.YtkinlkmmelkdnaaDoor.GoC.below_cur HBw_t_5.out Gt_8.out HBw_t_5.out.size (Go.Proofs.YtkinlkmmelkdnaaDoor.GoC.cur_lt Kt_5.out).1)
  clear Kt_5 Gt_8
  replace H := let_hid H
  obtain ⟨t_11, ht_11, H⟩ := H
  obtain ⟨w_t_11, hw_t_11⟩ : ∃ x, wt_8.alloc (.cells #[.string (⟨#[114, 101, 100]⟩ : ByteArray), .string (⟨#[122, 105, 110, 99]⟩ : ByteArray), .string (⟨#[]⟩ : ByteArray)] 9) = x := ⟨_, rfl⟩
  have bw_t_11 : Below wt_8.heap.size wt_8 w_t_11 := by rw [← hw_t_11]; exact (Below.refl _ _).alloc (Nat.le_refl _) _
  have hs_t_11 := HBwt_8.out.size
  have nt_11 : t_11.length = 3 := by rw [← ht_11]; rfl
  have Ot_11 : Hid (w_t_11.ownsRow w.heap.size 9 1 (.slice (some ⟨wt_8.heap.size, 0, none⟩) 3 3) 3 (t_11.map Value.string)) := by
    rw [← hw_t_11, ← ht_11]
    have e_ : ([.string (⟨#[114, 101, 100]⟩ : ByteArray), .string (⟨#[122, 105, 110, 99]⟩ : ByteArray), .string (⟨#[]⟩ : ByteArray)] : List Value) = (([(⟨#[114, 101, 100]⟩ : ByteArray), (⟨#[122, 105, 110, 99]⟩ : ByteArray), (⟨#[]⟩ : ByteArray)] : List ByteArray).map Value.string) := rfl
    exact Lib.hid (own_laid (n := 3) hs_t_11 e_ rfl (by unfold maxLen; omega))
  clear hs_t_11
  have hht_11 := Lib.hid ht_11
  clear ht_11
  replace nt_11 := Lib.hid nt_11
  have Dt_11_t_8 := Lib.hid (apart_fresh Ot_8.out)
  have Dt_11_t_5 := Lib.hid (Go.Proofs.YtkinlkmmelkdnaaDoor.GoC.apart_cur Kt_8.out)
  have HBw_t_11 := Lib.hid (Below.step HBwt_8.out bw_t_11)
  replace Ot_8 := Lib.hid (own_below Ot_8.out bw_t_11)
  replace Kt_8 := Lib.hid (Go.Proofs.YtkinlkmmelkdnaaDoor.GoC.cur_below Kt_8.out bw_t_11)
  clear bw_t_11
  replace H := bind2_hid H
  obtain ⟨t_12, t_12_tp, qt_12, H⟩ := H
  go_wp2_with fail
  have hc_ := nt_11.out
  have hv_ : (Value.slice (some ⟨wt_8.heap.size, 0, none⟩) 3 3 : Value) = Value.slice (some ⟨wt_8.heap.size, 0, none⟩) t_11.length 3 := by rw [hc_]
  try rw [hv_]
  replace Ot_11 := Lib.hid (own_len hc_ Ot_11.out)
  clear hc_ hv_
  go_wp2_with fail
  go_at_call 71
  refine (Go.Proofs.YtkinlkmmelkdnaaDoor.GsL1CurOf.C (t_8_tp) (t_11) (some ⟨wt_8.heap.size, 0, none⟩) 3 (w.heap.size) (A0) (c0) (w.heap.size) _   (Lib.hid (own_cells Ot_11.out)) (Lib.hid (own_max Ot_11.out)) Kt_8 (Lib.hid (fun _ => Dt_11_t_5.out)) qt_12).mono ?_
  rintro e_t_12 wt_12 ⟨rfl, kt_12, gt_12⟩
  have Kt_12 := Lib.hid kt_12
  have Gt_12 : Hid (w_t_11.grownBy wt_12 (Value.slice (some ⟨w.heap.size, 0, none⟩) 1 1).ownBlock) := Lib.hid gt_12
  clear kt_12 gt_12
  have HBwt_12 := Lib.hid (Go.Proofs.YtkinlkmmelkdnaaDoor.GoC.below_cur HBw_t_11.out Gt_12.out HBw_t_11.out.size (Go.Proofs.YtkinlkmmelkdnaaDoor.GoC.cur_lt Kt_8.out).1)
  replace Ot_8 := Lib.hid (own_other Ot_8.out Gt_12.out (Apart.symm Dt_8_t_5.out))
  replace Ot_11 := Lib.hid (own_other Ot_11.out Gt_12.out (Apart.symm Dt_11_t_5.out))
  clear Kt_8 Gt_12
  replace H := let_hid H
  obtain ⟨t_18, ht_18, H⟩ := H
  replace H := join_hid H
  cases t_18 with
  | false =>
    have nht_18 : ¬ (0 < t_8.length) := by have := of_decide_eq_false ht_18; omega
    replace H := ite_f H
    replace H := app_hid H
    replace H := unp2_hid H
    replace H := ite_f H
    unfold j0 at H
    replace H := unp2_hid H
    replace H := bind2_hid H
    obtain ⟨t_35, t_35_tp, qt_35, H⟩ := H
    go_wp2_with fail
    go_at_call 74
    refine (Go.Proofs.YtkinlkmmelkdnaaDoor.GsL1CurLight7.C (t_12_tp) (w.heap.size) (A0) (c0) (w.heap.size) _   Kt_12 qt_35).mono ?_
    rintro e_t_35 wt_35 ⟨rfl, kt_35, gt_35⟩
    have Kt_35 := Lib.hid kt_35
    have Gt_35 : Hid (wt_12.grownBy wt_35 (Value.slice (some ⟨w.heap.size, 0, none⟩) 1 1).ownBlock) := Lib.hid gt_35
    clear kt_35 gt_35
    have HBwt_35 := Lib.hid (Go.Proofs.YtkinlkmmelkdnaaDoor.GoC.below_cur HBwt_12.out Gt_35.out HBwt_12.out.size (Go.Proofs.YtkinlkmmelkdnaaDoor.GoC.cur_lt Kt_12.out).1)
    replace Ot_8 := Lib.hid (own_other Ot_8.out Gt_35.out (Apart.symm Dt_8_t_5.out))
    replace Ot_11 := Lib.hid (own_other Ot_11.out Gt_35.out (Apart.symm Dt_11_t_5.out))
    clear Kt_12 Gt_35
    cases ret_hid H
    go_wp2_with fail
    go_ret3
    exact ⟨At_8, ct_8, rfl, Ot_8.out, HBwt_35.out⟩
  | true =>
    have nht_18 : 0 < t_8.length := by have := of_decide_eq_true ht_18; omega
    replace H := ite_t H
    replace H := bind2_hid H
    obtain ⟨t_21, t_21_tp, qt_21, H⟩ := H
    go_wp2_with fail
    go_at_call 72
    refine (Go.Proofs.YtkinlkmmelkdnaaDoor.GsL1CurOne.C (t_12_tp) (10) (w.heap.size) (A0) (c0) (w.heap.size) _   Kt_12 qt_21).mono ?_
    rintro e_t_21 wt_21 ⟨rfl, kt_21, gt_21⟩
    have Kt_21 := Lib.hid kt_21
    have Gt_21 : Hid (wt_12.grownBy wt_21 (Value.slice (some ⟨w.heap.size, 0, none⟩) 1 1).ownBlock) := Lib.hid gt_21
    clear kt_21 gt_21
    have HBwt_21 := Lib.hid (Go.Proofs.YtkinlkmmelkdnaaDoor.GoC.below_cur HBwt_12.out Gt_21.out HBwt_12.out.size (Go.Proofs.YtkinlkmmelkdnaaDoor.GoC.cur_lt Kt_12.out).1)
    replace Ot_8 := Lib.hid (own_other Ot_8.out Gt_21.out (Apart.symm Dt_8_t_5.out))
    replace Ot_11 := Lib.hid (own_other Ot_11.out Gt_21.out (Apart.symm Dt_11_t_5.out))
    clear Kt_12 Gt_21
    cases t_21 with
    | false =>
      replace H := let_hid H
      obtain ⟨t_22, ht_22, H⟩ := H
      obtain rfl : t_22 = true := ht_22.symm
      replace H := app_hid H
      replace H := unp2_hid H
      replace H := ite_t H
      replace H := bind2_hid H
      obtain ⟨t_27, t_27_tp, qt_27, H⟩ := H
      go_wp2_with fail
      go_at_call 73
      refine (Go.Proofs.YtkinlkmmelkdnaaDoor.GsL1CurPick.C (t_21_tp) ((t_8.length : Int)) (w.heap.size) (A0) (c0) (w.heap.size) _   Kt_21 qt_27).mono ?_
      rintro e_t_27 wt_27 ⟨rfl, kt_27, gt_27⟩
      have Kt_27 := Lib.hid kt_27
      have Gt_27 : Hid (wt_21.grownBy wt_27 (Value.slice (some ⟨w.heap.size, 0, none⟩) 1 1).ownBlock) := Lib.hid gt_27
      clear kt_27 gt_27
      have HBwt_27 := Lib.hid (Go.Proofs.YtkinlkmmelkdnaaDoor.GoC.below_cur HBwt_21.out Gt_27.out HBwt_21.out.size (Go.Proofs.YtkinlkmmelkdnaaDoor.GoC.cur_lt Kt_21.out).1)
      replace Ot_8 := Lib.hid (own_other Ot_8.out Gt_27.out (Apart.symm Dt_8_t_5.out))
      replace Ot_11 := Lib.hid (own_other Ot_11.out Gt_27.out (Apart.symm Dt_11_t_5.out))
      clear Kt_21 Gt_27
      replace H := idx_hid H
      obtain ⟨nt_28, yt_28, et_28, lt_28, gt_28, H⟩ := H
      subst et_28
      obtain ⟨t_28_name, t_28_hue, t_28_width, t_28_dark, t_28_light⟩ := yt_28
      replace H := unShade_hid H
      obtain ⟨qt_28, Qt_28⟩ := own_some Ot_8.out (by omega)
      subst Qt_28
      obtain ⟨ab_t_28, ao_t_28, zt_28, At_28, z_t_28, ct_28_0, ct_28_1, ct_28_2, ct_28_3, ct_28_4⟩ := Go.Proofs.YtkinlkmmelkdnaaDoor.OShade.at_ (own_cells Ot_8.out) (k := nt_28) (by omega)
      obtain rfl := Option.some.inj (gt_28.out.symm.trans z_t_28)
      simp only [Option.some.injEq, Addr.mk.injEq] at At_28
      obtain ⟨rfl, rfl, _⟩ := At_28
      clear z_t_28
      simp only [Nat.zero_add] at ct_28_0 ct_28_1 ct_28_2 ct_28_3 ct_28_4
      have b0t_28 : (0 : Int) ≤ (nt_28 : Int) := by omega
      have b1t_28 : (nt_28 : Int) < ((t_8.length : Nat) : Int) := by omega
      have b2t_28 : ((nt_28 : Int)).toNat = nt_28 := by omega
      unfold j0 at H
      replace H := unp2_hid H
      replace H := bind2_hid H
      obtain ⟨t_35, t_35_tp, qt_35, H⟩ := H
      go_wp2_with fail
      go_at_call 74
      refine (Go.Proofs.YtkinlkmmelkdnaaDoor.GsL1CurLight7.C (t_27_tp) (w.heap.size) (A0) (c0) (w.heap.size) _   Kt_27 qt_35).mono ?_
      rintro e_t_35 wt_35 ⟨rfl, kt_35, gt_35⟩
      have Kt_35 := Lib.hid kt_35
      have Gt_35 : Hid (wt_27.grownBy wt_35 (Value.slice (some ⟨w.heap.size, 0, none⟩) 1 1).ownBlock) := Lib.hid gt_35
      clear kt_35 gt_35
      have HBwt_35 := Lib.hid (Go.Proofs.YtkinlkmmelkdnaaDoor.GoC.below_cur HBwt_27.out Gt_35.out HBwt_27.out.size (Go.Proofs.YtkinlkmmelkdnaaDoor.GoC.cur_lt Kt_27.out).1)
      replace ct_28_0 := cell_other ct_28_0 Gt_35.out (Apart.symm Dt_8_t_5.out)
      replace ct_28_1 := cell_other ct_28_1 Gt_35.out (Apart.symm Dt_8_t_5.out)
      replace ct_28_2 := cell_other ct_28_2 Gt_35.out (Apart.symm Dt_8_t_5.out)
      replace ct_28_3 := cell_other ct_28_3 Gt_35.out (Apart.symm Dt_8_t_5.out)
      replace ct_28_4 := cell_other ct_28_4 Gt_35.out (Apart.symm Dt_8_t_5.out)
      replace Ot_8 := Lib.hid (own_other Ot_8.out Gt_35.out (Apart.symm Dt_8_t_5.out))
      replace Ot_11 := Lib.hid (own_other Ot_11.out Gt_35.out (Apart.symm Dt_11_t_5.out))
      clear Kt_27 Gt_35
      cases ret_hid H
      go_wp2_with fail
      go_ret3
      exact ⟨(some ⟨qt_28, 0, none⟩), ct_8, rfl, Ot_8.out, HBwt_35.out⟩
    | true =>
      replace H := let_hid H
      obtain ⟨t_22, ht_22, H⟩ := H
      obtain rfl : t_22 = false := ht_22.symm
      replace H := app_hid H
      replace H := unp2_hid H
      replace H := ite_f H
      unfold j0 at H
      replace H := unp2_hid H
      replace H := bind2_hid H
      obtain ⟨t_35, t_35_tp, qt_35, H⟩ := H
      go_wp2_with fail
      go_at_call 74
      refine (Go.Proofs.YtkinlkmmelkdnaaDoor.GsL1CurLight7.C (t_21_tp) (w.heap.size) (A0) (c0) (w.heap.size) _   Kt_21 qt_35).mono ?_
      rintro e_t_35 wt_35 ⟨rfl, kt_35, gt_35⟩
      have Kt_35 := Lib.hid kt_35
      have Gt_35 : Hid (wt_21.grownBy wt_35 (Value.slice (some ⟨w.heap.size, 0, none⟩) 1 1).ownBlock) := Lib.hid gt_35
      clear kt_35 gt_35
      have HBwt_35 := Lib.hid (Go.Proofs.YtkinlkmmelkdnaaDoor.GoC.below_cur HBwt_21.out Gt_35.out HBwt_21.out.size (Go.Proofs.YtkinlkmmelkdnaaDoor.GoC.cur_lt Kt_21.out).1)
      replace Ot_8 := Lib.hid (own_other Ot_8.out Gt_35.out (Apart.symm Dt_8_t_5.out))
      replace Ot_11 := Lib.hid (own_other Ot_11.out Gt_35.out (Apart.symm Dt_11_t_5.out))
      clear Kt_21 Gt_35
      cases ret_hid H
      go_wp2_with fail
      go_ret3
      exact ⟨At_8, ct_8, rfl, Ot_8.out, HBwt_35.out⟩
end Go.Proofs.YtkinlkmmelkdnaaDoor.GsDrawCertainHues

/- loop.example/g01062/impl.isLetter as a plain function, and the contract of the program's: where the plain one has an answer, the program has it. Conditions: slices read as lists. -/
namespace Go.Proofs.YtkinlkmmelkdnaaDoor.GiIsLetter
set_option linter.unusedVariables false
set_option linter.unusedSimpArgs false
open Go.RowKit
open Go.Proofs.YtkinlkmmelkdnaaDoor.Rowed Go.Proofs.YtkinlkmmelkdnaaDoor.Turn Go.Proofs.YtkinlkmmelkdnaaDoor.Aid Go.Proofs.YtkinlkmmelkdnaaDoor.GoP Go.Proofs.YtkinlkmmelkdnaaDoor.GoM

def P (c : Int) : Option (Bool) :=
  letK (decide (97 ≤ c)) fun (t_2 : Bool) =>
  joinK (fun (t_6 : Bool) =>
  some t_6) fun jt_6 => iteK t_2 (letK (decide (c ≤ 122)) fun (t_5 : Bool) =>
  appK jt_6 t_5) (appK jt_6 false)

set_option maxRecDepth 100000 in
set_option maxHeartbeats 2000000 in
theorem C (c : Int)   (w : World)   {r : Bool} (H : Hid (P c = some r)) :
    Calls Tryd.prog 115 #[.int .u8 c] w (Gives (.bool r) w) := by
  have HB := Lib.hid (Below.refl w.heap.size w)
  unfold P at H
  go_enter Tryd.func115, Tryd.ntmps115
  replace H := let_hid H
  obtain ⟨t_2, ht_2, H⟩ := H
  replace H := join_hid H
  cases t_2 with
  | false =>
    replace H := ite_f H
    replace H := app_hid H
    obtain rfl := ret_hid H
    go_wp2_with fail
    go_ret
    exact ⟨rfl, HB.out⟩
  | true =>
    replace H := ite_t H
    replace H := let_hid H
    obtain ⟨t_5, ht_5, H⟩ := H
    replace H := app_hid H
    obtain rfl := ret_hid H
    go_wp2_with fail
    go_ret
    exact ⟨rfl, HB.out⟩

set_option maxRecDepth 100000 in
set_option maxHeartbeats 2000000 in
theorem C0 (c : Int)   (w : World)   {r : Bool} (H : Hid (P c = some r)) :
    Calls Tryd.prog 115 #[.int .u8 c] w (fun e w'' => e = .returned (.bool r) ∧ w'' = w) := by
  have HB := Lib.hid (Below.refl w.heap.size w)
  unfold P at H
  go_enter Tryd.func115, Tryd.ntmps115
  replace H := let_hid H
  obtain ⟨t_2, ht_2, H⟩ := H
  replace H := join_hid H
  cases t_2 with
  | false =>
    replace H := ite_f H
    replace H := app_hid H
    obtain rfl := ret_hid H
    go_wp2_with fail
    go_ret
    exact ⟨rfl, rfl⟩
  | true =>
    replace H := ite_t H
    replace H := let_hid H
    obtain ⟨t_5, ht_5, H⟩ := H
    replace H := app_hid H
    obtain rfl := ret_hid H
    go_wp2_with fail
    go_ret
    exact ⟨rfl, rfl⟩
end Go.Proofs.YtkinlkmmelkdnaaDoor.GiIsLetter

/- loop.example/g01062/impl.isWord as a plain function, and the contract of the program's: where the plain one has an answer, the program has it. Conditions: slices read as lists. -/
namespace Go.Proofs.YtkinlkmmelkdnaaDoor.GiIsWord
set_option linter.unusedVariables false
set_option linter.unusedSimpArgs false
open Go.RowKit
open Go.Proofs.YtkinlkmmelkdnaaDoor.Rowed Go.Proofs.YtkinlkmmelkdnaaDoor.Turn Go.Proofs.YtkinlkmmelkdnaaDoor.Aid Go.Proofs.YtkinlkmmelkdnaaDoor.GoP Go.Proofs.YtkinlkmmelkdnaaDoor.GoM

def l0 (s_0 : ByteArray) (k0 : Nat) (s : Unit) (nx0 bk0 : Unit → Option (Bool)) : Option (Bool) :=
  
  Option.bind (idx s_0.toList (k0 : Int)) fun (yt_14 : UInt8) =>
  letK ((yt_14.toNat : Int)) fun (t_14 : Int) =>
  Option.bind (Go.Proofs.YtkinlkmmelkdnaaDoor.GiIsLetter.P t_14) fun (t_15 : Bool) =>
  letK (!t_15) fun (t_16 : Bool) =>
  iteK t_16
  (some false)
  (appK nx0 ())

def e0  (s : Unit) : Option (Bool) :=
  
  some true

def P (s_0 : ByteArray) : Option (Bool) :=
  Option.bind (Go.Proofs.YtkinlkmmelkdnaaDoor.GiWithin.P (s_0.size : Int) 1 10) fun (t_3 : Bool) =>
  letK (!t_3) fun (t_4 : Bool) =>
  iteK t_4
  (some false)
  (guardK (s_0.size ≤ 9223372036854775807) <|
  cntK (l0 s_0) (s_0.size) 0 () (e0 ))

set_option maxRecDepth 100000 in
set_option maxHeartbeats 2000000 in
theorem C (s_0 : ByteArray)   (w : World)   {r : Bool} (H : Hid (P s_0 = some r)) :
    Calls Tryd.prog 109 #[.string s_0] w (Gives (.bool r) w) := by
  have HB := Lib.hid (Below.refl w.heap.size w)
  unfold P at H
  go_enter Tryd.func109, Tryd.ntmps109
  replace H := bind_hid H
  obtain ⟨t_3, qt_3, H⟩ := H
  go_wp2_with fail
  go_at_call 60
  refine (Go.Proofs.YtkinlkmmelkdnaaDoor.GiWithin.C ((s_0.size : Int)) (1) (10)  _    qt_3).mono ?_
  rintro e_t_3 wt_3 ⟨rfl, bt_3⟩
  have HBwt_3 := Lib.hid (Below.step HB.out bt_3)
  clear bt_3
  cases t_3 with
  | false =>
    replace H := let_hid H
    obtain ⟨t_4, ht_4, H⟩ := H
    obtain rfl : t_4 = true := ht_4.symm
    replace H := ite_t H
    obtain rfl := ret_hid H
    go_wp2_with fail
    go_ret
    exact ⟨rfl, HBwt_3.out⟩
  | true =>
    replace H := let_hid H
    obtain ⟨t_4, ht_4, H⟩ := H
    obtain rfl : t_4 = false := ht_4.symm
    replace H := ite_f H
    replace H := guard_hid H
    obtain ⟨hg0, H⟩ := H
    go_wp2_with fail
    go_loopg [10] (s_0.size) (fun m_ v10_ wr => ∃ (k0 : Nat) , k0 + m_ = s_0.size ∧ v10_ = .int .i64 (k0 : Int) ∧ Hid (cntK (l0 s_0) m_ k0 () (e0 ) = some r) ∧ Hid (Below w.heap.size w wr))
    case atStart => exact ⟨0, by omega, rfl, H, HBwt_3⟩
    case round =>
      obtain ⟨k0, hkm0, rfl, H, HBwr0⟩ := hrel
      rename World => wr0
      cases gk with
      | zero =>
        obtain rfl : k0 = s_0.size := by omega
        have hc0 : decide (((s_0.size : Nat) : Int) < ((s_0.size : Nat) : Int)) = false := by simp
        replace H := cnt_zero H
        unfold e0 at H
        obtain rfl := ret_hid H
        go_wp2_with fail
        go_ret
        exact ⟨rfl, HBwr0.out⟩
      | succ m0 =>
        have hlt0 : k0 < s_0.size := by omega
        have hc0 : decide ((k0 : Int) < ((s_0.size : Nat) : Int)) = true := by simp; omega
        replace H := cnt_succ H
        unfold l0 at H
        replace H := idx_hid H
        obtain ⟨nt_14, yt_14, et_14, lt_14, gt_14, H⟩ := H
        obtain rfl : k0 = nt_14 := by omega
        clear et_14
        have rt_14 := byte_rule lt_14 gt_14.out
        have b0t_14 : (0 : Int) ≤ (k0 : Int) := by omega
        have b1t_14 : (k0 : Int) < (s_0.size : Int) := by have := size_list s_0; omega
        have b2t_14 : ((k0 : Int)).toNat = k0 := by omega
        have b3t_14 : k0 < s_0.size := by have := size_list s_0; omega
        replace H := let_hid H
        obtain ⟨t_14, ht_14, H⟩ := H
        replace H := bind_hid H
        obtain ⟨t_15, qt_15, H⟩ := H
        go_wp2_with fail
        go_at_call 115
        refine (Go.Proofs.YtkinlkmmelkdnaaDoor.GiIsLetter.C (t_14)  _    qt_15).mono ?_
        rintro e_t_15 wt_15 ⟨rfl, bt_15⟩
        have HBwt_15 := Lib.hid (Below.step HBwr0.out bt_15)
        clear bt_15
        cases t_15 with
        | false =>
          replace H := let_hid H
          obtain ⟨t_16, ht_16, H⟩ := H
          obtain rfl : t_16 = true := ht_16.symm
          replace H := ite_t H
          obtain rfl := ret_hid H
          go_wp2_with fail
          go_ret
          exact ⟨rfl, HBwt_15.out⟩
        | true =>
          replace H := let_hid H
          obtain ⟨t_16, ht_16, H⟩ := H
          obtain rfl : t_16 = false := ht_16.symm
          replace H := ite_f H
          replace H := app_hid H
          go_wp2_with fail
          go_roundg m0
          case measure => omega
          case rel => exact ⟨k0 + 1, by omega, by go_num, H, HBwt_15⟩
end Go.Proofs.YtkinlkmmelkdnaaDoor.GiIsWord

/- loop.example/g01062/impl.isLightness as a plain function, and the contract of the program's: where the plain one has an answer, the program has it. Conditions: slices read as lists. -/
namespace Go.Proofs.YtkinlkmmelkdnaaDoor.GiIsLightness
set_option linter.unusedVariables false
set_option linter.unusedSimpArgs false
open Go.RowKit
open Go.Proofs.YtkinlkmmelkdnaaDoor.Rowed Go.Proofs.YtkinlkmmelkdnaaDoor.Turn Go.Proofs.YtkinlkmmelkdnaaDoor.Aid Go.Proofs.YtkinlkmmelkdnaaDoor.GoP Go.Proofs.YtkinlkmmelkdnaaDoor.GoM

def P (light : Int) : Option (Bool) :=
  Option.bind (Go.Proofs.YtkinlkmmelkdnaaDoor.GiWithin.P light 0 100) fun (t_2 : Bool) =>
  some t_2

set_option maxRecDepth 100000 in
set_option maxHeartbeats 2000000 in
theorem C (light : Int)   (w : World)   {r : Bool} (H : Hid (P light = some r)) :
    Calls Tryd.prog 76 #[.int .i64 light] w (Gives (.bool r) w) := by
  have HB := Lib.hid (Below.refl w.heap.size w)
  unfold P at H
  go_enter Tryd.func76, Tryd.ntmps76
  replace H := bind_hid H
  obtain ⟨t_2, qt_2, H⟩ := H
  go_wp2_with fail
  go_at_call 60
  refine (Go.Proofs.YtkinlkmmelkdnaaDoor.GiWithin.C (light) (0) (100)  _    qt_2).mono ?_
  rintro e_t_2 wt_2 ⟨rfl, bt_2⟩
  have HBwt_2 := Lib.hid (Below.step HB.out bt_2)
  clear bt_2
  obtain rfl := ret_hid H
  go_wp2_with fail
  go_ret
  exact ⟨rfl, HBwt_2.out⟩
end Go.Proofs.YtkinlkmmelkdnaaDoor.GiIsLightness

/- loop.example/g01062/impl.IsShade as a plain function, and the contract of the program's: where the plain one has an answer, the program has it. Conditions: slices read as lists. -/
namespace Go.Proofs.YtkinlkmmelkdnaaDoor.GiIsShade
set_option linter.unusedVariables false
set_option linter.unusedSimpArgs false
open Go.RowKit
open Go.Proofs.YtkinlkmmelkdnaaDoor.Rowed Go.Proofs.YtkinlkmmelkdnaaDoor.Turn Go.Proofs.YtkinlkmmelkdnaaDoor.Aid Go.Proofs.YtkinlkmmelkdnaaDoor.GoP Go.Proofs.YtkinlkmmelkdnaaDoor.GoM

def P (x : Go.Proofs.YtkinlkmmelkdnaaDoor.PShade.Shade) : Option (Bool) :=
  unShade x fun (x_name : ByteArray) (x_hue : Int) (x_width : Int) (x_dark : Int) (x_light : Int) =>
  Option.bind (Go.Proofs.YtkinlkmmelkdnaaDoor.GiIsWord.P x_name) fun (t_4 : Bool) =>
  joinK (fun (t_9 : Bool) =>
  joinK (fun (t_14 : Bool) =>
  joinK (fun (t_19 : Bool) =>
  joinK (fun (t_24 : Bool) =>
  joinK (fun (t_31 : Bool) =>
  some t_31) fun jt_31 => iteK t_24 (letK (decide (x_dark ≤ x_light)) fun (t_30 : Bool) =>
  appK jt_31 t_30) (appK jt_31 false)) fun jt_24 => iteK t_19 (Option.bind (Go.Proofs.YtkinlkmmelkdnaaDoor.GiIsLightness.P x_light) fun (t_23 : Bool) =>
  appK jt_24 t_23) (appK jt_24 false)) fun jt_19 => iteK t_14 (Option.bind (Go.Proofs.YtkinlkmmelkdnaaDoor.GiIsLightness.P x_dark) fun (t_18 : Bool) =>
  appK jt_19 t_18) (appK jt_19 false)) fun jt_14 => iteK t_9 (Option.bind (Go.Proofs.YtkinlkmmelkdnaaDoor.GiWithin.P x_width 0 179) fun (t_13 : Bool) =>
  appK jt_14 t_13) (appK jt_14 false)) fun jt_9 => iteK t_4 (Option.bind (Go.Proofs.YtkinlkmmelkdnaaDoor.GiIsHue.P x_hue) fun (t_8 : Bool) =>
  appK jt_9 t_8) (appK jt_9 false)

set_option maxRecDepth 100000 in
set_option maxHeartbeats 2000000 in
theorem C (x : Go.Proofs.YtkinlkmmelkdnaaDoor.PShade.Shade)   (w : World)   {r : Bool} (H : Hid (P x = some r)) :
    Calls Tryd.prog 91 #[x.val] w (Gives (.bool r) w) := by
  have HB := Lib.hid (Below.refl w.heap.size w)
  unfold P at H
  obtain ⟨x_name, x_hue, x_width, x_dark, x_light⟩ := x
  replace H := unShade_hid H
  unfold Go.Proofs.YtkinlkmmelkdnaaDoor.PShade.Shade.val
  go_enter Tryd.func91, Tryd.ntmps91
  obtain ⟨w_x_0, hw_x_0⟩ : ∃ x, w.alloc (.cells #[.string x_name, .int .i64 x_hue, .int .i64 x_width, .int .i64 x_dark, .int .i64 x_light] 54) = x := ⟨_, rfl⟩
  have bw_x_0 : Below w.heap.size w w_x_0 := by rw [← hw_x_0]; exact (Below.refl _ _).alloc (Nat.le_refl _) _
  have HBw_x_0 := Lib.hid (Below.step HB.out bw_x_0)
  clear bw_x_0
  have kx_0_0 : w_x_0.cell? ⟨w.heap.size, 0, none⟩ = some (.string x_name) := by rw [← hw_x_0]; exact box_new _ _ _ 0 _ rfl
  have kx_0_1 : w_x_0.cell? ⟨w.heap.size, 1, none⟩ = some (.int .i64 x_hue) := by rw [← hw_x_0]; exact box_new _ _ _ 1 _ rfl
  have kx_0_2 : w_x_0.cell? ⟨w.heap.size, 2, none⟩ = some (.int .i64 x_width) := by rw [← hw_x_0]; exact box_new _ _ _ 2 _ rfl
  have kx_0_3 : w_x_0.cell? ⟨w.heap.size, 3, none⟩ = some (.int .i64 x_dark) := by rw [← hw_x_0]; exact box_new _ _ _ 3 _ rfl
  have kx_0_4 : w_x_0.cell? ⟨w.heap.size, 4, none⟩ = some (.int .i64 x_light) := by rw [← hw_x_0]; exact box_new _ _ _ 4 _ rfl
  replace H := bind_hid H
  obtain ⟨t_4, qt_4, H⟩ := H
  go_wp2_with fail
  go_at_call 109
  refine (Go.Proofs.YtkinlkmmelkdnaaDoor.GiIsWord.C (x_name)  _    qt_4).mono ?_
  rintro e_t_4 wt_4 ⟨rfl, bt_4⟩
  have HBwt_4 := Lib.hid (Below.step HBw_x_0.out bt_4)
  replace kx_0_0 := cell_below bt_4 kx_0_0
  replace kx_0_1 := cell_below bt_4 kx_0_1
  replace kx_0_2 := cell_below bt_4 kx_0_2
  replace kx_0_3 := cell_below bt_4 kx_0_3
  replace kx_0_4 := cell_below bt_4 kx_0_4
  clear bt_4
  replace H := join_hid H
  cases t_4 with
  | false =>
    replace H := ite_f H
    replace H := app_hid H
    replace H := join_hid H
    replace H := ite_f H
    replace H := app_hid H
    replace H := join_hid H
    replace H := ite_f H
    replace H := app_hid H
    replace H := join_hid H
    replace H := ite_f H
    replace H := app_hid H
    replace H := join_hid H
    replace H := ite_f H
    replace H := app_hid H
    obtain rfl := ret_hid H
    go_wp2_with fail
    go_ret
    exact ⟨rfl, HBwt_4.out⟩
  | true =>
    replace H := ite_t H
    replace H := bind_hid H
    obtain ⟨t_8, qt_8, H⟩ := H
    go_wp2_with fail
    go_at_call 64
    refine (Go.Proofs.YtkinlkmmelkdnaaDoor.GiIsHue.C (x_hue)  _    qt_8).mono ?_
    rintro e_t_8 wt_8 ⟨rfl, bt_8⟩
    have HBwt_8 := Lib.hid (Below.step HBwt_4.out bt_8)
    replace kx_0_0 := cell_below bt_8 kx_0_0
    replace kx_0_1 := cell_below bt_8 kx_0_1
    replace kx_0_2 := cell_below bt_8 kx_0_2
    replace kx_0_3 := cell_below bt_8 kx_0_3
    replace kx_0_4 := cell_below bt_8 kx_0_4
    clear bt_8
    replace H := app_hid H
    replace H := join_hid H
    cases t_8 with
    | false =>
      replace H := ite_f H
      replace H := app_hid H
      replace H := join_hid H
      replace H := ite_f H
      replace H := app_hid H
      replace H := join_hid H
      replace H := ite_f H
      replace H := app_hid H
      replace H := join_hid H
      replace H := ite_f H
      replace H := app_hid H
      obtain rfl := ret_hid H
      go_wp2_with fail
      go_ret
      exact ⟨rfl, HBwt_8.out⟩
    | true =>
      replace H := ite_t H
      replace H := bind_hid H
      obtain ⟨t_13, qt_13, H⟩ := H
      go_wp2_with fail
      go_at_call 60
      refine (Go.Proofs.YtkinlkmmelkdnaaDoor.GiWithin.C (x_width) (0) (179)  _    qt_13).mono ?_
      rintro e_t_13 wt_13 ⟨rfl, bt_13⟩
      have HBwt_13 := Lib.hid (Below.step HBwt_8.out bt_13)
      replace kx_0_0 := cell_below bt_13 kx_0_0
      replace kx_0_1 := cell_below bt_13 kx_0_1
      replace kx_0_2 := cell_below bt_13 kx_0_2
      replace kx_0_3 := cell_below bt_13 kx_0_3
      replace kx_0_4 := cell_below bt_13 kx_0_4
      clear bt_13
      replace H := app_hid H
      replace H := join_hid H
      cases t_13 with
      | false =>
        replace H := ite_f H
        replace H := app_hid H
        replace H := join_hid H
        replace H := ite_f H
        replace H := app_hid H
        replace H := join_hid H
        replace H := ite_f H
        replace H := app_hid H
        obtain rfl := ret_hid H
        go_wp2_with fail
        go_ret
        exact ⟨rfl, HBwt_13.out⟩
      | true =>
        replace H := ite_t H
        replace H := bind_hid H
        obtain ⟨t_18, qt_18, H⟩ := H
        go_wp2_with fail
        go_at_call 76
        refine (Go.Proofs.YtkinlkmmelkdnaaDoor.GiIsLightness.C (x_dark)  _    qt_18).mono ?_
        rintro e_t_18 wt_18 ⟨rfl, bt_18⟩
        have HBwt_18 := Lib.hid (Below.step HBwt_13.out bt_18)
        replace kx_0_0 := cell_below bt_18 kx_0_0
        replace kx_0_1 := cell_below bt_18 kx_0_1
        replace kx_0_2 := cell_below bt_18 kx_0_2
        replace kx_0_3 := cell_below bt_18 kx_0_3
        replace kx_0_4 := cell_below bt_18 kx_0_4
        clear bt_18
        replace H := app_hid H
        replace H := join_hid H
        cases t_18 with
        | false =>
          replace H := ite_f H
          replace H := app_hid H
          replace H := join_hid H
          replace H := ite_f H
          replace H := app_hid H
          obtain rfl := ret_hid H
          go_wp2_with fail
          go_ret
          exact ⟨rfl, HBwt_18.out⟩
        | true =>
          replace H := ite_t H
          replace H := bind_hid H
          obtain ⟨t_23, qt_23, H⟩ := H
          go_wp2_with fail
          go_at_call 76
          refine (Go.Proofs.YtkinlkmmelkdnaaDoor.GiIsLightness.C (x_light)  _    qt_23).mono ?_
          rintro e_t_23 wt_23 ⟨rfl, bt_23⟩
          have HBwt_23 := Lib.hid (Below.step HBwt_18.out bt_23)
          replace kx_0_0 := cell_below bt_23 kx_0_0
          replace kx_0_1 := cell_below bt_23 kx_0_1
          replace kx_0_2 := cell_below bt_23 kx_0_2
          replace kx_0_3 := cell_below bt_23 kx_0_3
          replace kx_0_4 := cell_below bt_23 kx_0_4
          clear bt_23
          replace H := app_hid H
          replace H := join_hid H
          cases t_23 with
          | false =>
            replace H := ite_f H
            replace H := app_hid H
            obtain rfl := ret_hid H
            go_wp2_with fail
            go_ret
            exact ⟨rfl, HBwt_23.out⟩
          | true =>
            replace H := ite_t H
            replace H := let_hid H
            obtain ⟨t_30, ht_30, H⟩ := H
            replace H := app_hid H
            obtain rfl := ret_hid H
            go_wp2_with fail
            go_ret
            exact ⟨rfl, HBwt_23.out⟩
end Go.Proofs.YtkinlkmmelkdnaaDoor.GiIsShade

/- loop.example/g01062/impl.nameOfShade as a plain function, and the contract of the program's: where the plain one has an answer, the program has it. Conditions: slices read as lists. -/
namespace Go.Proofs.YtkinlkmmelkdnaaDoor.GiNameOfShade
set_option linter.unusedVariables false
set_option linter.unusedSimpArgs false
open Go.RowKit
open Go.Proofs.YtkinlkmmelkdnaaDoor.Rowed Go.Proofs.YtkinlkmmelkdnaaDoor.Turn Go.Proofs.YtkinlkmmelkdnaaDoor.Aid Go.Proofs.YtkinlkmmelkdnaaDoor.GoP Go.Proofs.YtkinlkmmelkdnaaDoor.GoM

def P (x : Go.Proofs.YtkinlkmmelkdnaaDoor.PShade.Shade) : Option (ByteArray) :=
  unShade x fun (x_name : ByteArray) (x_hue : Int) (x_width : Int) (x_dark : Int) (x_light : Int) =>
  some x_name

set_option maxRecDepth 100000 in
set_option maxHeartbeats 2000000 in
theorem C (x : Go.Proofs.YtkinlkmmelkdnaaDoor.PShade.Shade)   (w : World)   {r : ByteArray} (H : Hid (P x = some r)) :
    Calls Tryd.prog 106 #[x.val] w (Gives (.string r) w) := by
  have HB := Lib.hid (Below.refl w.heap.size w)
  unfold P at H
  obtain ⟨x_name, x_hue, x_width, x_dark, x_light⟩ := x
  replace H := unShade_hid H
  unfold Go.Proofs.YtkinlkmmelkdnaaDoor.PShade.Shade.val
  go_enter Tryd.func106, Tryd.ntmps106
  obtain ⟨w_x_0, hw_x_0⟩ : ∃ x, w.alloc (.cells #[.string x_name, .int .i64 x_hue, .int .i64 x_width, .int .i64 x_dark, .int .i64 x_light] 54) = x := ⟨_, rfl⟩
  have bw_x_0 : Below w.heap.size w w_x_0 := by rw [← hw_x_0]; exact (Below.refl _ _).alloc (Nat.le_refl _) _
  have HBw_x_0 := Lib.hid (Below.step HB.out bw_x_0)
  clear bw_x_0
  have kx_0_0 : w_x_0.cell? ⟨w.heap.size, 0, none⟩ = some (.string x_name) := by rw [← hw_x_0]; exact box_new _ _ _ 0 _ rfl
  have kx_0_1 : w_x_0.cell? ⟨w.heap.size, 1, none⟩ = some (.int .i64 x_hue) := by rw [← hw_x_0]; exact box_new _ _ _ 1 _ rfl
  have kx_0_2 : w_x_0.cell? ⟨w.heap.size, 2, none⟩ = some (.int .i64 x_width) := by rw [← hw_x_0]; exact box_new _ _ _ 2 _ rfl
  have kx_0_3 : w_x_0.cell? ⟨w.heap.size, 3, none⟩ = some (.int .i64 x_dark) := by rw [← hw_x_0]; exact box_new _ _ _ 3 _ rfl
  have kx_0_4 : w_x_0.cell? ⟨w.heap.size, 4, none⟩ = some (.int .i64 x_light) := by rw [← hw_x_0]; exact box_new _ _ _ 4 _ rfl
  obtain rfl := ret_hid H
  go_wp2_with fail
  go_ret
  exact ⟨rfl, HBw_x_0.out⟩
end Go.Proofs.YtkinlkmmelkdnaaDoor.GiNameOfShade

/- loop.example/g01062/impl.areByKey[loop.example/g01062/impl.Shade,string] as a plain function, and the contract of the program's: where the plain one has an answer, the program has it. Conditions: slices read as lists. -/
namespace Go.Proofs.YtkinlkmmelkdnaaDoor.GiAreByKeyShadeStringiIsShadeiNameOfShade
set_option linter.unusedVariables false
set_option linter.unusedSimpArgs false
open Go.RowKit
open Go.Proofs.YtkinlkmmelkdnaaDoor.Rowed Go.Proofs.YtkinlkmmelkdnaaDoor.Turn Go.Proofs.YtkinlkmmelkdnaaDoor.Aid Go.Proofs.YtkinlkmmelkdnaaDoor.GoP Go.Proofs.YtkinlkmmelkdnaaDoor.GoM

def l0 (list : (List Go.Proofs.YtkinlkmmelkdnaaDoor.PShade.Shade)) (k0 : Nat) (s : Unit) (nx0 bk0 : Unit → Option (Bool)) : Option (Bool) :=
  
  Option.bind (idx list (k0 : Int)) fun (yt_11 : Go.Proofs.YtkinlkmmelkdnaaDoor.PShade.Shade) =>
  unShade yt_11 fun (t_11_name : ByteArray) (t_11_hue : Int) (t_11_width : Int) (t_11_dark : Int) (t_11_light : Int) =>
  Option.bind (Go.Proofs.YtkinlkmmelkdnaaDoor.GiIsShade.P (Go.Proofs.YtkinlkmmelkdnaaDoor.PShade.Shade.mk t_11_name t_11_hue t_11_width t_11_dark t_11_light)) fun (t_18 : Bool) =>
  letK (!t_18) fun (t_19 : Bool) =>
  joinK (fun (t_36 : Bool) =>
  iteK t_36
  (some false)
  (appK nx0 ())) fun jt_36 => iteK t_19 (appK jt_36 true) (letK (decide (0 < (k0 : Int))) fun (t_22 : Bool) =>
  joinK (fun (t_35 : Bool) =>
  appK jt_36 t_35) fun jt_35 => iteK t_22 (Option.bind (Go.Proofs.YtkinlkmmelkdnaaDoor.GiNameOfShade.P (Go.Proofs.YtkinlkmmelkdnaaDoor.PShade.Shade.mk t_11_name t_11_hue t_11_width t_11_dark t_11_light)) fun (t_26 : ByteArray) =>
  letK (IntKind.i64.wrap ((k0 : Int) - 1)) fun (t_30 : Int) =>
  Option.bind (idx list t_30) fun (yt_31 : Go.Proofs.YtkinlkmmelkdnaaDoor.PShade.Shade) =>
  unShade yt_31 fun (t_31_name : ByteArray) (t_31_hue : Int) (t_31_width : Int) (t_31_dark : Int) (t_31_light : Int) =>
  Option.bind (Go.Proofs.YtkinlkmmelkdnaaDoor.GiNameOfShade.P (Go.Proofs.YtkinlkmmelkdnaaDoor.PShade.Shade.mk t_31_name t_31_hue t_31_width t_31_dark t_31_light)) fun (t_33 : ByteArray) =>
  letK (Op.bytesLess t_26.toList t_33.toList || t_26.toList == t_33.toList) fun (t_34 : Bool) =>
  appK jt_35 t_34) (appK jt_35 false))

def e0  (s : Unit) : Option (Bool) :=
  
  some true

def P (list : (List Go.Proofs.YtkinlkmmelkdnaaDoor.PShade.Shade)) (most : Int) : Option (Bool) :=
  letK (decide (most < (list.length : Int))) fun (t_4 : Bool) =>
  iteK t_4
  (some false)
  (cntK (l0 list) (list.length) 0 () (e0 ))

set_option maxRecDepth 100000 in
set_option maxHeartbeats 2000000 in
theorem C (list : (List Go.Proofs.YtkinlkmmelkdnaaDoor.PShade.Shade)) (most : Int) (A0 : Option Addr) (c0 : Nat)  (w : World) (M0 : Hid (Cells w 5 A0 list.length (Go.Proofs.YtkinlkmmelkdnaaDoor.PShade.flat list))) (N0 : Hid (list.length ≤ 9223372036854775807))  {r : Bool} (H : Hid (P list most = some r)) :
    Calls Tryd.prog 105 #[.slice A0 list.length c0, .int .i64 most, .func (.func 91) #[] #[], .func (.func 106) #[] #[]] w (Gives (.bool r) w) := by
  have HB := Lib.hid (Below.refl w.heap.size w)
  unfold P at H
  have N0o := N0.out
  go_enter Tryd.func105, Tryd.ntmps105
  replace H := let_hid H
  obtain ⟨t_4, ht_4, H⟩ := H
  cases t_4 with
  | false =>
    replace H := ite_f H
    go_wp2_with fail
    go_loopg [17] (list.length) (fun m_ v17_ wr => ∃ (k0 : Nat) , k0 + m_ = list.length ∧ v17_ = .int .i64 (k0 : Int) ∧ Hid (cntK (l0 list) m_ k0 () (e0 ) = some r) ∧ Hid (Below w.heap.size w wr))
    case atStart => exact ⟨0, by omega, rfl, H, HB⟩
    case round =>
      obtain ⟨k0, hkm0, rfl, H, HBwr0⟩ := hrel
      rename World => wr0
      cases gk with
      | zero =>
        obtain rfl : k0 = list.length := by omega
        have hc0 : decide (((list.length : Nat) : Int) < ((list.length : Nat) : Int)) = false := by simp
        replace H := cnt_zero H
        unfold e0 at H
        obtain rfl := ret_hid H
        go_wp2_with fail
        go_ret
        exact ⟨rfl, HBwr0.out⟩
      | succ m0 =>
        have hlt0 : k0 < list.length := by omega
        have hc0 : decide ((k0 : Int) < ((list.length : Nat) : Int)) = true := by simp; omega
        replace H := cnt_succ H
        unfold l0 at H
        replace H := idx_hid H
        obtain ⟨nt_11, yt_11, et_11, lt_11, gt_11, H⟩ := H
        obtain rfl : k0 = nt_11 := by omega
        clear et_11
        obtain ⟨t_11_name, t_11_hue, t_11_width, t_11_dark, t_11_light⟩ := yt_11
        replace H := unShade_hid H
        obtain ⟨ab_t_11, ao_t_11, zt_11, At_11, z_t_11, ct_11_0, ct_11_1, ct_11_2, ct_11_3, ct_11_4⟩ := Go.Proofs.YtkinlkmmelkdnaaDoor.OShade.at_ M0.out lt_11
        obtain rfl := Option.some.inj (gt_11.out.symm.trans z_t_11)
        subst At_11
        have ltt_11 := cell_lt ct_11_0
        replace ct_11_0 := cell_below HBwr0.out ct_11_0
        replace ct_11_1 := cell_below HBwr0.out ct_11_1
        replace ct_11_2 := cell_below HBwr0.out ct_11_2
        replace ct_11_3 := cell_below HBwr0.out ct_11_3
        replace ct_11_4 := cell_below HBwr0.out ct_11_4
        clear z_t_11
        have b0t_11 : (0 : Int) ≤ (k0 : Int) := by omega
        have b1t_11 : (k0 : Int) < ((list.length : Nat) : Int) := by omega
        have b2t_11 : ((k0 : Int)).toNat = k0 := by omega
        obtain ⟨w_e_13, hw_e_13⟩ : ∃ x, wr0.alloc (.cells #[.string t_11_name, .int .i64 t_11_hue, .int .i64 t_11_width, .int .i64 t_11_dark, .int .i64 t_11_light] 54) = x := ⟨_, rfl⟩
        have bw_e_13 : Below wr0.heap.size wr0 w_e_13 := by rw [← hw_e_13]; exact (Below.refl _ _).alloc (Nat.le_refl _) _
        have HBw_e_13 := Lib.hid (Below.step HBwr0.out bw_e_13)
        have ct_11_0__219 := cell_below bw_e_13 ct_11_0
        have ct_11_1__220 := cell_below bw_e_13 ct_11_1
        have ct_11_2__221 := cell_below bw_e_13 ct_11_2
        have ct_11_3__222 := cell_below bw_e_13 ct_11_3
        have ct_11_4__223 := cell_below bw_e_13 ct_11_4
        clear bw_e_13
        have ke_13_0 : w_e_13.cell? ⟨wr0.heap.size, 0, none⟩ = some (.string t_11_name) := by rw [← hw_e_13]; exact box_new _ _ _ 0 _ rfl
        have ke_13_1 : w_e_13.cell? ⟨wr0.heap.size, 1, none⟩ = some (.int .i64 t_11_hue) := by rw [← hw_e_13]; exact box_new _ _ _ 1 _ rfl
        have ke_13_2 : w_e_13.cell? ⟨wr0.heap.size, 2, none⟩ = some (.int .i64 t_11_width) := by rw [← hw_e_13]; exact box_new _ _ _ 2 _ rfl
        have ke_13_3 : w_e_13.cell? ⟨wr0.heap.size, 3, none⟩ = some (.int .i64 t_11_dark) := by rw [← hw_e_13]; exact box_new _ _ _ 3 _ rfl
        have ke_13_4 : w_e_13.cell? ⟨wr0.heap.size, 4, none⟩ = some (.int .i64 t_11_light) := by rw [← hw_e_13]; exact box_new _ _ _ 4 _ rfl
        go_wp2_with fail
        clear ct_11_0 ct_11_1 ct_11_2 ct_11_3 ct_11_4
        have Hct_11_0__219 := Lib.hid ct_11_0__219
        replace ct_11_0__219 := cell_regrown ct_11_0__219
        have Hct_11_1__220 := Lib.hid ct_11_1__220
        replace ct_11_1__220 := cell_regrown ct_11_1__220
        have Hct_11_2__221 := Lib.hid ct_11_2__221
        replace ct_11_2__221 := cell_regrown ct_11_2__221
        have Hct_11_3__222 := Lib.hid ct_11_3__222
        replace ct_11_3__222 := cell_regrown ct_11_3__222
        have Hct_11_4__223 := Lib.hid ct_11_4__223
        replace ct_11_4__223 := cell_regrown ct_11_4__223
        have Hke_13_0 := Lib.hid ke_13_0
        replace ke_13_0 := cell_regrown ke_13_0
        have Hke_13_1 := Lib.hid ke_13_1
        replace ke_13_1 := cell_regrown ke_13_1
        have Hke_13_2 := Lib.hid ke_13_2
        replace ke_13_2 := cell_regrown ke_13_2
        have Hke_13_3 := Lib.hid ke_13_3
        replace ke_13_3 := cell_regrown ke_13_3
        have Hke_13_4 := Lib.hid ke_13_4
        replace ke_13_4 := cell_regrown ke_13_4
        replace H := bind_hid H
        obtain ⟨t_18, qt_18, H⟩ := H
        have nt_18 : ∀ d os, Calls Tryd.prog 91 #[.agg #[.string t_11_name, .int .i64 t_11_hue, .int .i64 t_11_width, .int .i64 t_11_dark, .int .i64 t_11_light]] (Go.Sort.grow (redrawn w_e_13 d) os) fun e w'' => e = .returned (.bool t_18) ∧ ∃ p : Regrown, w'' = Go.Sort.grow (redrawn w_e_13 p.d) p.os := fun d os => Calls.regrown_of (Go.Proofs.YtkinlkmmelkdnaaDoor.GiIsShade.C ((Go.Proofs.YtkinlkmmelkdnaaDoor.PShade.Shade.mk t_11_name t_11_hue t_11_width t_11_dark t_11_light))  _    qt_18)
        cases t_18 with
        | false =>
          replace H := let_hid H
          obtain ⟨t_19, ht_19, H⟩ := H
          obtain rfl : t_19 = true := ht_19.symm
          replace H := join_hid H
          replace H := ite_t H
          replace H := app_hid H
          refine wp_region_quiet_below (by kernel_rfl) (by kernel_rfl) ?_
          repeat (go_big_quiet_step (first | (go_at_call 91; exact nt_18 _ _)))
          refine wpQuiet_nil ?_
          intro Y6 hY6
          replace hY6 := below_class hY6
          clear nt_18
          replace ct_11_0__219 := Hct_11_0__219.out
          clear Hct_11_0__219
          replace ct_11_1__220 := Hct_11_1__220.out
          clear Hct_11_1__220
          replace ct_11_2__221 := Hct_11_2__221.out
          clear Hct_11_2__221
          replace ct_11_3__222 := Hct_11_3__222.out
          clear Hct_11_3__222
          replace ct_11_4__223 := Hct_11_4__223.out
          clear Hct_11_4__223
          replace ke_13_0 := Hke_13_0.out
          clear Hke_13_0
          replace ke_13_1 := Hke_13_1.out
          clear Hke_13_1
          replace ke_13_2 := Hke_13_2.out
          clear Hke_13_2
          replace ke_13_3 := Hke_13_3.out
          clear Hke_13_3
          replace ke_13_4 := Hke_13_4.out
          clear Hke_13_4
          have HBY6 := Lib.hid (Below.step HBw_e_13.out hY6)
          replace ct_11_0__219 := cell_below hY6 ct_11_0__219
          replace ct_11_1__220 := cell_below hY6 ct_11_1__220
          replace ct_11_2__221 := cell_below hY6 ct_11_2__221
          replace ct_11_3__222 := cell_below hY6 ct_11_3__222
          replace ct_11_4__223 := cell_below hY6 ct_11_4__223
          replace ke_13_0 := cell_below hY6 ke_13_0
          replace ke_13_1 := cell_below hY6 ke_13_1
          replace ke_13_2 := cell_below hY6 ke_13_2
          replace ke_13_3 := cell_below hY6 ke_13_3
          replace ke_13_4 := cell_below hY6 ke_13_4
          clear hY6
          replace H := ite_t H
          obtain rfl := ret_hid H
          go_wp2_with fail
          go_ret
          exact ⟨rfl, HBY6.out⟩
        | true =>
          replace H := let_hid H
          obtain ⟨t_19, ht_19, H⟩ := H
          obtain rfl : t_19 = false := ht_19.symm
          replace H := join_hid H
          replace H := ite_f H
          replace H := let_hid H
          obtain ⟨t_22, ht_22, H⟩ := H
          replace H := join_hid H
          cases t_22 with
          | false =>
            have nht_22 : ¬ (0 < k0) := by have := of_decide_eq_false ht_22; omega
            replace H := ite_f H
            replace H := app_hid H
            replace H := app_hid H
            refine wp_region_quiet_below (by kernel_rfl) (by kernel_rfl) ?_
            repeat (go_big_quiet_step (first | (go_at_call 91; exact nt_18 _ _)))
            refine wpQuiet_nil ?_
            intro Y6 hY6
            replace hY6 := below_class hY6
            clear nt_18
            replace ct_11_0__219 := Hct_11_0__219.out
            clear Hct_11_0__219
            replace ct_11_1__220 := Hct_11_1__220.out
            clear Hct_11_1__220
            replace ct_11_2__221 := Hct_11_2__221.out
            clear Hct_11_2__221
            replace ct_11_3__222 := Hct_11_3__222.out
            clear Hct_11_3__222
            replace ct_11_4__223 := Hct_11_4__223.out
            clear Hct_11_4__223
            replace ke_13_0 := Hke_13_0.out
            clear Hke_13_0
            replace ke_13_1 := Hke_13_1.out
            clear Hke_13_1
            replace ke_13_2 := Hke_13_2.out
            clear Hke_13_2
            replace ke_13_3 := Hke_13_3.out
            clear Hke_13_3
            replace ke_13_4 := Hke_13_4.out
            clear Hke_13_4
            have HBY6 := Lib.hid (Below.step HBw_e_13.out hY6)
            replace ct_11_0__219 := cell_below hY6 ct_11_0__219
            replace ct_11_1__220 := cell_below hY6 ct_11_1__220
            replace ct_11_2__221 := cell_below hY6 ct_11_2__221
            replace ct_11_3__222 := cell_below hY6 ct_11_3__222
            replace ct_11_4__223 := cell_below hY6 ct_11_4__223
            replace ke_13_0 := cell_below hY6 ke_13_0
            replace ke_13_1 := cell_below hY6 ke_13_1
            replace ke_13_2 := cell_below hY6 ke_13_2
            replace ke_13_3 := cell_below hY6 ke_13_3
            replace ke_13_4 := cell_below hY6 ke_13_4
            clear hY6
            replace H := ite_f H
            replace H := app_hid H
            go_wp2_with fail
            go_roundg m0
            case measure => omega
            case rel => exact ⟨k0 + 1, by omega, by go_num, H, HBY6⟩
          | true =>
            have nht_22 : 0 < k0 := by have := of_decide_eq_true ht_22; omega
            replace H := ite_t H
            replace H := bind_hid H
            obtain ⟨t_26, qt_26, H⟩ := H
            have nt_26 : ∀ d os, Calls Tryd.prog 106 #[.agg #[.string t_11_name, .int .i64 t_11_hue, .int .i64 t_11_width, .int .i64 t_11_dark, .int .i64 t_11_light]] (Go.Sort.grow (redrawn w_e_13 d) os) fun e w'' => e = .returned (.string t_26) ∧ ∃ p : Regrown, w'' = Go.Sort.grow (redrawn w_e_13 p.d) p.os := fun d os => Calls.regrown_of (Go.Proofs.YtkinlkmmelkdnaaDoor.GiNameOfShade.C ((Go.Proofs.YtkinlkmmelkdnaaDoor.PShade.Shade.mk t_11_name t_11_hue t_11_width t_11_dark t_11_light))  _    qt_26)
            replace H := let_hid H
            obtain ⟨t_30, ht_30, H⟩ := H
            replace H := idx_hid H
            obtain ⟨nt_31, yt_31, et_31, lt_31, gt_31, H⟩ := H
            subst et_31
            obtain ⟨t_31_name, t_31_hue, t_31_width, t_31_dark, t_31_light⟩ := yt_31
            replace H := unShade_hid H
            obtain ⟨ab_t_31, ao_t_31, zt_31, At_31, z_t_31, ct_31_0, ct_31_1, ct_31_2, ct_31_3, ct_31_4⟩ := Go.Proofs.YtkinlkmmelkdnaaDoor.OShade.at_ M0.out lt_31
            obtain rfl := Option.some.inj (gt_31.out.symm.trans z_t_31)
            simp only [Option.some.injEq, Addr.mk.injEq] at At_31
            obtain ⟨rfl, rfl, _⟩ := At_31
            have ltt_31 := cell_lt ct_31_0
            replace ct_31_0 := cell_below HBw_e_13.out ct_31_0
            replace ct_31_1 := cell_below HBw_e_13.out ct_31_1
            replace ct_31_2 := cell_below HBw_e_13.out ct_31_2
            replace ct_31_3 := cell_below HBw_e_13.out ct_31_3
            replace ct_31_4 := cell_below HBw_e_13.out ct_31_4
            clear z_t_31
            have b0t_31 : (0 : Int) ≤ (nt_31 : Int) := by omega
            have b1t_31 : (nt_31 : Int) < ((list.length : Nat) : Int) := by omega
            have b2t_31 : ((nt_31 : Int)).toNat = nt_31 := by omega
            have Hct_31_0 := Lib.hid ct_31_0
            replace ct_31_0 := cell_regrown ct_31_0
            have Hct_31_1 := Lib.hid ct_31_1
            replace ct_31_1 := cell_regrown ct_31_1
            have Hct_31_2 := Lib.hid ct_31_2
            replace ct_31_2 := cell_regrown ct_31_2
            have Hct_31_3 := Lib.hid ct_31_3
            replace ct_31_3 := cell_regrown ct_31_3
            have Hct_31_4 := Lib.hid ct_31_4
            replace ct_31_4 := cell_regrown ct_31_4
            replace H := bind_hid H
            obtain ⟨t_33, qt_33, H⟩ := H
            have nt_33 : ∀ d os, Calls Tryd.prog 106 #[.agg #[.string t_31_name, .int .i64 t_31_hue, .int .i64 t_31_width, .int .i64 t_31_dark, .int .i64 t_31_light]] (Go.Sort.grow (redrawn w_e_13 d) os) fun e w'' => e = .returned (.string t_33) ∧ ∃ p : Regrown, w'' = Go.Sort.grow (redrawn w_e_13 p.d) p.os := fun d os => Calls.regrown_of (Go.Proofs.YtkinlkmmelkdnaaDoor.GiNameOfShade.C ((Go.Proofs.YtkinlkmmelkdnaaDoor.PShade.Shade.mk t_31_name t_31_hue t_31_width t_31_dark t_31_light))  _    qt_33)
            replace H := let_hid H
            obtain ⟨t_34, ht_34, H⟩ := H
            replace H := app_hid H
            replace H := app_hid H
            refine wp_region_quiet_below (by kernel_rfl) (by kernel_rfl) ?_
            repeat (go_big_quiet_step (first | (go_at_call 106; with_reducible exact nt_26 _ _) | (go_at_call 106; with_reducible exact nt_33 _ _) | (go_at_call 91; exact nt_18 _ _) | (go_at_call 106; exact nt_26 _ _) | (go_at_call 106; exact nt_33 _ _)))
            refine wpQuiet_nil ?_
            intro Y6 hY6
            replace hY6 := below_class hY6
            clear nt_18 nt_26 nt_33
            replace ct_11_0__219 := Hct_11_0__219.out
            clear Hct_11_0__219
            replace ct_11_1__220 := Hct_11_1__220.out
            clear Hct_11_1__220
            replace ct_11_2__221 := Hct_11_2__221.out
            clear Hct_11_2__221
            replace ct_11_3__222 := Hct_11_3__222.out
            clear Hct_11_3__222
            replace ct_11_4__223 := Hct_11_4__223.out
            clear Hct_11_4__223
            replace ke_13_0 := Hke_13_0.out
            clear Hke_13_0
            replace ke_13_1 := Hke_13_1.out
            clear Hke_13_1
            replace ke_13_2 := Hke_13_2.out
            clear Hke_13_2
            replace ke_13_3 := Hke_13_3.out
            clear Hke_13_3
            replace ke_13_4 := Hke_13_4.out
            clear Hke_13_4
            replace ct_31_0 := Hct_31_0.out
            clear Hct_31_0
            replace ct_31_1 := Hct_31_1.out
            clear Hct_31_1
            replace ct_31_2 := Hct_31_2.out
            clear Hct_31_2
            replace ct_31_3 := Hct_31_3.out
            clear Hct_31_3
            replace ct_31_4 := Hct_31_4.out
            clear Hct_31_4
            have HBY6 := Lib.hid (Below.step HBw_e_13.out hY6)
            replace ct_11_0__219 := cell_below hY6 ct_11_0__219
            replace ct_11_1__220 := cell_below hY6 ct_11_1__220
            replace ct_11_2__221 := cell_below hY6 ct_11_2__221
            replace ct_11_3__222 := cell_below hY6 ct_11_3__222
            replace ct_11_4__223 := cell_below hY6 ct_11_4__223
            replace ke_13_0 := cell_below hY6 ke_13_0
            replace ke_13_1 := cell_below hY6 ke_13_1
            replace ke_13_2 := cell_below hY6 ke_13_2
            replace ke_13_3 := cell_below hY6 ke_13_3
            replace ke_13_4 := cell_below hY6 ke_13_4
            replace ct_31_0 := cell_below hY6 ct_31_0
            replace ct_31_1 := cell_below hY6 ct_31_1
            replace ct_31_2 := cell_below hY6 ct_31_2
            replace ct_31_3 := cell_below hY6 ct_31_3
            replace ct_31_4 := cell_below hY6 ct_31_4
            clear hY6
            cases t_34 with
            | false =>
              replace H := ite_f H
              replace H := app_hid H
              go_wp2_with fail
              go_roundg m0
              case measure => omega
              case rel => exact ⟨k0 + 1, by omega, by go_num, H, HBY6⟩
            | true =>
              replace H := ite_t H
              obtain rfl := ret_hid H
              go_wp2_with fail
              go_ret
              exact ⟨rfl, HBY6.out⟩
  | true =>
    replace H := ite_t H
    obtain rfl := ret_hid H
    go_wp2_with fail
    go_ret
    exact ⟨rfl, HB.out⟩
end Go.Proofs.YtkinlkmmelkdnaaDoor.GiAreByKeyShadeStringiIsShadeiNameOfShade

/- loop.example/g01062/impl.AreShades as a plain function, and the contract of the program's: where the plain one has an answer, the program has it. Conditions: slices read as lists. -/
namespace Go.Proofs.YtkinlkmmelkdnaaDoor.GiAreShades
set_option linter.unusedVariables false
set_option linter.unusedSimpArgs false
open Go.RowKit
open Go.Proofs.YtkinlkmmelkdnaaDoor.Rowed Go.Proofs.YtkinlkmmelkdnaaDoor.Turn Go.Proofs.YtkinlkmmelkdnaaDoor.Aid Go.Proofs.YtkinlkmmelkdnaaDoor.GoP Go.Proofs.YtkinlkmmelkdnaaDoor.GoM

def P (list : (List Go.Proofs.YtkinlkmmelkdnaaDoor.PShade.Shade)) : Option (Bool) :=
  Option.bind (Go.Proofs.YtkinlkmmelkdnaaDoor.GiAreByKeyShadeStringiIsShadeiNameOfShade.P list 12) fun (t_2 : Bool) =>
  some t_2

set_option maxRecDepth 100000 in
set_option maxHeartbeats 2000000 in
theorem C (list : (List Go.Proofs.YtkinlkmmelkdnaaDoor.PShade.Shade)) (A0 : Option Addr) (c0 : Nat)  (w : World) (M0 : Hid (Cells w 5 A0 list.length (Go.Proofs.YtkinlkmmelkdnaaDoor.PShade.flat list))) (N0 : Hid (list.length ≤ 9223372036854775807))  {r : Bool} (H : Hid (P list = some r)) :
    Calls Tryd.prog 75 #[.slice A0 list.length c0] w (Gives (.bool r) w) := by
  have HB := Lib.hid (Below.refl w.heap.size w)
  unfold P at H
  have N0o := N0.out
  go_enter Tryd.func75, Tryd.ntmps75
  replace H := bind_hid H
  obtain ⟨t_2, qt_2, H⟩ := H
  go_wp2_with fail
  go_at_call 105
  refine (Go.Proofs.YtkinlkmmelkdnaaDoor.GiAreByKeyShadeStringiIsShadeiNameOfShade.C (list) (12) A0 c0 _   (Lib.hid (Cells.below M0.out HB.out)) N0 qt_2).mono ?_
  rintro e_t_2 wt_2 ⟨rfl, bt_2⟩
  have HBwt_2 := Lib.hid (Below.step HB.out bt_2)
  clear bt_2
  obtain rfl := ret_hid H
  go_wp2_with fail
  go_ret
  exact ⟨rfl, HBwt_2.out⟩
end Go.Proofs.YtkinlkmmelkdnaaDoor.GiAreShades

/- loop.example/g01062/impl.CertainHues$1 as a plain function, and the contract of the program's: where the plain one has an answer, the program has it. Conditions: slices read as lists. -/
namespace Go.Proofs.YtkinlkmmelkdnaaDoor.GiCertainHues1
set_option linter.unusedVariables false
set_option linter.unusedSimpArgs false
open Go.RowKit
open Go.Proofs.YtkinlkmmelkdnaaDoor.Rowed Go.Proofs.YtkinlkmmelkdnaaDoor.Turn Go.Proofs.YtkinlkmmelkdnaaDoor.Aid Go.Proofs.YtkinlkmmelkdnaaDoor.GoP Go.Proofs.YtkinlkmmelkdnaaDoor.GoM

def P (x : Go.Proofs.YtkinlkmmelkdnaaDoor.PShade.Shade) (hq0 : ByteArray) : Option (Bool) :=
  unShade x fun (x_name : ByteArray) (x_hue : Int) (x_width : Int) (x_dark : Int) (x_light : Int) =>
  letK (x_name.toList == hq0.toList) fun (t_5 : Bool) =>
  some t_5

set_option maxRecDepth 100000 in
set_option maxHeartbeats 2000000 in
theorem C (x : Go.Proofs.YtkinlkmmelkdnaaDoor.PShade.Shade) (hq0 : ByteArray)  (gq0 : Nat) (w : World)  (Fq0h : Hid (w.cell? ⟨gq0, 0, none⟩ = some (.string hq0))) {r : Bool} (H : Hid (P x hq0 = some r)) :
    Calls Tryd.prog 78 #[x.val, .pointer (some ⟨gq0, 0, none⟩)] w (Gives (.bool r) w) := by
  have HB := Lib.hid (Below.refl w.heap.size w)
  unfold P at H
  obtain ⟨x_name, x_hue, x_width, x_dark, x_light⟩ := x
  replace H := unShade_hid H
  unfold Go.Proofs.YtkinlkmmelkdnaaDoor.PShade.Shade.val
  have Fq0 := Fq0h.out
  go_enter Tryd.func78, Tryd.ntmps78
  obtain ⟨w_x_0, hw_x_0⟩ : ∃ x, w.alloc (.cells #[.string x_name, .int .i64 x_hue, .int .i64 x_width, .int .i64 x_dark, .int .i64 x_light] 54) = x := ⟨_, rfl⟩
  have bw_x_0 : Below w.heap.size w w_x_0 := by rw [← hw_x_0]; exact (Below.refl _ _).alloc (Nat.le_refl _) _
  have HBw_x_0 := Lib.hid (Below.step HB.out bw_x_0)
  have Fq0__224 := cell_below bw_x_0 Fq0
  clear bw_x_0
  have kx_0_0 : w_x_0.cell? ⟨w.heap.size, 0, none⟩ = some (.string x_name) := by rw [← hw_x_0]; exact box_new _ _ _ 0 _ rfl
  have kx_0_1 : w_x_0.cell? ⟨w.heap.size, 1, none⟩ = some (.int .i64 x_hue) := by rw [← hw_x_0]; exact box_new _ _ _ 1 _ rfl
  have kx_0_2 : w_x_0.cell? ⟨w.heap.size, 2, none⟩ = some (.int .i64 x_width) := by rw [← hw_x_0]; exact box_new _ _ _ 2 _ rfl
  have kx_0_3 : w_x_0.cell? ⟨w.heap.size, 3, none⟩ = some (.int .i64 x_dark) := by rw [← hw_x_0]; exact box_new _ _ _ 3 _ rfl
  have kx_0_4 : w_x_0.cell? ⟨w.heap.size, 4, none⟩ = some (.int .i64 x_light) := by rw [← hw_x_0]; exact box_new _ _ _ 4 _ rfl
  replace H := let_hid H
  obtain ⟨t_5, ht_5, H⟩ := H
  obtain rfl := ret_hid H
  go_wp2_with fail
  go_ret
  exact ⟨rfl, HBw_x_0.out⟩
end Go.Proofs.YtkinlkmmelkdnaaDoor.GiCertainHues1

/- slices.IndexFunc[[]loop.example/g01062/impl.Shade,loop.example/g01062/impl.Shade] as a plain function, and the contract of the program's: where the plain one has an answer, the program has it. Conditions: slices read as lists. -/
namespace Go.Proofs.YtkinlkmmelkdnaaDoor.GxSlicesIndexFuncLoopExampleG01062ImplShadeLoopExampleG01062ImplShadeiCertainHues1
set_option linter.unusedVariables false
set_option linter.unusedSimpArgs false
open Go.RowKit
open Go.Proofs.YtkinlkmmelkdnaaDoor.Rowed Go.Proofs.YtkinlkmmelkdnaaDoor.Turn Go.Proofs.YtkinlkmmelkdnaaDoor.Aid Go.Proofs.YtkinlkmmelkdnaaDoor.GoP Go.Proofs.YtkinlkmmelkdnaaDoor.GoM

def l0 (s_0 : (List Go.Proofs.YtkinlkmmelkdnaaDoor.PShade.Shade)) (hf1_0 : ByteArray) (k0 : Nat) (s : Unit) (nx0 bk0 : Unit → Option (Int)) : Option (Int) :=
  
  Option.bind (idx s_0 (k0 : Int)) fun (yt_10 : Go.Proofs.YtkinlkmmelkdnaaDoor.PShade.Shade) =>
  unShade yt_10 fun (t_10_name : ByteArray) (t_10_hue : Int) (t_10_width : Int) (t_10_dark : Int) (t_10_light : Int) =>
  Option.bind (Go.Proofs.YtkinlkmmelkdnaaDoor.GiCertainHues1.P (Go.Proofs.YtkinlkmmelkdnaaDoor.PShade.Shade.mk t_10_name t_10_hue t_10_width t_10_dark t_10_light) hf1_0) fun (t_12 : Bool) =>
  iteK t_12
  (some (k0 : Int))
  (appK nx0 ())

def e0  (s : Unit) : Option (Int) :=
  
  some (-1)

def P (s_0 : (List Go.Proofs.YtkinlkmmelkdnaaDoor.PShade.Shade)) (hf1_0 : ByteArray) : Option (Int) :=
  cntK (l0 s_0 hf1_0) (s_0.length) 0 () (e0 )

set_option maxRecDepth 100000 in
set_option maxHeartbeats 2000000 in
theorem C (s_0 : (List Go.Proofs.YtkinlkmmelkdnaaDoor.PShade.Shade)) (hf1_0 : ByteArray) (A0 : Option Addr) (c0 : Nat) (gf1_0 : Nat) (w : World) (M0 : Hid (Cells w 5 A0 s_0.length (Go.Proofs.YtkinlkmmelkdnaaDoor.PShade.flat s_0))) (N0 : Hid (s_0.length ≤ 9223372036854775807)) (Ff1_0h : Hid (w.cell? ⟨gf1_0, 0, none⟩ = some (.string hf1_0))) {r : Int} (H : Hid (P s_0 hf1_0 = some r)) :
    Calls Tryd.prog 77 #[.slice A0 s_0.length c0, .func (.func 78) #[] #[.pointer (some ⟨gf1_0, 0, none⟩)]] w (Gives (.int .i64 r) w) := by
  have HB := Lib.hid (Below.refl w.heap.size w)
  unfold P at H
  have N0o := N0.out
  have Ff1_0 := Ff1_0h.out
  go_enter Tryd.func77, Tryd.ntmps77
  go_wp2_with fail
  go_loopg [8] (s_0.length) (fun m_ v8_ wr => ∃ (k0 : Nat) , k0 + m_ = s_0.length ∧ v8_ = .int .i64 (k0 : Int) ∧ Hid (cntK (l0 s_0 hf1_0) m_ k0 () (e0 ) = some r) ∧ Hid (Below w.heap.size w wr) ∧ wr.cell? ⟨gf1_0, 0, none⟩ = some (.string hf1_0))
  case atStart => exact ⟨0, by omega, rfl, H, HB, Ff1_0⟩
  case round =>
    obtain ⟨k0, hkm0, rfl, H, HBwr0, Ff1_0⟩ := hrel
    rename World => wr0
    cases gk with
    | zero =>
      obtain rfl : k0 = s_0.length := by omega
      have hc0 : decide (((s_0.length : Nat) : Int) < ((s_0.length : Nat) : Int)) = false := by simp
      replace H := cnt_zero H
      unfold e0 at H
      obtain rfl := ret_hid H
      go_wp2_with fail
      go_ret
      exact ⟨rfl, HBwr0.out⟩
    | succ m0 =>
      have hlt0 : k0 < s_0.length := by omega
      have hc0 : decide ((k0 : Int) < ((s_0.length : Nat) : Int)) = true := by simp; omega
      replace H := cnt_succ H
      unfold l0 at H
      replace H := idx_hid H
      obtain ⟨nt_10, yt_10, et_10, lt_10, gt_10, H⟩ := H
      obtain rfl : k0 = nt_10 := by omega
      clear et_10
      obtain ⟨t_10_name, t_10_hue, t_10_width, t_10_dark, t_10_light⟩ := yt_10
      replace H := unShade_hid H
      obtain ⟨ab_t_10, ao_t_10, zt_10, At_10, z_t_10, ct_10_0, ct_10_1, ct_10_2, ct_10_3, ct_10_4⟩ := Go.Proofs.YtkinlkmmelkdnaaDoor.OShade.at_ M0.out lt_10
      obtain rfl := Option.some.inj (gt_10.out.symm.trans z_t_10)
      subst At_10
      have ltt_10 := cell_lt ct_10_0
      replace ct_10_0 := cell_below HBwr0.out ct_10_0
      replace ct_10_1 := cell_below HBwr0.out ct_10_1
      replace ct_10_2 := cell_below HBwr0.out ct_10_2
      replace ct_10_3 := cell_below HBwr0.out ct_10_3
      replace ct_10_4 := cell_below HBwr0.out ct_10_4
      clear z_t_10
      have b0t_10 : (0 : Int) ≤ (k0 : Int) := by omega
      have b1t_10 : (k0 : Int) < ((s_0.length : Nat) : Int) := by omega
      have b2t_10 : ((k0 : Int)).toNat = k0 := by omega
      replace H := bind_hid H
      obtain ⟨t_12, qt_12, H⟩ := H
      go_wp2_with fail
      go_at_call 78
      refine (Go.Proofs.YtkinlkmmelkdnaaDoor.GiCertainHues1.C ((Go.Proofs.YtkinlkmmelkdnaaDoor.PShade.Shade.mk t_10_name t_10_hue t_10_width t_10_dark t_10_light)) (hf1_0) (gf1_0) _   (Lib.hid Ff1_0) qt_12).mono ?_
      rintro e_t_12 wt_12 ⟨rfl, bt_12⟩
      have HBwt_12 := Lib.hid (Below.step HBwr0.out bt_12)
      replace Ff1_0 := cell_below bt_12 Ff1_0
      replace ct_10_0 := cell_below bt_12 ct_10_0
      replace ct_10_1 := cell_below bt_12 ct_10_1
      replace ct_10_2 := cell_below bt_12 ct_10_2
      replace ct_10_3 := cell_below bt_12 ct_10_3
      replace ct_10_4 := cell_below bt_12 ct_10_4
      clear bt_12
      cases t_12 with
      | false =>
        replace H := ite_f H
        replace H := app_hid H
        go_wp2_with fail
        go_roundg m0
        case measure => omega
        case rel => exact ⟨k0 + 1, by omega, by go_num, H, HBwt_12, Ff1_0⟩
      | true =>
        replace H := ite_t H
        obtain rfl := ret_hid H
        go_wp2_with fail
        go_ret
        exact ⟨rfl, HBwt_12.out⟩
end Go.Proofs.YtkinlkmmelkdnaaDoor.GxSlicesIndexFuncLoopExampleG01062ImplShadeLoopExampleG01062ImplShadeiCertainHues1

/- slices.Clone[[]loop.example/g01062/impl.Shade,loop.example/g01062/impl.Shade] as a plain function, and the contract of the program's: where the plain one has an answer, the program has it. Conditions: slices read as lists. -/
namespace Go.Proofs.YtkinlkmmelkdnaaDoor.GxSlicesCloneLoopExampleG01062ImplShadeLoopExampleG01062ImplShade
set_option linter.unusedVariables false
set_option linter.unusedSimpArgs false
open Go.RowKit
open Go.Proofs.YtkinlkmmelkdnaaDoor.Rowed Go.Proofs.YtkinlkmmelkdnaaDoor.Turn Go.Proofs.YtkinlkmmelkdnaaDoor.Aid Go.Proofs.YtkinlkmmelkdnaaDoor.GoP Go.Proofs.YtkinlkmmelkdnaaDoor.GoM

def P (s_0 : (List Go.Proofs.YtkinlkmmelkdnaaDoor.PShade.Shade)) : Option ((List Go.Proofs.YtkinlkmmelkdnaaDoor.PShade.Shade)) :=
  Go.Proofs.YtkinlkmmelkdnaaDoor.GoK.nilK s_0 fun (nt_2 : Bool) =>
  iteK nt_2
  (some [])
  (guardK (([] : List Go.Proofs.YtkinlkmmelkdnaaDoor.PShade.Shade).length + s_0.length ≤ 1099511627776) <|
  letK (([] : List Go.Proofs.YtkinlkmmelkdnaaDoor.PShade.Shade) ++ s_0) fun (t_6 : (List Go.Proofs.YtkinlkmmelkdnaaDoor.PShade.Shade)) =>
  some t_6)

set_option maxRecDepth 100000 in
set_option maxHeartbeats 2000000 in
theorem C (s_0 : (List Go.Proofs.YtkinlkmmelkdnaaDoor.PShade.Shade)) (A0 : Option Addr) (c0 : Nat)  (w : World) (M0 : Hid (Cells w 5 A0 s_0.length (Go.Proofs.YtkinlkmmelkdnaaDoor.PShade.flat s_0))) (N0 : Hid (s_0.length ≤ 9223372036854775807)) (Q0 : Hid (Room A0 s_0.length c0))  {r : (List Go.Proofs.YtkinlkmmelkdnaaDoor.PShade.Shade)} (H : Hid (P s_0 = some r)) :
    Calls Tryd.prog 80 #[.slice A0 s_0.length c0] w (fun e w' => ∃ A_r c_r, e = .returned (.slice A_r r.length c_r) ∧ w'.ownsRow w.heap.size 54 5 (.slice A_r r.length c_r) r.length (Go.Proofs.YtkinlkmmelkdnaaDoor.PShade.flat r) ∧ Below w.heap.size w w') := by
  have HB := Lib.hid (Below.refl w.heap.size w)
  unfold P at H
  have N0o := N0.out
  obtain ⟨i0_54, hi_54, hz0_54, hz1_54, hz2_54⟩ := Aid.info_parts (P := Tryd.prog) (T := 54) (z := .agg #[.string ByteArray.empty, .int .i64 0, .int .i64 0, .int .i64 0, .int .i64 0]) (s := 5) (b := 48) (by kernel_rfl)
  go_enter Tryd.func80, Tryd.ntmps80
  have mt_2 := Go.Proofs.YtkinlkmmelkdnaaDoor.GoK.nil_cells (l := s_0) (Cells.below M0.out HB.out) (fun h_ => by cases s_0 with | nil => rfl | cons y_ ys_ => simp [Go.Proofs.YtkinlkmmelkdnaaDoor.PShade.flat, Go.Proofs.YtkinlkmmelkdnaaDoor.PShade.Shade.cells] at h_)
  obtain ⟨nt_2, ht_2⟩ : ∃ z_, (A0 : Option Addr).isNone = z_ := ⟨_, rfl⟩
  have rt_2 : ∀ W_, (binOp .eql 49 (.slice A0 s_0.length c0) (.slice none 0 0)).run Tryd.prog W_ = .ok (.bool nt_2) W_ := by intro W_; rw [← ht_2]; exact Lib.run_eql_slice_nil W_ _ _ _ _ _ _ _ Tryd.underlying49
  replace H := Go.Proofs.YtkinlkmmelkdnaaDoor.GoK.nilK_hid H nt_2 (by rw [← ht_2]; exact mt_2) (by intro h_; subst h_; rfl)
  clear mt_2 ht_2
  cases nt_2 with
  | false =>
    replace H := ite_f H
    obtain ⟨w_t_4, hw_t_4⟩ : ∃ x, w.alloc (.cells #[] 54) = x := ⟨_, rfl⟩
    have bw_t_4 : Below w.heap.size w w_t_4 := by rw [← hw_t_4]; exact (Below.refl _ _).alloc (Nat.le_refl _) _
    have Ot_4 : Hid (w_t_4.ownsRow w.heap.size 54 5 (.slice (some ⟨w.heap.size, 0, none⟩) 0 0) 0 []) := Lib.hid (by rw [← hw_t_4]; exact own_empty HB.out.size)
    have HBw_t_4 := Lib.hid (Below.step HB.out bw_t_4)
    clear bw_t_4
    replace H := guard_hid H
    obtain ⟨hlt_6, H⟩ := H
    replace H := let_hid H
    obtain ⟨t_6, ht_6, H⟩ := H
    have hht_6 := Lib.hid ht_6
    clear ht_6
    have hst_6 := HBw_t_4.out.size
    have Ct_6 := Lib.hid ((Cells.below M0.out HBw_t_4.out))
    go_wp2_with (at_builtin; refine append_spread rfl _ _ 49 rfl w.heap.size 54 i0_54 (.agg #[.string ByteArray.empty, .int .i64 0, .int .i64 0, .int .i64 0, .int .i64 0]) 5 48 Tryd.underlying49 hi_54 hz0_54 hz1_54 hz2_54 rfl (by decide) (some ⟨w.heap.size, 0, none⟩) 0 0 _ rfl Ot_4.out A0 s_0.length c0 (Go.Proofs.YtkinlkmmelkdnaaDoor.PShade.flat s_0) rfl Q0.out Ct_6.out (fun u hu => by obtain ⟨y_, _, hy_⟩ := List.mem_flatMap.1 hu; simp only [Go.Proofs.YtkinlkmmelkdnaaDoor.PShade.Shade.cells, List.mem_cons, List.not_mem_nil, or_false] at hy_; rcases hy_ with rfl | rfl | rfl | rfl | rfl <;> rfl) (by unfold maxLen; simp only [List.length_nil] at hlt_6; omega) (by simp only [List.length_nil] at hlt_6; omega) hst_6 ?_; intro vt_6 wt_6 ot_6 gt_6 yt_6; obtain ⟨At_6, ct_6, rfl, pt_6⟩ := own_pushS (f := Go.Proofs.YtkinlkmmelkdnaaDoor.PShade.flat) hht_6.out (by simp [Go.Proofs.YtkinlkmmelkdnaaDoor.PShade.flat]) rfl ot_6; have Pt_6 := Lib.hid pt_6; have Yt_6 := Lib.hid yt_6; have Gt_6 := Lib.hid gt_6; clear ot_6 gt_6 pt_6 yt_6; refine stop_in ?_)
    refine stop_out ?_
    clear Ct_6
    have HBwt_6 := Lib.hid (HBw_t_4.out.grown Gt_6.out hst_6 (fun q hq => (Ot_4.out.lt q hq).1))
    clear hst_6
    clear Ot_4 Yt_6 Gt_6
    obtain rfl := ret_hid H
    go_wp2_with fail
    go_ret
    exact ⟨At_6, ct_6, rfl, Pt_6.out, HBwt_6.out⟩
  | true =>
    replace H := ite_t H
    obtain rfl := ret_hid H
    go_wp2_with fail
    go_ret
    exact ⟨none, 0, rfl, own_nil, HB.out⟩
end Go.Proofs.YtkinlkmmelkdnaaDoor.GxSlicesCloneLoopExampleG01062ImplShadeLoopExampleG01062ImplShade

/- slices.Delete[[]loop.example/g01062/impl.Shade,loop.example/g01062/impl.Shade] as a plain function, and the contract of the program's: where the plain one has an answer, the program has it. Conditions: slices read as lists. -/
namespace Go.Proofs.YtkinlkmmelkdnaaDoor.GxSlicesDeleteLoopExampleG01062ImplShadeLoopExampleG01062ImplShade
set_option linter.unusedVariables false
set_option linter.unusedSimpArgs false
open Go.RowKit
open Go.Proofs.YtkinlkmmelkdnaaDoor.Rowed Go.Proofs.YtkinlkmmelkdnaaDoor.Turn Go.Proofs.YtkinlkmmelkdnaaDoor.Aid Go.Proofs.YtkinlkmmelkdnaaDoor.GoP Go.Proofs.YtkinlkmmelkdnaaDoor.GoM

def P (s_0 : (List Go.Proofs.YtkinlkmmelkdnaaDoor.PShade.Shade)) (i_1 : Int) (j_2 : Int) : Option (List Go.Proofs.YtkinlkmmelkdnaaDoor.PShade.Shade) :=
  guardK ((0 : Int) ≤ i_1 ∧ i_1 ≤ j_2 ∧ j_2 ≤ (s_0.length : Int)) <|
  some (List.take (Int.toNat i_1) s_0 ++ List.drop (Int.toNat j_2) s_0)

set_option maxRecDepth 100000 in
set_option maxHeartbeats 2000000 in
theorem C (s_0 : (List Go.Proofs.YtkinlkmmelkdnaaDoor.PShade.Shade)) (i_1 : Int) (j_2 : Int) (A0 : Option Addr) (c0 : Nat) (b0 : Nat) (w : World) (M0 : Hid (w.ownsRow b0 54 5 (.slice A0 s_0.length c0) s_0.length (Go.Proofs.YtkinlkmmelkdnaaDoor.PShade.flat s_0))) (N0 : Hid (s_0.length ≤ 9223372036854775807)) (LB : Hid (b0 ≤ w.heap.size)) {r : (List Go.Proofs.YtkinlkmmelkdnaaDoor.PShade.Shade)} (H : Hid (P s_0 i_1 j_2 = some r)) :
    Calls Tryd.prog 79 #[.slice A0 s_0.length c0, .int .i64 i_1, .int .i64 j_2] w (fun e w' => ∃ A_r c_r, e = .returned (.slice A_r r.length c_r) ∧ w'.ownsRow b0 54 5 (.slice A_r r.length c_r) r.length (Go.Proofs.YtkinlkmmelkdnaaDoor.PShade.flat r) ∧ w.grownBy w' (Value.slice A0 s_0.length c0).ownBlock ∧ Go.Proofs.YtkinlkmmelkdnaaDoor.GoK.From w A0 A_r) := by
  unfold P at H
  replace H := guard_hid H
  obtain ⟨hg, H⟩ := H
  obtain rfl := ret_hid H
  clear H
  obtain ⟨p, rfl⟩ := Int.eq_ofNat_of_zero_le hg.1
  obtain ⟨q, rfl⟩ := Int.eq_ofNat_of_zero_le (show 0 ≤ j_2 by omega)
  have hp : p ≤ q := by omega
  have hq : q ≤ s_0.length := by omega
  have N0o := N0.out
  have hR := (own_room M0.out).1
  have b0i : (0 : Int) ≤ (p : Int) := by omega
  have b1i : (p : Int) ≤ (q : Int) := by omega
  have b2i : (q : Int) ≤ ((s_0.length : Nat) : Int) := by omega
  have b3i : ((s_0.length : Nat) : Int) ≤ (c0 : Int) := by omega
  clear hg
  simp only [Int.toNat_natCast]
  obtain ⟨i0_54, hi_54, hz0_54, hz1_54, hz2_54⟩ := Aid.info_parts (P := Tryd.prog) (T := 54) (z := .agg #[.string ByteArray.empty, .int .i64 0, .int .i64 0, .int .i64 0, .int .i64 0]) (s := 5) (b := 48) (by kernel_rfl)
  have hsz : ∀ W, (sizeOf (Tryd.prog.elem 49)).run Tryd.prog W = .ok 5 W := by intro W; rw [show Tryd.prog.elem 49 = 54 by kernel_rfl]; simp [sizeOf, typeInfo, hi_54, hz1_54]
  obtain ⟨v0, r0⟩ : ∃ v0, ∀ W, (Instr.slice 49 (.slice A0 s_0.length c0) (some (.int .i64 (p : Int))) (some (.int .i64 (q : Int))) (some (.int .i64 ((s_0.length : Nat) : Int)))).run Tryd.prog W = .ok v0 W := by
    refine ⟨sliced A0 p q s_0.length 5, fun W => ?_⟩
    rw [run_slice_lhm (P := Tryd.prog) W 49 _ _ c0 (by kernel_rfl) .i64 .i64 .i64 _ _ _ b0i b1i b2i b3i, hsz W]
    rfl
  by_cases he : p = q
  · subst he
    have hl : List.take p s_0 ++ List.drop p s_0 = s_0 := List.take_append_drop _ _
    rw [hl]
    have he2 : ((p : Int) == (p : Int)) = true := by simp
    go_enter Tryd.func79, Tryd.ntmps79
    go_wp2_with fail
    go_ret
    exact ⟨A0, c0, rfl, M0.out, Aid.grown_refl _ _, Go.Proofs.YtkinlkmmelkdnaaDoor.GoK.from_self⟩
  · have he2 : ((p : Int) == (q : Int)) = false := by simp; omega
    have he3 : ¬ ((p : Int) = (q : Int)) := by omega
    have bd : Below w.heap.size w w.drew := (Below.refl _ _).drew
    have M1 := own_below M0.out bd
    obtain ⟨g, A1, c1, w1, w2, rfl, r1, r2, ra, rc, ho, hgr⟩ := Go.Proofs.YtkinlkmmelkdnaaDoor.GoD.own_cut (P := Tryd.prog) (t := 49) (e := 54) (zs := [.string (⟨#[]⟩ : ByteArray), .int .i64 0, .int .i64 0, .int .i64 0, .int .i64 0]) (by kernel_rfl) (by kernel_rfl) hi_54 hz1_54 hz0_54 (by rfl) (by rfl) (by decide) (by intro u_ hu_; simp only [List.mem_cons, List.not_mem_nil, or_false] at hu_; rcases hu_ with rfl | rfl | rfl | rfl | rfl <;> rfl) (fun u hu => by obtain ⟨y_, _, hy_⟩ := List.mem_flatMap.1 hu; simp only [Go.Proofs.YtkinlkmmelkdnaaDoor.PShade.Shade.cells, List.mem_cons, List.not_mem_nil, or_false] at hy_; rcases hy_ with rfl | rfl | rfl | rfl | rfl <;> rfl) M1 (p := p) (q := q) (by omega) hq
    have ec : (Go.Proofs.YtkinlkmmelkdnaaDoor.PShade.flat (List.take p s_0 ++ List.drop q s_0)) = ((Go.Proofs.YtkinlkmmelkdnaaDoor.PShade.flat s_0)).take (p * 5) ++ ((Go.Proofs.YtkinlkmmelkdnaaDoor.PShade.flat s_0)).drop (q * 5) := by
      show List.flatMap Go.Proofs.YtkinlkmmelkdnaaDoor.PShade.Shade.cells _ = List.take _ (List.flatMap Go.Proofs.YtkinlkmmelkdnaaDoor.PShade.Shade.cells s_0) ++ List.drop _ (List.flatMap Go.Proofs.YtkinlkmmelkdnaaDoor.PShade.Shade.cells s_0)
      rw [flat_take Go.Proofs.YtkinlkmmelkdnaaDoor.PShade.Shade.cells 5 (fun _ => rfl) _ _, flat_drop Go.Proofs.YtkinlkmmelkdnaaDoor.PShade.Shade.cells 5 (fun _ => rfl) _ _, List.flatMap_append]
    have hn : (List.take p s_0 ++ List.drop q s_0).length = p + (s_0.length - q) := by rw [List.length_append, List.length_take, List.length_drop]; omega
    rw [ec, hn]
    clear M1 ec
    go_enter Tryd.func79, Tryd.ntmps79
    go_wp2_with fail
    go_region_held3 (fun w' => Hid (0 ≤ w'.heap.size)) (exact Lib.hid (Nat.zero_le _)) (refine Go.Proofs.YtkinlkmmelkdnaaDoor.GoD.step_append_run (w := w.drew) rfl (.tmp 22) (.tmp 25) 49 rfl rfl rfl ra ?_)
    go_wp2_with fail
    go_ret
    exact ⟨_, c0, rfl, ho, Aid.grown_tr (World.grownBy.trans (by exact ⟨rfl, rfl, rfl, Nat.le_refl _, fun _ _ _ => rfl⟩ : w.grownBy w.drew _) hgr) (Aid.grown_refl _ _), Go.Proofs.YtkinlkmmelkdnaaDoor.GoK.from_self⟩
end Go.Proofs.YtkinlkmmelkdnaaDoor.GxSlicesDeleteLoopExampleG01062ImplShadeLoopExampleG01062ImplShade

/- loop.example/g01062/impl.takesIn as a plain function, and the contract of the program's: where the plain one has an answer, the program has it. Conditions: slices read as lists. -/
namespace Go.Proofs.YtkinlkmmelkdnaaDoor.GiTakesIn
set_option linter.unusedVariables false
set_option linter.unusedSimpArgs false
open Go.RowKit
open Go.Proofs.YtkinlkmmelkdnaaDoor.Rowed Go.Proofs.YtkinlkmmelkdnaaDoor.Turn Go.Proofs.YtkinlkmmelkdnaaDoor.Aid Go.Proofs.YtkinlkmmelkdnaaDoor.GoP Go.Proofs.YtkinlkmmelkdnaaDoor.GoM

def P (x : Go.Proofs.YtkinlkmmelkdnaaDoor.PShade.Shade) (hue : Int) (light : Int) : Option (Bool) :=
  unShade x fun (x_name : ByteArray) (x_hue : Int) (x_width : Int) (x_dark : Int) (x_light : Int) =>
  Option.bind (Go.Proofs.YtkinlkmmelkdnaaDoor.GiLoHueDistance.P x_hue hue) fun (t_5 : Int) =>
  letK (decide (t_5 ≤ x_width)) fun (t_8 : Bool) =>
  joinK (fun (t_16 : Bool) =>
  some t_16) fun jt_16 => iteK t_8 (Option.bind (Go.Proofs.YtkinlkmmelkdnaaDoor.GiWithin.P light x_dark x_light) fun (t_15 : Bool) =>
  appK jt_16 t_15) (appK jt_16 false)

set_option maxRecDepth 100000 in
set_option maxHeartbeats 2000000 in
theorem C (x : Go.Proofs.YtkinlkmmelkdnaaDoor.PShade.Shade) (hue : Int) (light : Int)   (w : World)   {r : Bool} (H : Hid (P x hue light = some r)) :
    Calls Tryd.prog 83 #[x.val, .int .i64 hue, .int .i64 light] w (Gives (.bool r) w) := by
  have HB := Lib.hid (Below.refl w.heap.size w)
  unfold P at H
  obtain ⟨x_name, x_hue, x_width, x_dark, x_light⟩ := x
  replace H := unShade_hid H
  unfold Go.Proofs.YtkinlkmmelkdnaaDoor.PShade.Shade.val
  go_enter Tryd.func83, Tryd.ntmps83
  obtain ⟨w_x_0, hw_x_0⟩ : ∃ x, w.alloc (.cells #[.string x_name, .int .i64 x_hue, .int .i64 x_width, .int .i64 x_dark, .int .i64 x_light] 54) = x := ⟨_, rfl⟩
  have bw_x_0 : Below w.heap.size w w_x_0 := by rw [← hw_x_0]; exact (Below.refl _ _).alloc (Nat.le_refl _) _
  have HBw_x_0 := Lib.hid (Below.step HB.out bw_x_0)
  clear bw_x_0
  have kx_0_0 : w_x_0.cell? ⟨w.heap.size, 0, none⟩ = some (.string x_name) := by rw [← hw_x_0]; exact box_new _ _ _ 0 _ rfl
  have kx_0_1 : w_x_0.cell? ⟨w.heap.size, 1, none⟩ = some (.int .i64 x_hue) := by rw [← hw_x_0]; exact box_new _ _ _ 1 _ rfl
  have kx_0_2 : w_x_0.cell? ⟨w.heap.size, 2, none⟩ = some (.int .i64 x_width) := by rw [← hw_x_0]; exact box_new _ _ _ 2 _ rfl
  have kx_0_3 : w_x_0.cell? ⟨w.heap.size, 3, none⟩ = some (.int .i64 x_dark) := by rw [← hw_x_0]; exact box_new _ _ _ 3 _ rfl
  have kx_0_4 : w_x_0.cell? ⟨w.heap.size, 4, none⟩ = some (.int .i64 x_light) := by rw [← hw_x_0]; exact box_new _ _ _ 4 _ rfl
  go_wp2_with fail
  have Hkx_0_0 := Lib.hid kx_0_0
  replace kx_0_0 := cell_regrown kx_0_0
  have Hkx_0_1 := Lib.hid kx_0_1
  replace kx_0_1 := cell_regrown kx_0_1
  have Hkx_0_2 := Lib.hid kx_0_2
  replace kx_0_2 := cell_regrown kx_0_2
  have Hkx_0_3 := Lib.hid kx_0_3
  replace kx_0_3 := cell_regrown kx_0_3
  have Hkx_0_4 := Lib.hid kx_0_4
  replace kx_0_4 := cell_regrown kx_0_4
  replace H := bind_hid H
  obtain ⟨t_5, qt_5, H⟩ := H
  have nt_5 : ∀ d os, Calls Tryd.prog 65 #[.int .i64 x_hue, .int .i64 hue] (Go.Sort.grow (redrawn w_x_0 d) os) fun e w'' => e = .returned (.int .i64 t_5) ∧ ∃ p : Regrown, w'' = Go.Sort.grow (redrawn w_x_0 p.d) p.os := fun d os => Calls.regrown_of (Go.Proofs.YtkinlkmmelkdnaaDoor.GiLoHueDistance.C (x_hue) (hue)  _    qt_5)
  replace H := let_hid H
  obtain ⟨t_8, ht_8, H⟩ := H
  replace H := join_hid H
  cases t_8 with
  | false =>
    replace H := ite_f H
    replace H := app_hid H
    refine wp_region_quiet_below (by kernel_rfl) (by kernel_rfl) ?_
    repeat (go_big_quiet_step (first | (go_at_call 65; exact nt_5 _ _)))
    refine wpQuiet_nil ?_
    intro Y1 hY1
    replace hY1 := below_class hY1
    clear nt_5
    replace kx_0_0 := Hkx_0_0.out
    clear Hkx_0_0
    replace kx_0_1 := Hkx_0_1.out
    clear Hkx_0_1
    replace kx_0_2 := Hkx_0_2.out
    clear Hkx_0_2
    replace kx_0_3 := Hkx_0_3.out
    clear Hkx_0_3
    replace kx_0_4 := Hkx_0_4.out
    clear Hkx_0_4
    have HBY1 := Lib.hid (Below.step HBw_x_0.out hY1)
    replace kx_0_0 := cell_below hY1 kx_0_0
    replace kx_0_1 := cell_below hY1 kx_0_1
    replace kx_0_2 := cell_below hY1 kx_0_2
    replace kx_0_3 := cell_below hY1 kx_0_3
    replace kx_0_4 := cell_below hY1 kx_0_4
    clear hY1
    obtain rfl := ret_hid H
    go_wp2_with fail
    go_ret
    exact ⟨rfl, HBY1.out⟩
  | true =>
    replace H := ite_t H
    replace H := bind_hid H
    obtain ⟨t_15, qt_15, H⟩ := H
    have nt_15 : ∀ d os, Calls Tryd.prog 60 #[.int .i64 light, .int .i64 x_dark, .int .i64 x_light] (Go.Sort.grow (redrawn w_x_0 d) os) fun e w'' => e = .returned (.bool t_15) ∧ ∃ p : Regrown, w'' = Go.Sort.grow (redrawn w_x_0 p.d) p.os := fun d os => Calls.regrown_of (Go.Proofs.YtkinlkmmelkdnaaDoor.GiWithin.C (light) (x_dark) (x_light)  _    qt_15)
    replace H := app_hid H
    refine wp_region_quiet_below (by kernel_rfl) (by kernel_rfl) ?_
    repeat (go_big_quiet_step (first | (go_at_call 65; exact nt_5 _ _) | (go_at_call 60; exact nt_15 _ _)))
    refine wpQuiet_nil ?_
    intro Y1 hY1
    replace hY1 := below_class hY1
    clear nt_5 nt_15
    replace kx_0_0 := Hkx_0_0.out
    clear Hkx_0_0
    replace kx_0_1 := Hkx_0_1.out
    clear Hkx_0_1
    replace kx_0_2 := Hkx_0_2.out
    clear Hkx_0_2
    replace kx_0_3 := Hkx_0_3.out
    clear Hkx_0_3
    replace kx_0_4 := Hkx_0_4.out
    clear Hkx_0_4
    have HBY1 := Lib.hid (Below.step HBw_x_0.out hY1)
    replace kx_0_0 := cell_below hY1 kx_0_0
    replace kx_0_1 := cell_below hY1 kx_0_1
    replace kx_0_2 := cell_below hY1 kx_0_2
    replace kx_0_3 := cell_below hY1 kx_0_3
    replace kx_0_4 := cell_below hY1 kx_0_4
    clear hY1
    obtain rfl := ret_hid H
    go_wp2_with fail
    go_ret
    exact ⟨rfl, HBY1.out⟩
end Go.Proofs.YtkinlkmmelkdnaaDoor.GiTakesIn

/- loop.example/g01062/impl.isFree$1 as a plain function, and the contract of the program's: where the plain one has an answer, the program has it. Conditions: slices read as lists. -/
namespace Go.Proofs.YtkinlkmmelkdnaaDoor.GiIsFree1
set_option linter.unusedVariables false
set_option linter.unusedSimpArgs false
open Go.RowKit
open Go.Proofs.YtkinlkmmelkdnaaDoor.Rowed Go.Proofs.YtkinlkmmelkdnaaDoor.Turn Go.Proofs.YtkinlkmmelkdnaaDoor.Aid Go.Proofs.YtkinlkmmelkdnaaDoor.GoP Go.Proofs.YtkinlkmmelkdnaaDoor.GoM

def P (x : Go.Proofs.YtkinlkmmelkdnaaDoor.PShade.Shade) (hq0 : Int) (hq1 : Int) : Option (Bool) :=
  unShade x fun (x_name : ByteArray) (x_hue : Int) (x_width : Int) (x_dark : Int) (x_light : Int) =>
  Option.bind (Go.Proofs.YtkinlkmmelkdnaaDoor.GiTakesIn.P (Go.Proofs.YtkinlkmmelkdnaaDoor.PShade.Shade.mk x_name x_hue x_width x_dark x_light) hq0 hq1) fun (t_5 : Bool) =>
  some t_5

set_option maxRecDepth 100000 in
set_option maxHeartbeats 2000000 in
theorem C (x : Go.Proofs.YtkinlkmmelkdnaaDoor.PShade.Shade) (hq0 : Int) (hq1 : Int)  (gq0 : Nat) (gq1 : Nat) (w : World)  (Fq0h : Hid (w.cell? ⟨gq0, 0, none⟩ = some (.int .i64 hq0))) (Fq1h : Hid (w.cell? ⟨gq1, 0, none⟩ = some (.int .i64 hq1))) {r : Bool} (H : Hid (P x hq0 hq1 = some r)) :
    Calls Tryd.prog 108 #[x.val, .pointer (some ⟨gq0, 0, none⟩), .pointer (some ⟨gq1, 0, none⟩)] w (Gives (.bool r) w) := by
  have HB := Lib.hid (Below.refl w.heap.size w)
  unfold P at H
  obtain ⟨x_name, x_hue, x_width, x_dark, x_light⟩ := x
  replace H := unShade_hid H
  unfold Go.Proofs.YtkinlkmmelkdnaaDoor.PShade.Shade.val
  have Fq0 := Fq0h.out
  have Fq1 := Fq1h.out
  go_enter Tryd.func108, Tryd.ntmps108
  obtain ⟨w_x_0, hw_x_0⟩ : ∃ x, w.alloc (.cells #[.string x_name, .int .i64 x_hue, .int .i64 x_width, .int .i64 x_dark, .int .i64 x_light] 54) = x := ⟨_, rfl⟩
  have bw_x_0 : Below w.heap.size w w_x_0 := by rw [← hw_x_0]; exact (Below.refl _ _).alloc (Nat.le_refl _) _
  have HBw_x_0 := Lib.hid (Below.step HB.out bw_x_0)
  have Fq0__225 := cell_below bw_x_0 Fq0
  have Fq1__226 := cell_below bw_x_0 Fq1
  clear bw_x_0
  have kx_0_0 : w_x_0.cell? ⟨w.heap.size, 0, none⟩ = some (.string x_name) := by rw [← hw_x_0]; exact box_new _ _ _ 0 _ rfl
  have kx_0_1 : w_x_0.cell? ⟨w.heap.size, 1, none⟩ = some (.int .i64 x_hue) := by rw [← hw_x_0]; exact box_new _ _ _ 1 _ rfl
  have kx_0_2 : w_x_0.cell? ⟨w.heap.size, 2, none⟩ = some (.int .i64 x_width) := by rw [← hw_x_0]; exact box_new _ _ _ 2 _ rfl
  have kx_0_3 : w_x_0.cell? ⟨w.heap.size, 3, none⟩ = some (.int .i64 x_dark) := by rw [← hw_x_0]; exact box_new _ _ _ 3 _ rfl
  have kx_0_4 : w_x_0.cell? ⟨w.heap.size, 4, none⟩ = some (.int .i64 x_light) := by rw [← hw_x_0]; exact box_new _ _ _ 4 _ rfl
  replace H := bind_hid H
  obtain ⟨t_5, qt_5, H⟩ := H
  go_wp2_with fail
  clear Fq0 Fq1
  go_at_call 83
  refine (Go.Proofs.YtkinlkmmelkdnaaDoor.GiTakesIn.C ((Go.Proofs.YtkinlkmmelkdnaaDoor.PShade.Shade.mk x_name x_hue x_width x_dark x_light)) (hq0) (hq1)  _    qt_5).mono ?_
  rintro e_t_5 wt_5 ⟨rfl, bt_5⟩
  have HBwt_5 := Lib.hid (Below.step HBw_x_0.out bt_5)
  replace Fq0__225 := cell_below bt_5 Fq0__225
  replace Fq1__226 := cell_below bt_5 Fq1__226
  replace kx_0_0 := cell_below bt_5 kx_0_0
  replace kx_0_1 := cell_below bt_5 kx_0_1
  replace kx_0_2 := cell_below bt_5 kx_0_2
  replace kx_0_3 := cell_below bt_5 kx_0_3
  replace kx_0_4 := cell_below bt_5 kx_0_4
  clear bt_5
  obtain rfl := ret_hid H
  go_wp2_with fail
  go_ret
  exact ⟨rfl, HBwt_5.out⟩
end Go.Proofs.YtkinlkmmelkdnaaDoor.GiIsFree1

/- slices.IndexFunc[[]loop.example/g01062/impl.Shade,loop.example/g01062/impl.Shade] as a plain function, and the contract of the program's: where the plain one has an answer, the program has it. Conditions: slices read as lists. -/
namespace Go.Proofs.YtkinlkmmelkdnaaDoor.GxSlicesIndexFuncLoopExampleG01062ImplShadeLoopExampleG01062ImplShadeiIsFree1
set_option linter.unusedVariables false
set_option linter.unusedSimpArgs false
open Go.RowKit
open Go.Proofs.YtkinlkmmelkdnaaDoor.Rowed Go.Proofs.YtkinlkmmelkdnaaDoor.Turn Go.Proofs.YtkinlkmmelkdnaaDoor.Aid Go.Proofs.YtkinlkmmelkdnaaDoor.GoP Go.Proofs.YtkinlkmmelkdnaaDoor.GoM

def l0 (s_0 : (List Go.Proofs.YtkinlkmmelkdnaaDoor.PShade.Shade)) (hf1_0 : Int) (hf1_1 : Int) (k0 : Nat) (s : Unit) (nx0 bk0 : Unit → Option (Int)) : Option (Int) :=
  
  Option.bind (idx s_0 (k0 : Int)) fun (yt_10 : Go.Proofs.YtkinlkmmelkdnaaDoor.PShade.Shade) =>
  unShade yt_10 fun (t_10_name : ByteArray) (t_10_hue : Int) (t_10_width : Int) (t_10_dark : Int) (t_10_light : Int) =>
  Option.bind (Go.Proofs.YtkinlkmmelkdnaaDoor.GiIsFree1.P (Go.Proofs.YtkinlkmmelkdnaaDoor.PShade.Shade.mk t_10_name t_10_hue t_10_width t_10_dark t_10_light) hf1_0 hf1_1) fun (t_12 : Bool) =>
  iteK t_12
  (some (k0 : Int))
  (appK nx0 ())

def e0  (s : Unit) : Option (Int) :=
  
  some (-1)

def P (s_0 : (List Go.Proofs.YtkinlkmmelkdnaaDoor.PShade.Shade)) (hf1_0 : Int) (hf1_1 : Int) : Option (Int) :=
  cntK (l0 s_0 hf1_0 hf1_1) (s_0.length) 0 () (e0 )

set_option maxRecDepth 100000 in
set_option maxHeartbeats 2000000 in
theorem C (s_0 : (List Go.Proofs.YtkinlkmmelkdnaaDoor.PShade.Shade)) (hf1_0 : Int) (hf1_1 : Int) (A0 : Option Addr) (c0 : Nat) (gf1_0 : Nat) (gf1_1 : Nat) (w : World) (M0 : Hid (Cells w 5 A0 s_0.length (Go.Proofs.YtkinlkmmelkdnaaDoor.PShade.flat s_0))) (N0 : Hid (s_0.length ≤ 9223372036854775807)) (Ff1_0h : Hid (w.cell? ⟨gf1_0, 0, none⟩ = some (.int .i64 hf1_0))) (Ff1_1h : Hid (w.cell? ⟨gf1_1, 0, none⟩ = some (.int .i64 hf1_1))) {r : Int} (H : Hid (P s_0 hf1_0 hf1_1 = some r)) :
    Calls Tryd.prog 77 #[.slice A0 s_0.length c0, .func (.func 108) #[] #[.pointer (some ⟨gf1_0, 0, none⟩), .pointer (some ⟨gf1_1, 0, none⟩)]] w (Gives (.int .i64 r) w) := by
  have HB := Lib.hid (Below.refl w.heap.size w)
  unfold P at H
  have N0o := N0.out
  have Ff1_0 := Ff1_0h.out
  have Ff1_1 := Ff1_1h.out
  go_enter Tryd.func77, Tryd.ntmps77
  go_wp2_with fail
  go_loopg [8] (s_0.length) (fun m_ v8_ wr => ∃ (k0 : Nat) , k0 + m_ = s_0.length ∧ v8_ = .int .i64 (k0 : Int) ∧ Hid (cntK (l0 s_0 hf1_0 hf1_1) m_ k0 () (e0 ) = some r) ∧ Hid (Below w.heap.size w wr) ∧ wr.cell? ⟨gf1_0, 0, none⟩ = some (.int .i64 hf1_0) ∧ wr.cell? ⟨gf1_1, 0, none⟩ = some (.int .i64 hf1_1))
  case atStart => exact ⟨0, by omega, rfl, H, HB, Ff1_0, Ff1_1⟩
  case round =>
    obtain ⟨k0, hkm0, rfl, H, HBwr0, Ff1_0, Ff1_1⟩ := hrel
    rename World => wr0
    cases gk with
    | zero =>
      obtain rfl : k0 = s_0.length := by omega
      have hc0 : decide (((s_0.length : Nat) : Int) < ((s_0.length : Nat) : Int)) = false := by simp
      replace H := cnt_zero H
      unfold e0 at H
      obtain rfl := ret_hid H
      go_wp2_with fail
      go_ret
      exact ⟨rfl, HBwr0.out⟩
    | succ m0 =>
      have hlt0 : k0 < s_0.length := by omega
      have hc0 : decide ((k0 : Int) < ((s_0.length : Nat) : Int)) = true := by simp; omega
      replace H := cnt_succ H
      unfold l0 at H
      replace H := idx_hid H
      obtain ⟨nt_10, yt_10, et_10, lt_10, gt_10, H⟩ := H
      obtain rfl : k0 = nt_10 := by omega
      clear et_10
      obtain ⟨t_10_name, t_10_hue, t_10_width, t_10_dark, t_10_light⟩ := yt_10
      replace H := unShade_hid H
      obtain ⟨ab_t_10, ao_t_10, zt_10, At_10, z_t_10, ct_10_0, ct_10_1, ct_10_2, ct_10_3, ct_10_4⟩ := Go.Proofs.YtkinlkmmelkdnaaDoor.OShade.at_ M0.out lt_10
      obtain rfl := Option.some.inj (gt_10.out.symm.trans z_t_10)
      subst At_10
      have ltt_10 := cell_lt ct_10_0
      replace ct_10_0 := cell_below HBwr0.out ct_10_0
      replace ct_10_1 := cell_below HBwr0.out ct_10_1
      replace ct_10_2 := cell_below HBwr0.out ct_10_2
      replace ct_10_3 := cell_below HBwr0.out ct_10_3
      replace ct_10_4 := cell_below HBwr0.out ct_10_4
      clear z_t_10
      have b0t_10 : (0 : Int) ≤ (k0 : Int) := by omega
      have b1t_10 : (k0 : Int) < ((s_0.length : Nat) : Int) := by omega
      have b2t_10 : ((k0 : Int)).toNat = k0 := by omega
      replace H := bind_hid H
      obtain ⟨t_12, qt_12, H⟩ := H
      go_wp2_with fail
      go_at_call 108
      refine (Go.Proofs.YtkinlkmmelkdnaaDoor.GiIsFree1.C ((Go.Proofs.YtkinlkmmelkdnaaDoor.PShade.Shade.mk t_10_name t_10_hue t_10_width t_10_dark t_10_light)) (hf1_0) (hf1_1) (gf1_0) (gf1_1) _   (Lib.hid Ff1_0) (Lib.hid Ff1_1) qt_12).mono ?_
      rintro e_t_12 wt_12 ⟨rfl, bt_12⟩
      have HBwt_12 := Lib.hid (Below.step HBwr0.out bt_12)
      replace Ff1_0 := cell_below bt_12 Ff1_0
      replace Ff1_1 := cell_below bt_12 Ff1_1
      replace ct_10_0 := cell_below bt_12 ct_10_0
      replace ct_10_1 := cell_below bt_12 ct_10_1
      replace ct_10_2 := cell_below bt_12 ct_10_2
      replace ct_10_3 := cell_below bt_12 ct_10_3
      replace ct_10_4 := cell_below bt_12 ct_10_4
      clear bt_12
      cases t_12 with
      | false =>
        replace H := ite_f H
        replace H := app_hid H
        go_wp2_with fail
        go_roundg m0
        case measure => omega
        case rel => exact ⟨k0 + 1, by omega, by go_num, H, HBwt_12, Ff1_0, Ff1_1⟩
      | true =>
        replace H := ite_t H
        obtain rfl := ret_hid H
        go_wp2_with fail
        go_ret
        exact ⟨rfl, HBwt_12.out⟩
end Go.Proofs.YtkinlkmmelkdnaaDoor.GxSlicesIndexFuncLoopExampleG01062ImplShadeLoopExampleG01062ImplShadeiIsFree1

