/- Texts on which the proofs of several laws stand, one behind the other (3 of 13). No condition of their own. -/
import Derived.Test.YtgimcnpkngpmiaaGreatDoorChecked
import Derived.Test.YtgimcnpkngpmiaaGreatDoorX12P1
import Derived.Test.YtgimcnpkngpmiaaGreatDoorX12P2
import Derived.WalkKit
import Derived.WalkSpells
import Derived.WalkLawsBesides
import Derived.BigQuiet
import Derived.OwnWalk
import Derived.Deep.LoopGhost
import Derived.Deep.QuietTactic
import Derived.IntWalk
import Derived.Lib.QuietBelow
import Derived.Deep.DeepCutAuto
/- (*loop.example/g01062/spec.l1Cur).postmark11 as a plain function, and the contract of the program's: where the plain one has an answer, the program has it. Conditions: slices read as lists. -/
namespace Go.Proofs.YtgimcnpkngpmiaaGreatDoor.GsL1CurPostmark11
set_option linter.unusedVariables false
set_option linter.unusedSimpArgs false
open Go.RowKit
open Go.Proofs.YtgimcnpkngpmiaaGreatDoor.Rowed Go.Proofs.YtgimcnpkngpmiaaGreatDoor.Turn Go.Proofs.YtgimcnpkngpmiaaGreatDoor.Aid Go.Proofs.YtgimcnpkngpmiaaGreatDoor.GoP Go.Proofs.YtgimcnpkngpmiaaGreatDoor.GoM

def q0 (nx0 : (Int × Int × ByteArray × Int × Int × Int × ByteArray × Go.Proofs.YtgimcnpkngpmiaaGreatDoor.GoC.Tape) → Option (Go.Proofs.YtgimcnpkngpmiaaGreatDoor.PPostmark.Postmark × Go.Proofs.YtgimcnpkngpmiaaGreatDoor.GoC.Tape)) (i_6l0 : Int) (p_11_c0l0 : Int) (p_11_c1l0 : ByteArray) (p_11_c2l0 : Int) (p_11_c3l0 : Int) (p_11_c4l0 : Int) (p_11_c5l0 : ByteArray) (s : Bool × Go.Proofs.YtgimcnpkngpmiaaGreatDoor.GoC.Tape) : Option (Go.Proofs.YtgimcnpkngpmiaaGreatDoor.PPostmark.Postmark × Go.Proofs.YtgimcnpkngpmiaaGreatDoor.GoC.Tape) :=
  unp2 s fun t_37q0 c0_c0q0 =>
  iteK t_37q0
  (guardK (p_11_c5l0.size + (⟨#[120]⟩ : ByteArray).size ≤ maxLen) <|
  letK (p_11_c5l0 ++ (⟨#[120]⟩ : ByteArray)) fun (t_36 : ByteArray) =>
  letK (IntKind.i64.wrap (i_6l0 + 1)) fun (t_45 : Int) =>
  appK nx0 (t_45, p_11_c0l0, p_11_c1l0, p_11_c2l0, p_11_c3l0, p_11_c4l0, t_36, c0_c0q0))
  (guardK (p_11_c5l0.size + (⟨#[46]⟩ : ByteArray).size ≤ maxLen) <|
  letK (p_11_c5l0 ++ (⟨#[46]⟩ : ByteArray)) fun (t_41 : ByteArray) =>
  letK (IntKind.i64.wrap (i_6l0 + 1)) fun (t_45 : Int) =>
  appK nx0 (t_45, p_11_c0l0, p_11_c1l0, p_11_c2l0, p_11_c3l0, p_11_c4l0, t_41, c0_c0q0))

def l0  (s : Int × Int × ByteArray × Int × Int × Int × ByteArray × Go.Proofs.YtgimcnpkngpmiaaGreatDoor.GoC.Tape) (nx0 bk0 : Int × Int × ByteArray × Int × Int × Int × ByteArray × Go.Proofs.YtgimcnpkngpmiaaGreatDoor.GoC.Tape → Option (Go.Proofs.YtgimcnpkngpmiaaGreatDoor.PPostmark.Postmark × Go.Proofs.YtgimcnpkngpmiaaGreatDoor.GoC.Tape)) : Option (Go.Proofs.YtgimcnpkngpmiaaGreatDoor.PPostmark.Postmark × Go.Proofs.YtgimcnpkngpmiaaGreatDoor.GoC.Tape) :=
  unp8 s fun i_6l0 p_11_c0l0 p_11_c1l0 p_11_c2l0 p_11_c3l0 p_11_c4l0 p_11_c5l0 c0_c0l0 =>
  letK (decide (i_6l0 < (p_11_c1l0.size : Int))) fun (t_27 : Bool) =>
  iteK t_27
  (letK (decide (0 < i_6l0)) fun (t_29 : Bool) =>
  joinK (fun (st_33 : Bool × Go.Proofs.YtgimcnpkngpmiaaGreatDoor.GoC.Tape) => unp2 st_33 fun t_33 t_33_tp =>
  q0 nx0 i_6l0 p_11_c0l0 p_11_c1l0 p_11_c2l0 p_11_c3l0 p_11_c4l0 p_11_c5l0 (t_33, t_33_tp)) fun jt_33 => iteK t_29 (bind2 (Go.Proofs.YtgimcnpkngpmiaaGreatDoor.GsL1CurOne.P c0_c0l0 4) fun (t_32 : Bool) (t_32_tp : Go.Proofs.YtgimcnpkngpmiaaGreatDoor.GoC.Tape) =>
  appK jt_33 (t_32, t_32_tp)) (appK jt_33 (false, c0_c0l0)))
  (appK bk0 (i_6l0, p_11_c0l0, p_11_c1l0, p_11_c2l0, p_11_c3l0, p_11_c4l0, p_11_c5l0, c0_c0l0))

def e0  (s : Int × Int × ByteArray × Int × Int × Int × ByteArray × Go.Proofs.YtgimcnpkngpmiaaGreatDoor.GoC.Tape) : Option (Go.Proofs.YtgimcnpkngpmiaaGreatDoor.PPostmark.Postmark × Go.Proofs.YtgimcnpkngpmiaaGreatDoor.GoC.Tape) :=
  unp8 s fun i_6l0 p_11_c0l0 p_11_c1l0 p_11_c2l0 p_11_c3l0 p_11_c4l0 p_11_c5l0 c0_c0l0 =>
  bind2 (Go.Proofs.YtgimcnpkngpmiaaGreatDoor.GsL1CurPick.P c0_c0l0 100) fun (t_48 : Int) (t_48_tp : Go.Proofs.YtgimcnpkngpmiaaGreatDoor.GoC.Tape) =>
  letK (t_48 == 0) fun (t_49 : Bool) =>
  iteK t_49
  (letK ([0, 999, 1000]) fun (t_52 : (List Int)) =>
  bind2 (Go.Proofs.YtgimcnpkngpmiaaGreatDoor.GsL1CurAmong.P t_48_tp t_52) fun (t_53 : Int) (t_53_tp : Go.Proofs.YtgimcnpkngpmiaaGreatDoor.GoC.Tape) =>
  some ((Go.Proofs.YtgimcnpkngpmiaaGreatDoor.PPostmark.Postmark.mk t_53 p_11_c1l0 p_11_c2l0 p_11_c3l0 p_11_c4l0 p_11_c5l0), t_53_tp))
  (letK (t_48 == 1) fun (t_56 : Bool) =>
  iteK t_56
  (letK ([(⟨#[]⟩ : ByteArray), (⟨#[66, 101, 114, 110]⟩ : ByteArray), (⟨#[97, 98, 99, 100, 101, 102, 103, 104, 105, 106, 107]⟩ : ByteArray)]) fun (t_59 : (List ByteArray)) =>
  bind2 (Go.Proofs.YtgimcnpkngpmiaaGreatDoor.GsL1CurOf.P t_48_tp t_59) fun (t_60 : ByteArray) (t_60_tp : Go.Proofs.YtgimcnpkngpmiaaGreatDoor.GoC.Tape) =>
  some ((Go.Proofs.YtgimcnpkngpmiaaGreatDoor.PPostmark.Postmark.mk p_11_c0l0 t_60 p_11_c2l0 p_11_c3l0 p_11_c4l0 p_11_c5l0), t_60_tp))
  (letK (t_48 == 2) fun (t_63 : Bool) =>
  iteK t_63
  (letK ([0, 6]) fun (t_66 : (List Int)) =>
  bind2 (Go.Proofs.YtgimcnpkngpmiaaGreatDoor.GsL1CurAmong.P t_48_tp t_66) fun (t_67 : Int) (t_67_tp : Go.Proofs.YtgimcnpkngpmiaaGreatDoor.GoC.Tape) =>
  some ((Go.Proofs.YtgimcnpkngpmiaaGreatDoor.PPostmark.Postmark.mk p_11_c0l0 p_11_c1l0 t_67 p_11_c3l0 p_11_c4l0 p_11_c5l0), t_67_tp))
  (letK (t_48 == 3) fun (t_70 : Bool) =>
  iteK t_70
  (letK (IntKind.i64.wrap (p_11_c4l0 + 1)) fun (t_75 : Int) =>
  letK ([(-1), t_75]) fun (t_76 : (List Int)) =>
  bind2 (Go.Proofs.YtgimcnpkngpmiaaGreatDoor.GsL1CurAmong.P t_48_tp t_76) fun (t_77 : Int) (t_77_tp : Go.Proofs.YtgimcnpkngpmiaaGreatDoor.GoC.Tape) =>
  some ((Go.Proofs.YtgimcnpkngpmiaaGreatDoor.PPostmark.Postmark.mk p_11_c0l0 p_11_c1l0 p_11_c2l0 t_77 p_11_c4l0 p_11_c5l0), t_77_tp))
  (letK (t_48 == 4) fun (t_80 : Bool) =>
  iteK t_80
  (some ((Go.Proofs.YtgimcnpkngpmiaaGreatDoor.PPostmark.Postmark.mk p_11_c0l0 p_11_c1l0 p_11_c2l0 p_11_c3l0 4001 p_11_c5l0), t_48_tp))
  (letK (t_48 == 5) fun (t_84 : Bool) =>
  iteK t_84
  (letK ([(⟨#[]⟩ : ByteArray), (⟨#[120, 120, 120, 120]⟩ : ByteArray), (⟨#[46, 46, 63, 46]⟩ : ByteArray), (⟨#[46, 46, 46, 46, 46]⟩ : ByteArray)]) fun (t_87 : (List ByteArray)) =>
  bind2 (Go.Proofs.YtgimcnpkngpmiaaGreatDoor.GsL1CurOf.P t_48_tp t_87) fun (t_88 : ByteArray) (t_88_tp : Go.Proofs.YtgimcnpkngpmiaaGreatDoor.GoC.Tape) =>
  some ((Go.Proofs.YtgimcnpkngpmiaaGreatDoor.PPostmark.Postmark.mk p_11_c0l0 p_11_c1l0 p_11_c2l0 p_11_c3l0 p_11_c4l0 t_88), t_88_tp))
  (some ((Go.Proofs.YtgimcnpkngpmiaaGreatDoor.PPostmark.Postmark.mk p_11_c0l0 p_11_c1l0 p_11_c2l0 p_11_c3l0 p_11_c4l0 p_11_c5l0), t_48_tp)))))))

def P (fuel : Nat) (c : Go.Proofs.YtgimcnpkngpmiaaGreatDoor.GoC.Tape) (id : Int) : Option (Go.Proofs.YtgimcnpkngpmiaaGreatDoor.PPostmark.Postmark × Go.Proofs.YtgimcnpkngpmiaaGreatDoor.GoC.Tape) :=
  bind2 (Go.Proofs.YtgimcnpkngpmiaaGreatDoor.GsL1CurTown11.P c) fun (t_3 : ByteArray) (t_3_tp : Go.Proofs.YtgimcnpkngpmiaaGreatDoor.GoC.Tape) =>
  bind2 (Go.Proofs.YtgimcnpkngpmiaaGreatDoor.GsL1CurPick.P t_3_tp 5) fun (t_5 : Int) (t_5_tp : Go.Proofs.YtgimcnpkngpmiaaGreatDoor.GoC.Tape) =>
  letK (IntKind.i64.wrap (1 + t_5)) fun (t_6 : Int) =>
  letK ([0, 100, 100, 200, 3990]) fun (t_8 : (List Int)) =>
  bind2 (Go.Proofs.YtgimcnpkngpmiaaGreatDoor.GsL1CurAmong.P t_5_tp t_8) fun (t_9 : Int) (t_9_tp : Go.Proofs.YtgimcnpkngpmiaaGreatDoor.GoC.Tape) =>
  letK ([0, 10, 99, 100, 4000]) fun (t_16 : (List Int)) =>
  bind2 (Go.Proofs.YtgimcnpkngpmiaaGreatDoor.GsL1CurAmong.P t_9_tp t_16) fun (t_17 : Int) (t_17_tp : Go.Proofs.YtgimcnpkngpmiaaGreatDoor.GoC.Tape) =>
  letK (IntKind.i64.wrap (t_9 + t_17)) fun (t_18 : Int) =>
  Option.bind (Go.Proofs.YtgimcnpkngpmiaaGreatDoor.GsL1Least.P 4000 t_18) fun (t_19 : Int) =>
  loopK (l0 ) fuel (0, id, t_3, t_6, t_9, t_19, (⟨#[]⟩ : ByteArray), t_17_tp) (e0 )

set_option maxRecDepth 100000 in
set_option maxHeartbeats 20000000 in
theorem C (fuel : Nat) (c : Go.Proofs.YtgimcnpkngpmiaaGreatDoor.GoC.Tape) (id : Int)   (g0 : Nat) (Ac0 : Option Addr) (cc0 : Nat) (bc0 : Nat) (w : World)   (K0 : Hid (Go.Proofs.YtgimcnpkngpmiaaGreatDoor.GoC.CurIs w bc0 g0 Ac0 cc0 c)) {r : Go.Proofs.YtgimcnpkngpmiaaGreatDoor.PPostmark.Postmark} {t_ : Go.Proofs.YtgimcnpkngpmiaaGreatDoor.GoC.Tape} (H : Hid (P fuel c id = some (r, t_))) :
    Calls Tryz.prog 53 #[.pointer (some ⟨g0, 0, none⟩), .int .i64 id] w (fun e w' => e = .returned ((Go.Proofs.YtgimcnpkngpmiaaGreatDoor.PPostmark.Postmark.val r)) ∧ Go.Proofs.YtgimcnpkngpmiaaGreatDoor.GoC.CurIs w' bc0 g0 Ac0 cc0 t_ ∧ w.grownBy w' (Value.slice (some ⟨g0, 0, none⟩) 1 1).ownBlock) := by
  have HB := Lib.hid (Aid.grown_refl w (Value.slice (some ⟨g0, 0, none⟩) 1 1).ownBlock)
  unfold P at H
  have L0 : bc0 ≤ w.heap.size := by have := Go.Proofs.YtgimcnpkngpmiaaGreatDoor.GoC.cur_lt K0.out; omega
  go_enter Tryz.func53, Tryz.ntmps53
  obtain ⟨w_t_0, hw_t_0⟩ : ∃ x, w.alloc (.cells #[.int .i64 0, .string (⟨#[]⟩ : ByteArray), .int .i64 0, .int .i64 0, .int .i64 0, .string (⟨#[]⟩ : ByteArray)] 34) = x := ⟨_, rfl⟩
  have bw_t_0 : Below w.heap.size w w_t_0 := by rw [← hw_t_0]; exact (Below.refl _ _).alloc (Nat.le_refl _) _
  have Dt_0_c0 := Lib.hid (Go.Proofs.YtgimcnpkngpmiaaGreatDoor.GoC.apart_cur K0.out)
  have HBw_t_0 := Lib.hid (grown_below HB.out bw_t_0)
  replace K0 := Lib.hid (Go.Proofs.YtgimcnpkngpmiaaGreatDoor.GoC.cur_below K0.out bw_t_0)
  clear bw_t_0
  have kt_0_0 : w_t_0.cell? ⟨w.heap.size, 0, none⟩ = some (.int .i64 0) := by rw [← hw_t_0]; exact box_new _ _ _ 0 _ rfl
  have kt_0_1 : w_t_0.cell? ⟨w.heap.size, 1, none⟩ = some (.string (⟨#[]⟩ : ByteArray)) := by rw [← hw_t_0]; exact box_new _ _ _ 1 _ rfl
  have kt_0_2 : w_t_0.cell? ⟨w.heap.size, 2, none⟩ = some (.int .i64 0) := by rw [← hw_t_0]; exact box_new _ _ _ 2 _ rfl
  have kt_0_3 : w_t_0.cell? ⟨w.heap.size, 3, none⟩ = some (.int .i64 0) := by rw [← hw_t_0]; exact box_new _ _ _ 3 _ rfl
  have kt_0_4 : w_t_0.cell? ⟨w.heap.size, 4, none⟩ = some (.int .i64 0) := by rw [← hw_t_0]; exact box_new _ _ _ 4 _ rfl
  have kt_0_5 : w_t_0.cell? ⟨w.heap.size, 5, none⟩ = some (.string (⟨#[]⟩ : ByteArray)) := by rw [← hw_t_0]; exact box_new _ _ _ 5 _ rfl
  have Ot_0 : Hid (w_t_0.ownsRow w.heap.size 34 6 (.slice (some ⟨w.heap.size, 0, none⟩) 1 1) 1 [.int .i64 0, .string (⟨#[]⟩ : ByteArray), .int .i64 0, .int .i64 0, .int .i64 0, .string (⟨#[]⟩ : ByteArray)]) := Lib.hid (by rw [← hw_t_0]; exact own_laid (n := 1) HB.out.size rfl rfl (by unfold maxLen; omega))
  replace H := bind2_hid H
  obtain ⟨t_3, t_3_tp, qt_3, H⟩ := H
  go_wp2_with fail
  go_at_call 65
  refine (Go.Proofs.YtgimcnpkngpmiaaGreatDoor.GsL1CurTown11.C (c) (g0) (Ac0) (cc0) (bc0) _   K0 qt_3).mono ?_
  rintro e_t_3 wt_3 ⟨rfl, kt_3, gt_3⟩
  have Kt_3 := Lib.hid kt_3
  have Gt_3 : Hid (w_t_0.grownBy wt_3 (Value.slice (some ⟨g0, 0, none⟩) 1 1).ownBlock) := Lib.hid gt_3
  clear kt_3 gt_3
  have HBwt_3 := Lib.hid (Aid.grown_tr HBw_t_0.out Gt_3.out)
  replace kt_0_0 := cell_other kt_0_0 Gt_3.out (Apart.symm Dt_0_c0.out)
  replace kt_0_1 := cell_other kt_0_1 Gt_3.out (Apart.symm Dt_0_c0.out)
  replace kt_0_2 := cell_other kt_0_2 Gt_3.out (Apart.symm Dt_0_c0.out)
  replace kt_0_3 := cell_other kt_0_3 Gt_3.out (Apart.symm Dt_0_c0.out)
  replace kt_0_4 := cell_other kt_0_4 Gt_3.out (Apart.symm Dt_0_c0.out)
  replace kt_0_5 := cell_other kt_0_5 Gt_3.out (Apart.symm Dt_0_c0.out)
  replace Ot_0 := Lib.hid (own_other Ot_0.out Gt_3.out (Apart.symm Dt_0_c0.out))
  clear K0 Gt_3
  replace H := bind2_hid H
  obtain ⟨t_5, t_5_tp, qt_5, H⟩ := H
  go_wp2_with fail
  go_at_call 52
  refine (Go.Proofs.YtgimcnpkngpmiaaGreatDoor.GsL1CurPick.C (t_3_tp) (5) (g0) (Ac0) (cc0) (bc0) _   Kt_3 qt_5).mono ?_
  rintro e_t_5 wt_5 ⟨rfl, kt_5, gt_5⟩
  have Kt_5 := Lib.hid kt_5
  have Gt_5 : Hid (wt_3.grownBy wt_5 (Value.slice (some ⟨g0, 0, none⟩) 1 1).ownBlock) := Lib.hid gt_5
  clear kt_5 gt_5
  have HBwt_5 := Lib.hid (Aid.grown_tr HBwt_3.out Gt_5.out)
  replace kt_0_0 := cell_other kt_0_0 Gt_5.out (Apart.symm Dt_0_c0.out)
  replace kt_0_1 := cell_other kt_0_1 Gt_5.out (Apart.symm Dt_0_c0.out)
  replace kt_0_2 := cell_other kt_0_2 Gt_5.out (Apart.symm Dt_0_c0.out)
  replace kt_0_3 := cell_other kt_0_3 Gt_5.out (Apart.symm Dt_0_c0.out)
  replace kt_0_4 := cell_other kt_0_4 Gt_5.out (Apart.symm Dt_0_c0.out)
  replace kt_0_5 := cell_other kt_0_5 Gt_5.out (Apart.symm Dt_0_c0.out)
  replace Ot_0 := Lib.hid (own_other Ot_0.out Gt_5.out (Apart.symm Dt_0_c0.out))
  clear Kt_3 Gt_5
  replace H := let_hid H
  obtain ⟨t_6, ht_6, H⟩ := H
  replace H := let_hid H
  obtain ⟨t_8, ht_8, H⟩ := H
  obtain ⟨w_t_8, hw_t_8⟩ : ∃ x, wt_5.alloc (.cells #[.int .i64 0, .int .i64 100, .int .i64 100, .int .i64 200, .int .i64 3990] 3) = x := ⟨_, rfl⟩
  have bw_t_8 : Below wt_5.heap.size wt_5 w_t_8 := by rw [← hw_t_8]; exact (Below.refl _ _).alloc (Nat.le_refl _) _
  have hs_t_8 := HBwt_5.out.size
  have nt_8 : t_8.length = 5 := by rw [← ht_8]; rfl
  have Ot_8 : Hid (w_t_8.ownsRow w.heap.size 3 1 (.slice (some ⟨wt_5.heap.size, 0, none⟩) 5 5) 5 (Go.Proofs.YtgimcnpkngpmiaaGreatDoor.HelpInt.iv t_8)) := by
    rw [← hw_t_8, ← ht_8]
    have e_ : ([.int .i64 0, .int .i64 100, .int .i64 100, .int .i64 200, .int .i64 3990] : List Value) = (Go.Proofs.YtgimcnpkngpmiaaGreatDoor.HelpInt.iv ([0, 100, 100, 200, 3990] : List Int)) := rfl
    exact Lib.hid (own_laid (n := 5) hs_t_8 e_ rfl (by unfold maxLen; omega))
  clear hs_t_8
  have hht_8 := Lib.hid ht_8
  clear ht_8
  replace nt_8 := Lib.hid nt_8
  have Dt_8_c0 := Lib.hid (Go.Proofs.YtgimcnpkngpmiaaGreatDoor.GoC.apart_cur Kt_5.out)
  have Dt_8_t_0 := Lib.hid (apart_box kt_0_0)
  have HBw_t_8 := Lib.hid (grown_below HBwt_5.out bw_t_8)
  have kt_0_0__1 := cell_below bw_t_8 kt_0_0
  have kt_0_1__2 := cell_below bw_t_8 kt_0_1
  have kt_0_2__3 := cell_below bw_t_8 kt_0_2
  have kt_0_3__4 := cell_below bw_t_8 kt_0_3
  have kt_0_4__5 := cell_below bw_t_8 kt_0_4
  have kt_0_5__6 := cell_below bw_t_8 kt_0_5
  replace Kt_5 := Lib.hid (Go.Proofs.YtgimcnpkngpmiaaGreatDoor.GoC.cur_below Kt_5.out bw_t_8)
  replace Ot_0 := Lib.hid (own_below Ot_0.out bw_t_8)
  clear bw_t_8
  replace H := bind2_hid H
  obtain ⟨t_9, t_9_tp, qt_9, H⟩ := H
  go_wp2_with fail
  clear kt_0_0 kt_0_1 kt_0_2 kt_0_3 kt_0_4 kt_0_5
  have hc_ := nt_8.out
  have hv_ : (Value.slice (some ⟨wt_5.heap.size, 0, none⟩) 5 5 : Value) = Value.slice (some ⟨wt_5.heap.size, 0, none⟩) t_8.length 5 := by rw [hc_]
  try rw [hv_]
  replace Ot_8 := Lib.hid (own_len hc_ Ot_8.out)
  clear hc_ hv_
  go_wp2_with fail
  go_at_call 55
  refine (Go.Proofs.YtgimcnpkngpmiaaGreatDoor.GsL1CurAmong.C (t_5_tp) (t_8) (some ⟨wt_5.heap.size, 0, none⟩) 5 (g0) (Ac0) (cc0) (bc0) _   (Lib.hid (own_cells Ot_8.out)) (Lib.hid (own_max Ot_8.out)) Kt_5 (Lib.hid (fun _ => Dt_8_c0.out)) qt_9).mono ?_
  rintro e_t_9 wt_9 ⟨rfl, kt_9, gt_9⟩
  have Kt_9 := Lib.hid kt_9
  have Gt_9 : Hid (w_t_8.grownBy wt_9 (Value.slice (some ⟨g0, 0, none⟩) 1 1).ownBlock) := Lib.hid gt_9
  clear kt_9 gt_9
  have HBwt_9 := Lib.hid (Aid.grown_tr HBw_t_8.out Gt_9.out)
  replace kt_0_0__1 := cell_other kt_0_0__1 Gt_9.out (Apart.symm Dt_0_c0.out)
  replace kt_0_1__2 := cell_other kt_0_1__2 Gt_9.out (Apart.symm Dt_0_c0.out)
  replace kt_0_2__3 := cell_other kt_0_2__3 Gt_9.out (Apart.symm Dt_0_c0.out)
  replace kt_0_3__4 := cell_other kt_0_3__4 Gt_9.out (Apart.symm Dt_0_c0.out)
  replace kt_0_4__5 := cell_other kt_0_4__5 Gt_9.out (Apart.symm Dt_0_c0.out)
  replace kt_0_5__6 := cell_other kt_0_5__6 Gt_9.out (Apart.symm Dt_0_c0.out)
  replace Ot_0 := Lib.hid (own_other Ot_0.out Gt_9.out (Apart.symm Dt_0_c0.out))
  replace Ot_8 := Lib.hid (own_other Ot_8.out Gt_9.out (Apart.symm Dt_8_c0.out))
  clear Kt_5 Gt_9
  go_wp2_with fail
  obtain ⟨w_p_11, hw_p_11⟩ : ∃ x, wt_9.alloc (.cells #[.int .i64 id, .string t_3, .int .i64 t_6, .int .i64 t_9, .int .i64 0, .string (⟨#[]⟩ : ByteArray)] 34) = x := ⟨_, rfl⟩
  have bw_p_11 : Below wt_9.heap.size wt_9 w_p_11 := by rw [← hw_p_11]; exact (Below.refl _ _).alloc (Nat.le_refl _) _
  have Dp_11_t_8 := Lib.hid (apart_fresh Ot_8.out)
  have Dp_11_c0 := Lib.hid (Go.Proofs.YtgimcnpkngpmiaaGreatDoor.GoC.apart_cur Kt_9.out)
  have Dp_11_t_0 := Lib.hid (apart_box kt_0_0__1)
  have HBw_p_11 := Lib.hid (grown_below HBwt_9.out bw_p_11)
  have kt_0_0__7 := cell_below bw_p_11 kt_0_0__1
  have kt_0_1__8 := cell_below bw_p_11 kt_0_1__2
  have kt_0_2__9 := cell_below bw_p_11 kt_0_2__3
  have kt_0_3__10 := cell_below bw_p_11 kt_0_3__4
  have kt_0_4__11 := cell_below bw_p_11 kt_0_4__5
  have kt_0_5__12 := cell_below bw_p_11 kt_0_5__6
  replace Ot_8 := Lib.hid (own_below Ot_8.out bw_p_11)
  replace Kt_9 := Lib.hid (Go.Proofs.YtgimcnpkngpmiaaGreatDoor.GoC.cur_below Kt_9.out bw_p_11)
  replace Ot_0 := Lib.hid (own_below Ot_0.out bw_p_11)
  clear bw_p_11
  have kp_11_0 : w_p_11.cell? ⟨wt_9.heap.size, 0, none⟩ = some (.int .i64 id) := by rw [← hw_p_11]; exact box_new _ _ _ 0 _ rfl
  have kp_11_1 : w_p_11.cell? ⟨wt_9.heap.size, 1, none⟩ = some (.string t_3) := by rw [← hw_p_11]; exact box_new _ _ _ 1 _ rfl
  have kp_11_2 : w_p_11.cell? ⟨wt_9.heap.size, 2, none⟩ = some (.int .i64 t_6) := by rw [← hw_p_11]; exact box_new _ _ _ 2 _ rfl
  have kp_11_3 : w_p_11.cell? ⟨wt_9.heap.size, 3, none⟩ = some (.int .i64 t_9) := by rw [← hw_p_11]; exact box_new _ _ _ 3 _ rfl
  have kp_11_4 : w_p_11.cell? ⟨wt_9.heap.size, 4, none⟩ = some (.int .i64 0) := by rw [← hw_p_11]; exact box_new _ _ _ 4 _ rfl
  have kp_11_5 : w_p_11.cell? ⟨wt_9.heap.size, 5, none⟩ = some (.string (⟨#[]⟩ : ByteArray)) := by rw [← hw_p_11]; exact box_new _ _ _ 5 _ rfl
  have Op_11 : Hid (w_p_11.ownsRow w.heap.size 34 6 (.slice (some ⟨wt_9.heap.size, 0, none⟩) 1 1) 1 [.int .i64 id, .string t_3, .int .i64 t_6, .int .i64 t_9, .int .i64 0, .string (⟨#[]⟩ : ByteArray)]) := Lib.hid (by rw [← hw_p_11]; exact own_laid (n := 1) HBwt_9.out.size rfl rfl (by unfold maxLen; omega))
  try simp only [hw_p_11]
  go_wp2_with fail
  clear kt_0_0__1 kt_0_1__2 kt_0_2__3 kt_0_3__4 kt_0_4__5 kt_0_5__6
  have bd2 : Below w_p_11.heap.size w_p_11 w_p_11.drew := (Below.refl _ _).drew
  have HBw_p_11.drew := Lib.hid (grown_below HBw_p_11.out bd2)
  replace kt_0_0__7 := cell_below bd2 kt_0_0__7
  replace kt_0_1__8 := cell_below bd2 kt_0_1__8
  replace kt_0_2__9 := cell_below bd2 kt_0_2__9
  replace kt_0_3__10 := cell_below bd2 kt_0_3__10
  replace kt_0_4__11 := cell_below bd2 kt_0_4__11
  replace kt_0_5__12 := cell_below bd2 kt_0_5__12
  replace kp_11_0 := cell_below bd2 kp_11_0
  replace kp_11_1 := cell_below bd2 kp_11_1
  replace kp_11_2 := cell_below bd2 kp_11_2
  replace kp_11_3 := cell_below bd2 kp_11_3
  replace kp_11_4 := cell_below bd2 kp_11_4
  replace kp_11_5 := cell_below bd2 kp_11_5
  replace Ot_8 := Lib.hid (own_below Ot_8.out bd2)
  replace Kt_9 := Lib.hid (Go.Proofs.YtgimcnpkngpmiaaGreatDoor.GoC.cur_below Kt_9.out bd2)
  replace Ot_0 := Lib.hid (own_below Ot_0.out bd2)
  replace Op_11 := Lib.hid (own_below Op_11.out bd2)
  clear bd2
  replace H := let_hid H
  obtain ⟨t_16, ht_16, H⟩ := H
  replace H := bind2_hid H
  obtain ⟨t_17, t_17_tp, qt_17, H⟩ := H
  replace H := let_hid H
  obtain ⟨t_18, ht_18, H⟩ := H
  replace H := bind_hid H
  obtain ⟨t_19, qt_19, H⟩ := H
  refine wp_region_held_drew (S := fun w' => w'.cell? ⟨w.heap.size, 0, none⟩ = some (.int .i64 0) ∧ w'.cell? ⟨w.heap.size, 1, none⟩ = some (.string (⟨#[]⟩ : ByteArray)) ∧ w'.cell? ⟨w.heap.size, 2, none⟩ = some (.int .i64 0) ∧ w'.cell? ⟨w.heap.size, 3, none⟩ = some (.int .i64 0) ∧ w'.cell? ⟨w.heap.size, 4, none⟩ = some (.int .i64 0) ∧ w'.cell? ⟨w.heap.size, 5, none⟩ = some (.string (⟨#[]⟩ : ByteArray)) ∧ w'.cell? ⟨wt_9.heap.size, 0, none⟩ = some (.int .i64 id) ∧ w'.cell? ⟨wt_9.heap.size, 1, none⟩ = some (.string t_3) ∧ w'.cell? ⟨wt_9.heap.size, 2, none⟩ = some (.int .i64 t_6) ∧ w'.cell? ⟨wt_9.heap.size, 3, none⟩ = some (.int .i64 t_9) ∧ w'.cell? ⟨wt_9.heap.size, 5, none⟩ = some (.string (⟨#[]⟩ : ByteArray)) ∧ Hid (0 ≤ w'.heap.size)) (by kernel_rfl) ⟨kt_0_0__7, kt_0_1__8, kt_0_2__9, kt_0_3__10, kt_0_4__11, kt_0_5__12, kp_11_0, kp_11_1, kp_11_2, kp_11_3, kp_11_5, Lib.hid (Nat.zero_le _)⟩ (fun hHeld => ?_)
  refine wpAnyH_take (i := 0) (oi := _) (v := ?_) rfl (by kernel_rfl) (by kernel_rfl) (by kernel_rfl) (fun _ _ _ h => h) (Or.inl ⟨by rfl, ?_⟩) (by assumption) ?_
  rotate_left
  · intro w hSw
    (try dsimp only at hSw)
    (try simp only [List.getElem_toArray, List.getElem_cons_zero, List.getElem_cons_succ])
    go_simp
    (try with_reducible rfl)
  try simp only [Act.put, List.getElem_toArray, List.getElem_cons_zero, List.getElem_cons_succ, List.setIfInBounds_toArray, List.set_cons_zero, List.set_cons_succ]
  refine wpAnyH_take (i := 1) (oi := _) (v := ?_) rfl (by kernel_rfl) (by kernel_rfl) (by kernel_rfl) (fun _ _ _ h => h) (Or.inl ⟨by rfl, ?_⟩) (by assumption) ?_
  rotate_left
  · intro w hSw
    (try dsimp only at hSw)
    (try simp only [List.getElem_toArray, List.getElem_cons_zero, List.getElem_cons_succ])
    go_simp
    (try with_reducible rfl)
  try simp only [Act.put, List.getElem_toArray, List.getElem_cons_zero, List.getElem_cons_succ, List.setIfInBounds_toArray, List.set_cons_zero, List.set_cons_succ]
  refine wpAnyH_take (i := 2) (oi := _) (v := ?_) rfl (by kernel_rfl) (by kernel_rfl) (by kernel_rfl) (fun _ _ _ h => h) (Or.inl ⟨by rfl, ?_⟩) (by assumption) ?_
  rotate_left
  · intro w hSw
    (try dsimp only at hSw)
    (try simp only [List.getElem_toArray, List.getElem_cons_zero, List.getElem_cons_succ])
    go_simp
    (try with_reducible rfl)
  try simp only [Act.put, List.getElem_toArray, List.getElem_cons_zero, List.getElem_cons_succ, List.setIfInBounds_toArray, List.set_cons_zero, List.set_cons_succ]
  refine wpAnyH_ready (rs := [3]) (by kernel_rfl) (by simp) ?_
  refine AllReadyH.cons (o := _) rfl (fun K_ hK_ => ?_) AllReadyH.nil
  obtain ⟨w_t_16, hw_t_16⟩ : ∃ x, w_p_11.drew.alloc (.cells #[.int .i64 0, .int .i64 10, .int .i64 99, .int .i64 100, .int .i64 4000] 3) = x := ⟨_, rfl⟩
  have bw_t_16 : Below w_p_11.drew.heap.size w_p_11.drew w_t_16 := by rw [← hw_t_16]; exact (Below.refl _ _).alloc (Nat.le_refl _) _
  have hs_t_16 := HBw_p_11.drew.out.size
  have nt_16 : t_16.length = 5 := by rw [← ht_16]; rfl
  have Ot_16 : Hid (w_t_16.ownsRow w.heap.size 3 1 (.slice (some ⟨w_p_11.heap.size, 0, none⟩) 5 5) 5 (Go.Proofs.YtgimcnpkngpmiaaGreatDoor.HelpInt.iv t_16)) := by
    rw [← hw_t_16, ← ht_16]
    have e_ : ([.int .i64 0, .int .i64 10, .int .i64 99, .int .i64 100, .int .i64 4000] : List Value) = (Go.Proofs.YtgimcnpkngpmiaaGreatDoor.HelpInt.iv ([0, 10, 99, 100, 4000] : List Int)) := rfl
    exact Lib.hid (own_laid (n := 5) hs_t_16 e_ rfl (by unfold maxLen; omega))
  clear hs_t_16
  have hht_16 := Lib.hid ht_16
  clear ht_16
  replace nt_16 := Lib.hid nt_16
  have Dt_16_t_8 := Lib.hid (apart_fresh Ot_8.out)
  have Dt_16_c0 := Lib.hid (Go.Proofs.YtgimcnpkngpmiaaGreatDoor.GoC.apart_cur Kt_9.out)
  have Dt_16_t_0 := Lib.hid (apart_box kt_0_0__7)
  have Dt_16_p_11 := Lib.hid (apart_box kp_11_0)
  have HBw_t_16 := Lib.hid (grown_below HBw_p_11.drew.out bw_t_16)
  have kt_0_0__37 := cell_below bw_t_16 kt_0_0__7
  have kt_0_1__38 := cell_below bw_t_16 kt_0_1__8
  have kt_0_2__39 := cell_below bw_t_16 kt_0_2__9
  have kt_0_3__40 := cell_below bw_t_16 kt_0_3__10
  have kt_0_4__41 := cell_below bw_t_16 kt_0_4__11
  have kt_0_5__42 := cell_below bw_t_16 kt_0_5__12
  have kp_11_0__43 := cell_below bw_t_16 kp_11_0
  have kp_11_1__44 := cell_below bw_t_16 kp_11_1
  have kp_11_2__45 := cell_below bw_t_16 kp_11_2
  have kp_11_3__46 := cell_below bw_t_16 kp_11_3
  have kp_11_4__47 := cell_below bw_t_16 kp_11_4
  have kp_11_5__48 := cell_below bw_t_16 kp_11_5
  replace Ot_8 := Lib.hid (own_below Ot_8.out bw_t_16)
  replace Kt_9 := Lib.hid (Go.Proofs.YtgimcnpkngpmiaaGreatDoor.GoC.cur_below Kt_9.out bw_t_16)
  replace Ot_0 := Lib.hid (own_below Ot_0.out bw_t_16)
  replace Op_11 := Lib.hid (own_below Op_11.out bw_t_16)
  clear bw_t_16
  (try simp only [List.getElem_toArray, List.getElem_cons_zero, List.getElem_cons_succ])
  go_simp
  first | refine hK_.out _ _ ⟨kt_0_0__37, kt_0_1__38, kt_0_2__39, kt_0_3__40, kt_0_4__41, kt_0_5__42, kp_11_0__43, kp_11_1__44, kp_11_2__45, kp_11_3__46, kp_11_5__48, Lib.hid (Nat.zero_le _)⟩ (fun hHeld => ?_) | (go_wp2_with fail; refine hK_.out _ _ ⟨kt_0_0__37, kt_0_1__38, kt_0_2__39, kt_0_3__40, kt_0_4__41, kt_0_5__42, kp_11_0__43, kp_11_1__44, kp_11_2__45, kp_11_3__46, kp_11_5__48, Lib.hid (Nat.zero_le _)⟩ (fun hHeld => ?_))
  clear hK_ K_
  try simp only [Act.put, List.getElem_toArray, List.getElem_cons_zero, List.getElem_cons_succ, List.setIfInBounds_toArray, List.set_cons_zero, List.set_cons_succ]
  refine wpAnyH_ready (rs := [4]) (by kernel_rfl) (by simp) ?_
  refine AllReadyH.cons (o := _) rfl (fun K_ hK_ => ?_) AllReadyH.nil
  (try simp only [List.getElem_toArray, List.getElem_cons_zero, List.getElem_cons_succ])
  go_simp
  have hc0_ := nt_16.out
  have Oct_17_1 := Lib.hid (own_len hc0_ Ot_16.out)
  have con_ := Go.Proofs.YtgimcnpkngpmiaaGreatDoor.GsL1CurAmong.C (t_9_tp) (t_16) (some ⟨w_p_11.heap.size, 0, none⟩) 5 (g0) (Ac0) (cc0) (bc0) _   (Lib.hid (own_cells Oct_17_1.out)) (Lib.hid (own_max Oct_17_1.out)) Kt_9 (Lib.hid (fun _ => Dt_16_c0.out)) qt_17
  rw [hc0_] at con_
  clear hc0_ Oct_17_1
  go_at_call 55
  with_reducible show Calls _ _ _ w_t_16 _
  refine con_.mono ?_
  rintro e_t_17 wt_17 ⟨rfl, kt_17, gt_17⟩
  have Kt_17 := Lib.hid kt_17
  have Gt_17 : Hid (w_t_16.grownBy wt_17 (Value.slice (some ⟨g0, 0, none⟩) 1 1).ownBlock) := Lib.hid gt_17
  clear kt_17 gt_17
  have HBwt_17 := Lib.hid (Aid.grown_tr HBw_t_16.out Gt_17.out)
  replace kt_0_0__37 := cell_other kt_0_0__37 Gt_17.out (Apart.symm Dt_0_c0.out)
  replace kt_0_1__38 := cell_other kt_0_1__38 Gt_17.out (Apart.symm Dt_0_c0.out)
  replace kt_0_2__39 := cell_other kt_0_2__39 Gt_17.out (Apart.symm Dt_0_c0.out)
  replace kt_0_3__40 := cell_other kt_0_3__40 Gt_17.out (Apart.symm Dt_0_c0.out)
  replace kt_0_4__41 := cell_other kt_0_4__41 Gt_17.out (Apart.symm Dt_0_c0.out)
  replace kt_0_5__42 := cell_other kt_0_5__42 Gt_17.out (Apart.symm Dt_0_c0.out)
  replace kp_11_0__43 := cell_other kp_11_0__43 Gt_17.out (Apart.symm Dp_11_c0.out)
  replace kp_11_1__44 := cell_other kp_11_1__44 Gt_17.out (Apart.symm Dp_11_c0.out)
  replace kp_11_2__45 := cell_other kp_11_2__45 Gt_17.out (Apart.symm Dp_11_c0.out)
  replace kp_11_3__46 := cell_other kp_11_3__46 Gt_17.out (Apart.symm Dp_11_c0.out)
  replace kp_11_4__47 := cell_other kp_11_4__47 Gt_17.out (Apart.symm Dp_11_c0.out)
  replace kp_11_5__48 := cell_other kp_11_5__48 Gt_17.out (Apart.symm Dp_11_c0.out)
  replace Ot_0 := Lib.hid (own_other Ot_0.out Gt_17.out (Apart.symm Dt_0_c0.out))
  replace Op_11 := Lib.hid (own_other Op_11.out Gt_17.out (Apart.symm Dp_11_c0.out))
  replace Ot_8 := Lib.hid (own_other Ot_8.out Gt_17.out (Apart.symm Dt_8_c0.out))
  replace Ot_16 := Lib.hid (own_other Ot_16.out Gt_17.out (Apart.symm Dt_16_c0.out))
  clear kt_0_0__7 kt_0_1__8 kt_0_2__9 kt_0_3__10 kt_0_4__11 kt_0_5__12 kp_11_0 kp_11_1 kp_11_2 kp_11_3 kp_11_4 kp_11_5
  clear Kt_9 Gt_17
  clear qt_17
  first | refine hK_.out _ _ ⟨kt_0_0__37, kt_0_1__38, kt_0_2__39, kt_0_3__40, kt_0_4__41, kt_0_5__42, kp_11_0__43, kp_11_1__44, kp_11_2__45, kp_11_3__46, kp_11_5__48, Lib.hid (Nat.zero_le _)⟩ (fun hHeld => ?_) | (go_wp2_with fail; refine hK_.out _ _ ⟨kt_0_0__37, kt_0_1__38, kt_0_2__39, kt_0_3__40, kt_0_4__41, kt_0_5__42, kp_11_0__43, kp_11_1__44, kp_11_2__45, kp_11_3__46, kp_11_5__48, Lib.hid (Nat.zero_le _)⟩ (fun hHeld => ?_))
  clear hK_ K_
  try simp only [Act.put, List.getElem_toArray, List.getElem_cons_zero, List.getElem_cons_succ, List.setIfInBounds_toArray, List.set_cons_zero, List.set_cons_succ]
  refine wpAnyH_take (i := 5) (oi := _) (v := ?_) rfl (by kernel_rfl) (by kernel_rfl) (by kernel_rfl) (fun _ _ _ h => h) (Or.inl ⟨by rfl, ?_⟩) (by assumption) ?_
  rotate_left
  · intro w hSw
    (try dsimp only at hSw)
    (try simp only [List.getElem_toArray, List.getElem_cons_zero, List.getElem_cons_succ])
    go_simp
    (try with_reducible rfl)
  try simp only [Act.put, List.getElem_toArray, List.getElem_cons_zero, List.getElem_cons_succ, List.setIfInBounds_toArray, List.set_cons_zero, List.set_cons_succ]
  refine wpAnyH_ready (rs := [6]) (by kernel_rfl) (by simp) ?_
  refine AllReadyH.cons (o := _) rfl (fun K_ hK_ => ?_) AllReadyH.nil
  (try simp only [List.getElem_toArray, List.getElem_cons_zero, List.getElem_cons_succ])
  go_simp
  go_at_call 30
  with_reducible show Calls _ _ _ wt_17 _
  refine (Go.Proofs.YtgimcnpkngpmiaaGreatDoor.GsL1Least.C (4000) (t_18)  _    qt_19).mono ?_
  rintro e_t_19 wt_19 ⟨rfl, bt_19⟩
  have HBwt_19 := Lib.hid (grown_below HBwt_17.out bt_19)
  replace kt_0_0__37 := cell_below bt_19 kt_0_0__37
  replace kt_0_1__38 := cell_below bt_19 kt_0_1__38
  replace kt_0_2__39 := cell_below bt_19 kt_0_2__39
  replace kt_0_3__40 := cell_below bt_19 kt_0_3__40
  replace kt_0_4__41 := cell_below bt_19 kt_0_4__41
  replace kt_0_5__42 := cell_below bt_19 kt_0_5__42
  replace kp_11_0__43 := cell_below bt_19 kp_11_0__43
  replace kp_11_1__44 := cell_below bt_19 kp_11_1__44
  replace kp_11_2__45 := cell_below bt_19 kp_11_2__45
  replace kp_11_3__46 := cell_below bt_19 kp_11_3__46
  replace kp_11_4__47 := cell_below bt_19 kp_11_4__47
  replace kp_11_5__48 := cell_below bt_19 kp_11_5__48
  replace Ot_8 := Lib.hid (own_below Ot_8.out bt_19)
  replace Ot_16 := Lib.hid (own_below Ot_16.out bt_19)
  replace Kt_17 := Lib.hid (Go.Proofs.YtgimcnpkngpmiaaGreatDoor.GoC.cur_below Kt_17.out bt_19)
  replace Ot_0 := Lib.hid (own_below Ot_0.out bt_19)
  replace Op_11 := Lib.hid (own_below Op_11.out bt_19)
  clear bt_19
  clear qt_19
  first | refine hK_.out _ _ ⟨kt_0_0__37, kt_0_1__38, kt_0_2__39, kt_0_3__40, kt_0_4__41, kt_0_5__42, kp_11_0__43, kp_11_1__44, kp_11_2__45, kp_11_3__46, kp_11_5__48, Lib.hid (Nat.zero_le _)⟩ (fun hHeld => ?_) | (go_wp2_with fail; refine hK_.out _ _ ⟨kt_0_0__37, kt_0_1__38, kt_0_2__39, kt_0_3__40, kt_0_4__41, kt_0_5__42, kp_11_0__43, kp_11_1__44, kp_11_2__45, kp_11_3__46, kp_11_5__48, Lib.hid (Nat.zero_le _)⟩ (fun hHeld => ?_))
  clear hK_ K_
  try simp only [Act.put, List.getElem_toArray, List.getElem_cons_zero, List.getElem_cons_succ, List.setIfInBounds_toArray, List.set_cons_zero, List.set_cons_succ]
  refine wpAnyH_take (i := 7) (oi := _) (v := ?_) rfl (by kernel_rfl) (by kernel_rfl) (by kernel_rfl) (fun _ _ _ h => h) (Or.inl ⟨by rfl, ?_⟩) (by assumption) ?_
  rotate_left
  · intro w hSw
    (try dsimp only at hSw)
    (try simp only [List.getElem_toArray, List.getElem_cons_zero, List.getElem_cons_succ])
    go_simp
    (try with_reducible rfl)
  try simp only [Act.put, List.getElem_toArray, List.getElem_cons_zero, List.getElem_cons_succ, List.setIfInBounds_toArray, List.set_cons_zero, List.set_cons_succ]
  refine wpAnyH_ready (rs := [8]) (by kernel_rfl) (by simp) ?_
  refine AllReadyH.cons (o := _) rfl (fun K_ hK_ => ?_) AllReadyH.nil
  obtain ⟨wb21_21, hwb21_21⟩ : ∃ x, (wt_19).setCell ⟨wt_9.heap.size, 4, none⟩ (.int .i64 t_19) = x := ⟨_, rfl⟩
  have z0b21_21 := Op_11.out.frozenAt 4
  have Sb21_21 := Lib.hid (own_stores [(4, .int .i64 t_19)] Op_11.out)
  have Pb21_21 : Hid (wb21_21.ownsRow w.heap.size 34 6 (.slice (some ⟨wt_9.heap.size, 0, none⟩) 1 1) 1 [.int .i64 id, .string t_3, .int .i64 t_6, .int .i64 t_9, .int .i64 t_19, .string (⟨#[]⟩ : ByteArray)]) := Lib.hid (by rw [← hwb21_21]; exact Sb21_21.out.1)
  have Gb21_21 : Hid (wt_19.grownBy wb21_21 (Value.slice (some ⟨wt_9.heap.size, 0, none⟩) 1 1).ownBlock) := Lib.hid (by rw [← hwb21_21]; exact Sb21_21.out.2)
  have HBwb21_21 := Lib.hid (Go.Proofs.YtgimcnpkngpmiaaGreatDoor.GoC.grown_new HBwt_19.out Gb21_21.out (Go.Proofs.YtgimcnpkngpmiaaGreatDoor.GoC.own_ge Op_11.out))
  clear Sb21_21
  have kt_0_0__49 := cell_other kt_0_0__37 Gb21_21.out Dp_11_t_0.out
  have kt_0_1__50 := cell_other kt_0_1__38 Gb21_21.out Dp_11_t_0.out
  have kt_0_2__51 := cell_other kt_0_2__39 Gb21_21.out Dp_11_t_0.out
  have kt_0_3__52 := cell_other kt_0_3__40 Gb21_21.out Dp_11_t_0.out
  have kt_0_4__53 := cell_other kt_0_4__41 Gb21_21.out Dp_11_t_0.out
  have kt_0_5__54 := cell_other kt_0_5__42 Gb21_21.out Dp_11_t_0.out
  replace Ot_0 := Lib.hid (own_other Ot_0.out Gb21_21.out Dp_11_t_0.out)
  replace Ot_8 := Lib.hid (own_other Ot_8.out Gb21_21.out Dp_11_t_8.out)
  replace Ot_16 := Lib.hid (own_other Ot_16.out Gb21_21.out (Apart.symm Dt_16_p_11.out))
  replace Kt_17 := Lib.hid (Go.Proofs.YtgimcnpkngpmiaaGreatDoor.GoC.cur_otherO Kt_17.out Gb21_21.out Dp_11_c0.out L0 Op_11.out)
  clear Op_11 Gb21_21
  have kp_11_0__55 : wb21_21.cell? ⟨wt_9.heap.size, 0, none⟩ = some (.int .i64 id) := Pb21_21.out.cells rfl 0 _ rfl
  have kp_11_1__56 : wb21_21.cell? ⟨wt_9.heap.size, 1, none⟩ = some (.string t_3) := Pb21_21.out.cells rfl 1 _ rfl
  have kp_11_2__57 : wb21_21.cell? ⟨wt_9.heap.size, 2, none⟩ = some (.int .i64 t_6) := Pb21_21.out.cells rfl 2 _ rfl
  have kp_11_3__58 : wb21_21.cell? ⟨wt_9.heap.size, 3, none⟩ = some (.int .i64 t_9) := Pb21_21.out.cells rfl 3 _ rfl
  have kp_11_4__59 : wb21_21.cell? ⟨wt_9.heap.size, 4, none⟩ = some (.int .i64 t_19) := Pb21_21.out.cells rfl 4 _ rfl
  have kp_11_5__60 : wb21_21.cell? ⟨wt_9.heap.size, 5, none⟩ = some (.string (⟨#[]⟩ : ByteArray)) := Pb21_21.out.cells rfl 5 _ rfl
  (try simp only [List.getElem_toArray, List.getElem_cons_zero, List.getElem_cons_succ])
  go_simp
  first | refine hK_.out _ _ ⟨kt_0_0__49, kt_0_1__50, kt_0_2__51, kt_0_3__52, kt_0_4__53, kt_0_5__54, kp_11_0__55, kp_11_1__56, kp_11_2__57, kp_11_3__58, kp_11_5__60, Lib.hid (Nat.zero_le _)⟩ (fun hHeld => ?_) | (go_wp2_with fail; refine hK_.out _ _ ⟨kt_0_0__49, kt_0_1__50, kt_0_2__51, kt_0_3__52, kt_0_4__53, kt_0_5__54, kp_11_0__55, kp_11_1__56, kp_11_2__57, kp_11_3__58, kp_11_5__60, Lib.hid (Nat.zero_le _)⟩ (fun hHeld => ?_))
  clear hK_ K_
  try simp only [Act.put, List.getElem_toArray, List.getElem_cons_zero, List.getElem_cons_succ, List.setIfInBounds_toArray, List.set_cons_zero, List.set_cons_succ]
  refine wpAnyH_done (by kernel_rfl) ?_ _
  try clear z0b21_21
  try clear kt_0_0__37
  try clear kt_0_1__38
  try clear kt_0_2__39
  try clear kt_0_3__40
  try clear kt_0_4__41
  try clear kt_0_5__42
  try clear kp_11_0__43
  try clear kp_11_1__44
  try clear kp_11_2__45
  try clear kp_11_3__46
  try clear kp_11_4__47
  try clear kp_11_5__48
  go_wp2_with fail
  go_loopg [6] (fuel) (fun m_ v6_ wr => ∃ (i_6l0 : Int) (p_11_c0l0 : Int) (p_11_c1l0 : ByteArray) (p_11_c2l0 : Int) (p_11_c3l0 : Int) (p_11_c4l0 : Int) (p_11_c5l0 : ByteArray) (c0_c0l0 : Go.Proofs.YtgimcnpkngpmiaaGreatDoor.GoC.Tape), v6_ = .int .i64 i_6l0 ∧ Hid (loopK (l0 ) m_ (i_6l0, p_11_c0l0, p_11_c1l0, p_11_c2l0, p_11_c3l0, p_11_c4l0, p_11_c5l0, c0_c0l0) (e0 ) = some (r, t_)) ∧ Hid (w.grownBy wr (Value.slice (some ⟨g0, 0, none⟩) 1 1).ownBlock) ∧ wr.cell? ⟨w.heap.size, 0, none⟩ = some (.int .i64 0) ∧ wr.cell? ⟨w.heap.size, 1, none⟩ = some (.string (⟨#[]⟩ : ByteArray)) ∧ wr.cell? ⟨w.heap.size, 2, none⟩ = some (.int .i64 0) ∧ wr.cell? ⟨w.heap.size, 3, none⟩ = some (.int .i64 0) ∧ wr.cell? ⟨w.heap.size, 4, none⟩ = some (.int .i64 0) ∧ wr.cell? ⟨w.heap.size, 5, none⟩ = some (.string (⟨#[]⟩ : ByteArray)) ∧ wr.cell? ⟨wt_9.heap.size, 0, none⟩ = some (.int .i64 p_11_c0l0) ∧ wr.cell? ⟨wt_9.heap.size, 1, none⟩ = some (.string p_11_c1l0) ∧ wr.cell? ⟨wt_9.heap.size, 2, none⟩ = some (.int .i64 p_11_c2l0) ∧ wr.cell? ⟨wt_9.heap.size, 3, none⟩ = some (.int .i64 p_11_c3l0) ∧ wr.cell? ⟨wt_9.heap.size, 4, none⟩ = some (.int .i64 p_11_c4l0) ∧ wr.cell? ⟨wt_9.heap.size, 5, none⟩ = some (.string p_11_c5l0) ∧ Hid (wr.ownsRow w.heap.size 34 6 (.slice (some ⟨w.heap.size, 0, none⟩) 1 1) 1 [.int .i64 0, .string (⟨#[]⟩ : ByteArray), .int .i64 0, .int .i64 0, .int .i64 0, .string (⟨#[]⟩ : ByteArray)]) ∧ Hid (wr.ownsRow w.heap.size 34 6 (.slice (some ⟨wt_9.heap.size, 0, none⟩) 1 1) 1 [.int .i64 p_11_c0l0, .string p_11_c1l0, .int .i64 p_11_c2l0, .int .i64 p_11_c3l0, .int .i64 p_11_c4l0, .string p_11_c5l0]) ∧ Hid (wr.ownsRow w.heap.size 3 1 (.slice (some ⟨wt_5.heap.size, 0, none⟩) t_8.length 5) t_8.length (Go.Proofs.YtgimcnpkngpmiaaGreatDoor.HelpInt.iv t_8)) ∧ Hid (wr.ownsRow w.heap.size 3 1 (.slice (some ⟨w_p_11.heap.size, 0, none⟩) 5 5) 5 (Go.Proofs.YtgimcnpkngpmiaaGreatDoor.HelpInt.iv t_16)) ∧ Hid (Go.Proofs.YtgimcnpkngpmiaaGreatDoor.GoC.CurIs wr bc0 g0 Ac0 cc0 c0_c0l0))
  case atStart => exact ⟨_, _, _, _, _, _, _, _, rfl, H, HBwb21_21, kt_0_0__49, kt_0_1__50, kt_0_2__51, kt_0_3__52, kt_0_4__53, kt_0_5__54, kp_11_0__55, kp_11_1__56, kp_11_2__57, kp_11_3__58, kp_11_4__59, kp_11_5__60, Ot_0, Pb21_21, Ot_8, Ot_16, Kt_17⟩
  case round =>
    obtain ⟨i_6l0, p_11_c0l0, p_11_c1l0, p_11_c2l0, p_11_c3l0, p_11_c4l0, p_11_c5l0, c0_c0l0, rfl, H, HBwr0, kt_0_0__49, kt_0_1__50, kt_0_2__51, kt_0_3__52, kt_0_4__53, kt_0_5__54, kp_11_0__55, kp_11_1__56, kp_11_2__57, kp_11_3__58, kp_11_4__59, kp_11_5__60, Ot_0, Pb21_21, Ot_8, Ot_16, Kl0_0⟩ := hrel
    rename World => wr0
    cases gk with
    | zero => exact (loop_zero H).elim
    | succ m0 =>
      replace H := loop_succ H
      unfold l0 at H
      replace H := unp8_hid H
      replace H := let_hid H
      obtain ⟨t_27, ht_27, H⟩ := H
      cases t_27 with
      | false =>
        replace H := ite_f H
        replace H := app_hid H
        unfold e0 at H
        replace H := unp8_hid H
        replace H := bind2_hid H
        obtain ⟨t_48, t_48_tp, qt_48, H⟩ := H
        go_wp2_with fail
        go_at_call 52
        refine (Go.Proofs.YtgimcnpkngpmiaaGreatDoor.GsL1CurPick.C (c0_c0l0) (100) (g0) (Ac0) (cc0) (bc0) _   Kl0_0 qt_48).mono ?_
        rintro e_t_48 wt_48 ⟨rfl, kt_48, gt_48⟩
        have Kt_48 := Lib.hid kt_48
        have Gt_48 : Hid (wr0.grownBy wt_48 (Value.slice (some ⟨g0, 0, none⟩) 1 1).ownBlock) := Lib.hid gt_48
        clear kt_48 gt_48
        have HBwt_48 := Lib.hid (Aid.grown_tr HBwr0.out Gt_48.out)
        replace kt_0_0__49 := cell_other kt_0_0__49 Gt_48.out (Apart.symm Dt_0_c0.out)
        replace kt_0_1__50 := cell_other kt_0_1__50 Gt_48.out (Apart.symm Dt_0_c0.out)
        replace kt_0_2__51 := cell_other kt_0_2__51 Gt_48.out (Apart.symm Dt_0_c0.out)
        replace kt_0_3__52 := cell_other kt_0_3__52 Gt_48.out (Apart.symm Dt_0_c0.out)
        replace kt_0_4__53 := cell_other kt_0_4__53 Gt_48.out (Apart.symm Dt_0_c0.out)
        replace kt_0_5__54 := cell_other kt_0_5__54 Gt_48.out (Apart.symm Dt_0_c0.out)
        replace kp_11_0__55 := cell_other kp_11_0__55 Gt_48.out (Apart.symm Dp_11_c0.out)
        replace kp_11_1__56 := cell_other kp_11_1__56 Gt_48.out (Apart.symm Dp_11_c0.out)
        replace kp_11_2__57 := cell_other kp_11_2__57 Gt_48.out (Apart.symm Dp_11_c0.out)
        replace kp_11_3__58 := cell_other kp_11_3__58 Gt_48.out (Apart.symm Dp_11_c0.out)
        replace kp_11_4__59 := cell_other kp_11_4__59 Gt_48.out (Apart.symm Dp_11_c0.out)
        replace kp_11_5__60 := cell_other kp_11_5__60 Gt_48.out (Apart.symm Dp_11_c0.out)
        replace Ot_0 := Lib.hid (own_other Ot_0.out Gt_48.out (Apart.symm Dt_0_c0.out))
        replace Pb21_21 := Lib.hid (own_other Pb21_21.out Gt_48.out (Apart.symm Dp_11_c0.out))
        replace Ot_8 := Lib.hid (own_other Ot_8.out Gt_48.out (Apart.symm Dt_8_c0.out))
        replace Ot_16 := Lib.hid (own_other Ot_16.out Gt_48.out (Apart.symm Dt_16_c0.out))
        clear Kl0_0 Gt_48
        replace H := let_hid H
        obtain ⟨t_49, ht_49, H⟩ := H
        cases t_49 with
        | false =>
          replace H := ite_f H
          replace H := let_hid H
          obtain ⟨t_56, ht_56, H⟩ := H
          cases t_56 with
          | false =>
            replace H := ite_f H
            replace H := let_hid H
            obtain ⟨t_63, ht_63, H⟩ := H
            cases t_63 with
            | false =>
              replace H := ite_f H
              replace H := let_hid H
              obtain ⟨t_70, ht_70, H⟩ := H
              cases t_70 with
              | false =>
                replace H := ite_f H
                replace H := let_hid H
                obtain ⟨t_80, ht_80, H⟩ := H
                cases t_80 with
                | false =>
                  replace H := ite_f H
                  replace H := let_hid H
                  obtain ⟨t_84, ht_84, H⟩ := H
                  cases t_84 with
                  | false =>
                    replace H := ite_f H
                    obtain ⟨wb92_92, hwb92_92⟩ : ∃ x, ((((((wt_48).setCell ⟨w.heap.size, 0, none⟩ (.int .i64 p_11_c0l0)).setCell ⟨w.heap.size, 1, none⟩ (.string p_11_c1l0)).setCell ⟨w.heap.size, 2, none⟩ (.int .i64 p_11_c2l0)).setCell ⟨w.heap.size, 3, none⟩ (.int .i64 p_11_c3l0)).setCell ⟨w.heap.size, 4, none⟩ (.int .i64 p_11_c4l0)).setCell ⟨w.heap.size, 5, none⟩ (.string p_11_c5l0) = x := ⟨_, rfl⟩
                    have z0b92_92 := Ot_0.out.frozenAt 0
                    have z1b92_92 := Ot_0.out.frozenAt 1
                    have z2b92_92 := Ot_0.out.frozenAt 2
                    have z3b92_92 := Ot_0.out.frozenAt 3
                    have z4b92_92 := Ot_0.out.frozenAt 4
                    have z5b92_92 := Ot_0.out.frozenAt 5
                    have Sb92_92 := Lib.hid (own_stores [(0, .int .i64 p_11_c0l0), (1, .string p_11_c1l0), (2, .int .i64 p_11_c2l0), (3, .int .i64 p_11_c3l0), (4, .int .i64 p_11_c4l0), (5, .string p_11_c5l0)] Ot_0.out)
                    have Pb92_92 : Hid (wb92_92.ownsRow w.heap.size 34 6 (.slice (some ⟨w.heap.size, 0, none⟩) 1 1) 1 [.int .i64 p_11_c0l0, .string p_11_c1l0, .int .i64 p_11_c2l0, .int .i64 p_11_c3l0, .int .i64 p_11_c4l0, .string p_11_c5l0]) := Lib.hid (by rw [← hwb92_92]; exact Sb92_92.out.1)
                    have Gb92_92 : Hid (wt_48.grownBy wb92_92 (Value.slice (some ⟨w.heap.size, 0, none⟩) 1 1).ownBlock) := Lib.hid (by rw [← hwb92_92]; exact Sb92_92.out.2)
                    have HBwb92_92 := Lib.hid (Go.Proofs.YtgimcnpkngpmiaaGreatDoor.GoC.grown_new HBwt_48.out Gb92_92.out (Go.Proofs.YtgimcnpkngpmiaaGreatDoor.GoC.own_ge Ot_0.out))
                    clear Sb92_92
                    have kp_11_0__61 := cell_other kp_11_0__55 Gb92_92.out (Apart.symm Dp_11_t_0.out)
                    have kp_11_1__62 := cell_other kp_11_1__56 Gb92_92.out (Apart.symm Dp_11_t_0.out)
                    have kp_11_2__63 := cell_other kp_11_2__57 Gb92_92.out (Apart.symm Dp_11_t_0.out)
                    have kp_11_3__64 := cell_other kp_11_3__58 Gb92_92.out (Apart.symm Dp_11_t_0.out)
                    have kp_11_4__65 := cell_other kp_11_4__59 Gb92_92.out (Apart.symm Dp_11_t_0.out)
                    have kp_11_5__66 := cell_other kp_11_5__60 Gb92_92.out (Apart.symm Dp_11_t_0.out)
                    replace Pb21_21 := Lib.hid (own_other Pb21_21.out Gb92_92.out (Apart.symm Dp_11_t_0.out))
                    replace Ot_8 := Lib.hid (own_other Ot_8.out Gb92_92.out (Apart.symm Dt_8_t_0.out))
                    replace Ot_16 := Lib.hid (own_other Ot_16.out Gb92_92.out (Apart.symm Dt_16_t_0.out))
                    replace Kt_48 := Lib.hid (Go.Proofs.YtgimcnpkngpmiaaGreatDoor.GoC.cur_otherO Kt_48.out Gb92_92.out Dt_0_c0.out L0 Ot_0.out)
                    clear Ot_0 Gb92_92
                    have kt_0_0__67 : wb92_92.cell? ⟨w.heap.size, 0, none⟩ = some (.int .i64 p_11_c0l0) := Pb92_92.out.cells rfl 0 _ rfl
                    have kt_0_1__68 : wb92_92.cell? ⟨w.heap.size, 1, none⟩ = some (.string p_11_c1l0) := Pb92_92.out.cells rfl 1 _ rfl
                    have kt_0_2__69 : wb92_92.cell? ⟨w.heap.size, 2, none⟩ = some (.int .i64 p_11_c2l0) := Pb92_92.out.cells rfl 2 _ rfl
                    have kt_0_3__70 : wb92_92.cell? ⟨w.heap.size, 3, none⟩ = some (.int .i64 p_11_c3l0) := Pb92_92.out.cells rfl 3 _ rfl
                    have kt_0_4__71 : wb92_92.cell? ⟨w.heap.size, 4, none⟩ = some (.int .i64 p_11_c4l0) := Pb92_92.out.cells rfl 4 _ rfl
                    have kt_0_5__72 : wb92_92.cell? ⟨w.heap.size, 5, none⟩ = some (.string p_11_c5l0) := Pb92_92.out.cells rfl 5 _ rfl
                    cases ret_hid H
                    go_wp2_with fail
                    (try simp only [Exit.inBlock, Exit.then])
                    refine bodyPost_ret (v := .agg #[.int .i64 p_11_c0l0, .string p_11_c1l0, .int .i64 p_11_c2l0, .int .i64 p_11_c3l0, .int .i64 p_11_c4l0, .string p_11_c5l0]) ?hr_ ?hd_ ?_
                    case hd_ => rfl
                    case hr_ => simp [results, Tryz.results53, kt_0_0__67, kt_0_1__68, kt_0_2__69, kt_0_3__70, kt_0_4__71, kt_0_5__72, go_sem]
                    exact ⟨rfl, Kt_48.out, HBwb92_92.out⟩
                  | true =>
                    replace H := ite_t H
                    replace H := let_hid H
                    obtain ⟨t_87, ht_87, H⟩ := H
                    obtain ⟨w_t_87, hw_t_87⟩ : ∃ x, wt_48.alloc (.cells #[.string (⟨#[]⟩ : ByteArray), .string (⟨#[120, 120, 120, 120]⟩ : ByteArray), .string (⟨#[46, 46, 63, 46]⟩ : ByteArray), .string (⟨#[46, 46, 46, 46, 46]⟩ : ByteArray)] 9) = x := ⟨_, rfl⟩
                    have bw_t_87 : Below wt_48.heap.size wt_48 w_t_87 := by rw [← hw_t_87]; exact (Below.refl _ _).alloc (Nat.le_refl _) _
                    have hs_t_87 := HBwt_48.out.size
                    have nt_87 : t_87.length = 4 := by rw [← ht_87]; rfl
                    have Ot_87 : Hid (w_t_87.ownsRow w.heap.size 9 1 (.slice (some ⟨wt_48.heap.size, 0, none⟩) 4 4) 4 (t_87.map Value.string)) := by
                      rw [← hw_t_87, ← ht_87]
                      have e_ : ([.string (⟨#[]⟩ : ByteArray), .string (⟨#[120, 120, 120, 120]⟩ : ByteArray), .string (⟨#[46, 46, 63, 46]⟩ : ByteArray), .string (⟨#[46, 46, 46, 46, 46]⟩ : ByteArray)] : List Value) = (([(⟨#[]⟩ : ByteArray), (⟨#[120, 120, 120, 120]⟩ : ByteArray), (⟨#[46, 46, 63, 46]⟩ : ByteArray), (⟨#[46, 46, 46, 46, 46]⟩ : ByteArray)] : List ByteArray).map Value.string) := rfl
                      exact Lib.hid (own_laid (n := 4) hs_t_87 e_ rfl (by unfold maxLen; omega))
                    clear hs_t_87
                    have hht_87 := Lib.hid ht_87
                    clear ht_87
                    replace nt_87 := Lib.hid nt_87
                    have Dt_87_t_8 := Lib.hid (apart_fresh Ot_8.out)
                    have Dt_87_t_16 := Lib.hid (apart_fresh Ot_16.out)
                    have Dt_87_c0 := Lib.hid (Go.Proofs.YtgimcnpkngpmiaaGreatDoor.GoC.apart_cur Kt_48.out)
                    have Dt_87_t_0 := Lib.hid (apart_box kt_0_0__49)
                    have Dt_87_p_11 := Lib.hid (apart_box kp_11_0__55)
                    have HBw_t_87 := Lib.hid (grown_below HBwt_48.out bw_t_87)
                    have kt_0_0__73 := cell_below bw_t_87 kt_0_0__49
                    have kt_0_1__74 := cell_below bw_t_87 kt_0_1__50
                    have kt_0_2__75 := cell_below bw_t_87 kt_0_2__51
                    have kt_0_3__76 := cell_below bw_t_87 kt_0_3__52
                    have kt_0_4__77 := cell_below bw_t_87 kt_0_4__53
                    have kt_0_5__78 := cell_below bw_t_87 kt_0_5__54
                    have kp_11_0__79 := cell_below bw_t_87 kp_11_0__55
                    have kp_11_1__80 := cell_below bw_t_87 kp_11_1__56
                    have kp_11_2__81 := cell_below bw_t_87 kp_11_2__57
                    have kp_11_3__82 := cell_below bw_t_87 kp_11_3__58
                    have kp_11_4__83 := cell_below bw_t_87 kp_11_4__59
                    have kp_11_5__84 := cell_below bw_t_87 kp_11_5__60
                    replace Ot_8 := Lib.hid (own_below Ot_8.out bw_t_87)
                    replace Ot_16 := Lib.hid (own_below Ot_16.out bw_t_87)
                    replace Kt_48 := Lib.hid (Go.Proofs.YtgimcnpkngpmiaaGreatDoor.GoC.cur_below Kt_48.out bw_t_87)
                    replace Ot_0 := Lib.hid (own_below Ot_0.out bw_t_87)
                    replace Pb21_21 := Lib.hid (own_below Pb21_21.out bw_t_87)
                    clear bw_t_87
                    replace H := bind2_hid H
                    obtain ⟨t_88, t_88_tp, qt_88, H⟩ := H
                    go_wp2_with fail
                    clear kt_0_0__49 kt_0_1__50 kt_0_2__51 kt_0_3__52 kt_0_4__53 kt_0_5__54 kp_11_0__55 kp_11_1__56 kp_11_2__57 kp_11_3__58 kp_11_4__59 kp_11_5__60
                    have hc0_ := nt_87.out
                    have Oct_88_1 := Lib.hid (own_len hc0_ Ot_87.out)
                    have con_ := Go.Proofs.YtgimcnpkngpmiaaGreatDoor.GsL1CurOf.C (t_48_tp) (t_87) (some ⟨wt_48.heap.size, 0, none⟩) 4 (g0) (Ac0) (cc0) (bc0) _   (Lib.hid (own_cells Oct_88_1.out)) (Lib.hid (own_max Oct_88_1.out)) Kt_48 (Lib.hid (fun _ => Dt_87_c0.out)) qt_88
                    rw [hc0_] at con_
                    clear hc0_ Oct_88_1
                    go_at_call 64
                    refine con_.mono ?_
                    rintro e_t_88 wt_88 ⟨rfl, kt_88, gt_88⟩
                    have Kt_88 := Lib.hid kt_88
                    have Gt_88 : Hid (w_t_87.grownBy wt_88 (Value.slice (some ⟨g0, 0, none⟩) 1 1).ownBlock) := Lib.hid gt_88
                    clear kt_88 gt_88
                    have HBwt_88 := Lib.hid (Aid.grown_tr HBw_t_87.out Gt_88.out)
                    replace kt_0_0__73 := cell_other kt_0_0__73 Gt_88.out (Apart.symm Dt_0_c0.out)
                    replace kt_0_1__74 := cell_other kt_0_1__74 Gt_88.out (Apart.symm Dt_0_c0.out)
                    replace kt_0_2__75 := cell_other kt_0_2__75 Gt_88.out (Apart.symm Dt_0_c0.out)
                    replace kt_0_3__76 := cell_other kt_0_3__76 Gt_88.out (Apart.symm Dt_0_c0.out)
                    replace kt_0_4__77 := cell_other kt_0_4__77 Gt_88.out (Apart.symm Dt_0_c0.out)
                    replace kt_0_5__78 := cell_other kt_0_5__78 Gt_88.out (Apart.symm Dt_0_c0.out)
                    replace kp_11_0__79 := cell_other kp_11_0__79 Gt_88.out (Apart.symm Dp_11_c0.out)
                    replace kp_11_1__80 := cell_other kp_11_1__80 Gt_88.out (Apart.symm Dp_11_c0.out)
                    replace kp_11_2__81 := cell_other kp_11_2__81 Gt_88.out (Apart.symm Dp_11_c0.out)
                    replace kp_11_3__82 := cell_other kp_11_3__82 Gt_88.out (Apart.symm Dp_11_c0.out)
                    replace kp_11_4__83 := cell_other kp_11_4__83 Gt_88.out (Apart.symm Dp_11_c0.out)
                    replace kp_11_5__84 := cell_other kp_11_5__84 Gt_88.out (Apart.symm Dp_11_c0.out)
                    replace Ot_0 := Lib.hid (own_other Ot_0.out Gt_88.out (Apart.symm Dt_0_c0.out))
                    replace Pb21_21 := Lib.hid (own_other Pb21_21.out Gt_88.out (Apart.symm Dp_11_c0.out))
                    replace Ot_8 := Lib.hid (own_other Ot_8.out Gt_88.out (Apart.symm Dt_8_c0.out))
                    replace Ot_16 := Lib.hid (own_other Ot_16.out Gt_88.out (Apart.symm Dt_16_c0.out))
                    replace Ot_87 := Lib.hid (own_other Ot_87.out Gt_88.out (Apart.symm Dt_87_c0.out))
                    clear Kt_48 Gt_88
                    obtain ⟨wb90_90, hwb90_90⟩ : ∃ x, (wt_88).setCell ⟨wt_9.heap.size, 5, none⟩ (.string t_88) = x := ⟨_, rfl⟩
                    have z0b90_90 := Pb21_21.out.frozenAt 5
                    have Sb90_90 := Lib.hid (own_stores [(5, .string t_88)] Pb21_21.out)
                    have Pb90_90 : Hid (wb90_90.ownsRow w.heap.size 34 6 (.slice (some ⟨wt_9.heap.size, 0, none⟩) 1 1) 1 [.int .i64 p_11_c0l0, .string p_11_c1l0, .int .i64 p_11_c2l0, .int .i64 p_11_c3l0, .int .i64 p_11_c4l0, .string t_88]) := Lib.hid (by rw [← hwb90_90]; exact Sb90_90.out.1)
                    have Gb90_90 : Hid (wt_88.grownBy wb90_90 (Value.slice (some ⟨wt_9.heap.size, 0, none⟩) 1 1).ownBlock) := Lib.hid (by rw [← hwb90_90]; exact Sb90_90.out.2)
                    have HBwb90_90 := Lib.hid (Go.Proofs.YtgimcnpkngpmiaaGreatDoor.GoC.grown_new HBwt_88.out Gb90_90.out (Go.Proofs.YtgimcnpkngpmiaaGreatDoor.GoC.own_ge Pb21_21.out))
                    clear Sb90_90
                    have kt_0_0__85 := cell_other kt_0_0__73 Gb90_90.out Dp_11_t_0.out
                    have kt_0_1__86 := cell_other kt_0_1__74 Gb90_90.out Dp_11_t_0.out
                    have kt_0_2__87 := cell_other kt_0_2__75 Gb90_90.out Dp_11_t_0.out
                    have kt_0_3__88 := cell_other kt_0_3__76 Gb90_90.out Dp_11_t_0.out
                    have kt_0_4__89 := cell_other kt_0_4__77 Gb90_90.out Dp_11_t_0.out
                    have kt_0_5__90 := cell_other kt_0_5__78 Gb90_90.out Dp_11_t_0.out
                    replace Ot_0 := Lib.hid (own_other Ot_0.out Gb90_90.out Dp_11_t_0.out)
                    replace Ot_8 := Lib.hid (own_other Ot_8.out Gb90_90.out Dp_11_t_8.out)
                    replace Ot_16 := Lib.hid (own_other Ot_16.out Gb90_90.out (Apart.symm Dt_16_p_11.out))
                    replace Ot_87 := Lib.hid (own_other Ot_87.out Gb90_90.out (Apart.symm Dt_87_p_11.out))
                    replace Kt_88 := Lib.hid (Go.Proofs.YtgimcnpkngpmiaaGreatDoor.GoC.cur_otherO Kt_88.out Gb90_90.out Dp_11_c0.out L0 Pb21_21.out)
                    clear Pb21_21 Gb90_90
                    have kp_11_0__91 : wb90_90.cell? ⟨wt_9.heap.size, 0, none⟩ = some (.int .i64 p_11_c0l0) := Pb90_90.out.cells rfl 0 _ rfl
                    have kp_11_1__92 : wb90_90.cell? ⟨wt_9.heap.size, 1, none⟩ = some (.string p_11_c1l0) := Pb90_90.out.cells rfl 1 _ rfl
                    have kp_11_2__93 : wb90_90.cell? ⟨wt_9.heap.size, 2, none⟩ = some (.int .i64 p_11_c2l0) := Pb90_90.out.cells rfl 2 _ rfl
                    have kp_11_3__94 : wb90_90.cell? ⟨wt_9.heap.size, 3, none⟩ = some (.int .i64 p_11_c3l0) := Pb90_90.out.cells rfl 3 _ rfl
                    have kp_11_4__95 : wb90_90.cell? ⟨wt_9.heap.size, 4, none⟩ = some (.int .i64 p_11_c4l0) := Pb90_90.out.cells rfl 4 _ rfl
                    have kp_11_5__96 : wb90_90.cell? ⟨wt_9.heap.size, 5, none⟩ = some (.string t_88) := Pb90_90.out.cells rfl 5 _ rfl
                    obtain ⟨wb92_92, hwb92_92⟩ : ∃ x, ((((((wb90_90).setCell ⟨w.heap.size, 0, none⟩ (.int .i64 p_11_c0l0)).setCell ⟨w.heap.size, 1, none⟩ (.string p_11_c1l0)).setCell ⟨w.heap.size, 2, none⟩ (.int .i64 p_11_c2l0)).setCell ⟨w.heap.size, 3, none⟩ (.int .i64 p_11_c3l0)).setCell ⟨w.heap.size, 4, none⟩ (.int .i64 p_11_c4l0)).setCell ⟨w.heap.size, 5, none⟩ (.string t_88) = x := ⟨_, rfl⟩
                    have z0b92_92 := Ot_0.out.frozenAt 0
                    have z1b92_92 := Ot_0.out.frozenAt 1
                    have z2b92_92 := Ot_0.out.frozenAt 2
                    have z3b92_92 := Ot_0.out.frozenAt 3
                    have z4b92_92 := Ot_0.out.frozenAt 4
                    have z5b92_92 := Ot_0.out.frozenAt 5
                    have Sb92_92 := Lib.hid (own_stores [(0, .int .i64 p_11_c0l0), (1, .string p_11_c1l0), (2, .int .i64 p_11_c2l0), (3, .int .i64 p_11_c3l0), (4, .int .i64 p_11_c4l0), (5, .string t_88)] Ot_0.out)
                    have Pb92_92 : Hid (wb92_92.ownsRow w.heap.size 34 6 (.slice (some ⟨w.heap.size, 0, none⟩) 1 1) 1 [.int .i64 p_11_c0l0, .string p_11_c1l0, .int .i64 p_11_c2l0, .int .i64 p_11_c3l0, .int .i64 p_11_c4l0, .string t_88]) := Lib.hid (by rw [← hwb92_92]; exact Sb92_92.out.1)
                    have Gb92_92 : Hid (wb90_90.grownBy wb92_92 (Value.slice (some ⟨w.heap.size, 0, none⟩) 1 1).ownBlock) := Lib.hid (by rw [← hwb92_92]; exact Sb92_92.out.2)
                    have HBwb92_92 := Lib.hid (Go.Proofs.YtgimcnpkngpmiaaGreatDoor.GoC.grown_new HBwb90_90.out Gb92_92.out (Go.Proofs.YtgimcnpkngpmiaaGreatDoor.GoC.own_ge Ot_0.out))
                    clear Sb92_92
                    have kp_11_0__97 := cell_other kp_11_0__91 Gb92_92.out (Apart.symm Dp_11_t_0.out)
                    have kp_11_1__98 := cell_other kp_11_1__92 Gb92_92.out (Apart.symm Dp_11_t_0.out)
                    have kp_11_2__99 := cell_other kp_11_2__93 Gb92_92.out (Apart.symm Dp_11_t_0.out)
                    have kp_11_3__100 := cell_other kp_11_3__94 Gb92_92.out (Apart.symm Dp_11_t_0.out)
                    have kp_11_4__101 := cell_other kp_11_4__95 Gb92_92.out (Apart.symm Dp_11_t_0.out)
                    have kp_11_5__102 := cell_other kp_11_5__96 Gb92_92.out (Apart.symm Dp_11_t_0.out)
                    replace Pb90_90 := Lib.hid (own_other Pb90_90.out Gb92_92.out (Apart.symm Dp_11_t_0.out))
                    replace Ot_8 := Lib.hid (own_other Ot_8.out Gb92_92.out (Apart.symm Dt_8_t_0.out))
                    replace Ot_16 := Lib.hid (own_other Ot_16.out Gb92_92.out (Apart.symm Dt_16_t_0.out))
                    replace Ot_87 := Lib.hid (own_other Ot_87.out Gb92_92.out (Apart.symm Dt_87_t_0.out))
                    replace Kt_88 := Lib.hid (Go.Proofs.YtgimcnpkngpmiaaGreatDoor.GoC.cur_otherO Kt_88.out Gb92_92.out Dt_0_c0.out L0 Ot_0.out)
                    clear Ot_0 Gb92_92
                    have kt_0_0__103 : wb92_92.cell? ⟨w.heap.size, 0, none⟩ = some (.int .i64 p_11_c0l0) := Pb92_92.out.cells rfl 0 _ rfl
                    have kt_0_1__104 : wb92_92.cell? ⟨w.heap.size, 1, none⟩ = some (.string p_11_c1l0) := Pb92_92.out.cells rfl 1 _ rfl
                    have kt_0_2__105 : wb92_92.cell? ⟨w.heap.size, 2, none⟩ = some (.int .i64 p_11_c2l0) := Pb92_92.out.cells rfl 2 _ rfl
                    have kt_0_3__106 : wb92_92.cell? ⟨w.heap.size, 3, none⟩ = some (.int .i64 p_11_c3l0) := Pb92_92.out.cells rfl 3 _ rfl
                    have kt_0_4__107 : wb92_92.cell? ⟨w.heap.size, 4, none⟩ = some (.int .i64 p_11_c4l0) := Pb92_92.out.cells rfl 4 _ rfl
                    have kt_0_5__108 : wb92_92.cell? ⟨w.heap.size, 5, none⟩ = some (.string t_88) := Pb92_92.out.cells rfl 5 _ rfl
                    cases ret_hid H
                    go_wp2_with fail
                    (try simp only [Exit.inBlock, Exit.then])
                    refine bodyPost_ret (v := .agg #[.int .i64 p_11_c0l0, .string p_11_c1l0, .int .i64 p_11_c2l0, .int .i64 p_11_c3l0, .int .i64 p_11_c4l0, .string t_88]) ?hr_ ?hd_ ?_
                    case hd_ => rfl
                    case hr_ => simp [results, Tryz.results53, kt_0_0__103, kt_0_1__104, kt_0_2__105, kt_0_3__106, kt_0_4__107, kt_0_5__108, go_sem]
                    exact ⟨rfl, Kt_88.out, HBwb92_92.out⟩
                | true =>
                  replace H := ite_t H
                  obtain ⟨wb83_83, hwb83_83⟩ : ∃ x, (wt_48).setCell ⟨wt_9.heap.size, 4, none⟩ (.int .i64 4001) = x := ⟨_, rfl⟩
                  have z0b83_83 := Pb21_21.out.frozenAt 4
                  have Sb83_83 := Lib.hid (own_stores [(4, .int .i64 4001)] Pb21_21.out)
                  have Pb83_83 : Hid (wb83_83.ownsRow w.heap.size 34 6 (.slice (some ⟨wt_9.heap.size, 0, none⟩) 1 1) 1 [.int .i64 p_11_c0l0, .string p_11_c1l0, .int .i64 p_11_c2l0, .int .i64 p_11_c3l0, .int .i64 4001, .string p_11_c5l0]) := Lib.hid (by rw [← hwb83_83]; exact Sb83_83.out.1)
                  have Gb83_83 : Hid (wt_48.grownBy wb83_83 (Value.slice (some ⟨wt_9.heap.size, 0, none⟩) 1 1).ownBlock) := Lib.hid (by rw [← hwb83_83]; exact Sb83_83.out.2)
                  have HBwb83_83 := Lib.hid (Go.Proofs.YtgimcnpkngpmiaaGreatDoor.GoC.grown_new HBwt_48.out Gb83_83.out (Go.Proofs.YtgimcnpkngpmiaaGreatDoor.GoC.own_ge Pb21_21.out))
                  clear Sb83_83
                  have kt_0_0__109 := cell_other kt_0_0__49 Gb83_83.out Dp_11_t_0.out
                  have kt_0_1__110 := cell_other kt_0_1__50 Gb83_83.out Dp_11_t_0.out
                  have kt_0_2__111 := cell_other kt_0_2__51 Gb83_83.out Dp_11_t_0.out
                  have kt_0_3__112 := cell_other kt_0_3__52 Gb83_83.out Dp_11_t_0.out
                  have kt_0_4__113 := cell_other kt_0_4__53 Gb83_83.out Dp_11_t_0.out
                  have kt_0_5__114 := cell_other kt_0_5__54 Gb83_83.out Dp_11_t_0.out
                  replace Ot_0 := Lib.hid (own_other Ot_0.out Gb83_83.out Dp_11_t_0.out)
                  replace Ot_8 := Lib.hid (own_other Ot_8.out Gb83_83.out Dp_11_t_8.out)
                  replace Ot_16 := Lib.hid (own_other Ot_16.out Gb83_83.out (Apart.symm Dt_16_p_11.out))
                  replace Kt_48 := Lib.hid (Go.Proofs.YtgimcnpkngpmiaaGreatDoor.GoC.cur_otherO Kt_48.out Gb83_83.out Dp_11_c0.out L0 Pb21_21.out)
                  clear Pb21_21 Gb83_83
                  have kp_11_0__115 : wb83_83.cell? ⟨wt_9.heap.size, 0, none⟩ = some (.int .i64 p_11_c0l0) := Pb83_83.out.cells rfl 0 _ rfl
                  have kp_11_1__116 : wb83_83.cell? ⟨wt_9.heap.size, 1, none⟩ = some (.string p_11_c1l0) := Pb83_83.out.cells rfl 1 _ rfl
                  have kp_11_2__117 : wb83_83.cell? ⟨wt_9.heap.size, 2, none⟩ = some (.int .i64 p_11_c2l0) := Pb83_83.out.cells rfl 2 _ rfl
                  have kp_11_3__118 : wb83_83.cell? ⟨wt_9.heap.size, 3, none⟩ = some (.int .i64 p_11_c3l0) := Pb83_83.out.cells rfl 3 _ rfl
                  have kp_11_4__119 : wb83_83.cell? ⟨wt_9.heap.size, 4, none⟩ = some (.int .i64 4001) := Pb83_83.out.cells rfl 4 _ rfl
                  have kp_11_5__120 : wb83_83.cell? ⟨wt_9.heap.size, 5, none⟩ = some (.string p_11_c5l0) := Pb83_83.out.cells rfl 5 _ rfl
                  obtain ⟨wb92_92, hwb92_92⟩ : ∃ x, ((((((wb83_83).setCell ⟨w.heap.size, 0, none⟩ (.int .i64 p_11_c0l0)).setCell ⟨w.heap.size, 1, none⟩ (.string p_11_c1l0)).setCell ⟨w.heap.size, 2, none⟩ (.int .i64 p_11_c2l0)).setCell ⟨w.heap.size, 3, none⟩ (.int .i64 p_11_c3l0)).setCell ⟨w.heap.size, 4, none⟩ (.int .i64 4001)).setCell ⟨w.heap.size, 5, none⟩ (.string p_11_c5l0) = x := ⟨_, rfl⟩
                  have z0b92_92 := Ot_0.out.frozenAt 0
                  have z1b92_92 := Ot_0.out.frozenAt 1
                  have z2b92_92 := Ot_0.out.frozenAt 2
                  have z3b92_92 := Ot_0.out.frozenAt 3
                  have z4b92_92 := Ot_0.out.frozenAt 4
                  have z5b92_92 := Ot_0.out.frozenAt 5
                  have Sb92_92 := Lib.hid (own_stores [(0, .int .i64 p_11_c0l0), (1, .string p_11_c1l0), (2, .int .i64 p_11_c2l0), (3, .int .i64 p_11_c3l0), (4, .int .i64 4001), (5, .string p_11_c5l0)] Ot_0.out)
                  have Pb92_92 : Hid (wb92_92.ownsRow w.heap.size 34 6 (.slice (some ⟨w.heap.size, 0, none⟩) 1 1) 1 [.int .i64 p_11_c0l0, .string p_11_c1l0, .int .i64 p_11_c2l0, .int .i64 p_11_c3l0, .int .i64 4001, .string p_11_c5l0]) := Lib.hid (by rw [← hwb92_92]; exact Sb92_92.out.1)
                  have Gb92_92 : Hid (wb83_83.grownBy wb92_92 (Value.slice (some ⟨w.heap.size, 0, none⟩) 1 1).ownBlock) := Lib.hid (by rw [← hwb92_92]; exact Sb92_92.out.2)
                  have HBwb92_92 := Lib.hid (Go.Proofs.YtgimcnpkngpmiaaGreatDoor.GoC.grown_new HBwb83_83.out Gb92_92.out (Go.Proofs.YtgimcnpkngpmiaaGreatDoor.GoC.own_ge Ot_0.out))
                  clear Sb92_92
                  have kp_11_0__121 := cell_other kp_11_0__115 Gb92_92.out (Apart.symm Dp_11_t_0.out)
                  have kp_11_1__122 := cell_other kp_11_1__116 Gb92_92.out (Apart.symm Dp_11_t_0.out)
                  have kp_11_2__123 := cell_other kp_11_2__117 Gb92_92.out (Apart.symm Dp_11_t_0.out)
                  have kp_11_3__124 := cell_other kp_11_3__118 Gb92_92.out (Apart.symm Dp_11_t_0.out)
                  have kp_11_4__125 := cell_other kp_11_4__119 Gb92_92.out (Apart.symm Dp_11_t_0.out)
                  have kp_11_5__126 := cell_other kp_11_5__120 Gb92_92.out (Apart.symm Dp_11_t_0.out)
                  replace Pb83_83 := Lib.hid (own_other Pb83_83.out Gb92_92.out (Apart.symm Dp_11_t_0.out))
                  replace Ot_8 := Lib.hid (own_other Ot_8.out Gb92_92.out (Apart.symm Dt_8_t_0.out))
                  replace Ot_16 := Lib.hid (own_other Ot_16.out Gb92_92.out (Apart.symm Dt_16_t_0.out))
                  replace Kt_48 := Lib.hid (Go.Proofs.YtgimcnpkngpmiaaGreatDoor.GoC.cur_otherO Kt_48.out Gb92_92.out Dt_0_c0.out L0 Ot_0.out)
                  clear Ot_0 Gb92_92
                  have kt_0_0__127 : wb92_92.cell? ⟨w.heap.size, 0, none⟩ = some (.int .i64 p_11_c0l0) := Pb92_92.out.cells rfl 0 _ rfl
                  have kt_0_1__128 : wb92_92.cell? ⟨w.heap.size, 1, none⟩ = some (.string p_11_c1l0) := Pb92_92.out.cells rfl 1 _ rfl
                  have kt_0_2__129 : wb92_92.cell? ⟨w.heap.size, 2, none⟩ = some (.int .i64 p_11_c2l0) := Pb92_92.out.cells rfl 2 _ rfl
                  have kt_0_3__130 : wb92_92.cell? ⟨w.heap.size, 3, none⟩ = some (.int .i64 p_11_c3l0) := Pb92_92.out.cells rfl 3 _ rfl
                  have kt_0_4__131 : wb92_92.cell? ⟨w.heap.size, 4, none⟩ = some (.int .i64 4001) := Pb92_92.out.cells rfl 4 _ rfl
                  have kt_0_5__132 : wb92_92.cell? ⟨w.heap.size, 5, none⟩ = some (.string p_11_c5l0) := Pb92_92.out.cells rfl 5 _ rfl
                  cases ret_hid H
                  go_wp2_with fail
                  (try simp only [Exit.inBlock, Exit.then])
                  refine bodyPost_ret (v := .agg #[.int .i64 p_11_c0l0, .string p_11_c1l0, .int .i64 p_11_c2l0, .int .i64 p_11_c3l0, .int .i64 4001, .string p_11_c5l0]) ?hr_ ?hd_ ?_
                  case hd_ => rfl
                  case hr_ => simp [results, Tryz.results53, kt_0_0__127, kt_0_1__128, kt_0_2__129, kt_0_3__130, kt_0_4__131, kt_0_5__132, go_sem]
                  exact ⟨rfl, Kt_48.out, HBwb92_92.out⟩
              | true =>
                replace H := ite_t H
                replace H := let_hid H
                obtain ⟨t_75, ht_75, H⟩ := H
                replace H := let_hid H
                obtain ⟨t_76, ht_76, H⟩ := H
                obtain ⟨w_t_76, hw_t_76⟩ : ∃ x, wt_48.alloc (.cells #[.int .i64 (-1), .int .i64 t_75] 3) = x := ⟨_, rfl⟩
                have bw_t_76 : Below wt_48.heap.size wt_48 w_t_76 := by rw [← hw_t_76]; exact (Below.refl _ _).alloc (Nat.le_refl _) _
                have hs_t_76 := HBwt_48.out.size
                have nt_76 : t_76.length = 2 := by rw [← ht_76]; rfl
                have Ot_76 : Hid (w_t_76.ownsRow w.heap.size 3 1 (.slice (some ⟨wt_48.heap.size, 0, none⟩) 2 2) 2 (Go.Proofs.YtgimcnpkngpmiaaGreatDoor.HelpInt.iv t_76)) := by
                  rw [← hw_t_76, ← ht_76]
                  have e_ : ([.int .i64 (-1), .int .i64 t_75] : List Value) = (Go.Proofs.YtgimcnpkngpmiaaGreatDoor.HelpInt.iv ([(-1), t_75] : List Int)) := rfl
                  exact Lib.hid (own_laid (n := 2) hs_t_76 e_ rfl (by unfold maxLen; omega))
                clear hs_t_76
                have hht_76 := Lib.hid ht_76
                clear ht_76
                replace nt_76 := Lib.hid nt_76
                have Dt_76_t_8 := Lib.hid (apart_fresh Ot_8.out)
                have Dt_76_t_16 := Lib.hid (apart_fresh Ot_16.out)
                have Dt_76_c0 := Lib.hid (Go.Proofs.YtgimcnpkngpmiaaGreatDoor.GoC.apart_cur Kt_48.out)
                have Dt_76_t_0 := Lib.hid (apart_box kt_0_0__49)
                have Dt_76_p_11 := Lib.hid (apart_box kp_11_0__55)
                have HBw_t_76 := Lib.hid (grown_below HBwt_48.out bw_t_76)
                have kt_0_0__133 := cell_below bw_t_76 kt_0_0__49
                have kt_0_1__134 := cell_below bw_t_76 kt_0_1__50
                have kt_0_2__135 := cell_below bw_t_76 kt_0_2__51
                have kt_0_3__136 := cell_below bw_t_76 kt_0_3__52
                have kt_0_4__137 := cell_below bw_t_76 kt_0_4__53
                have kt_0_5__138 := cell_below bw_t_76 kt_0_5__54
                have kp_11_0__139 := cell_below bw_t_76 kp_11_0__55
                have kp_11_1__140 := cell_below bw_t_76 kp_11_1__56
                have kp_11_2__141 := cell_below bw_t_76 kp_11_2__57
                have kp_11_3__142 := cell_below bw_t_76 kp_11_3__58
                have kp_11_4__143 := cell_below bw_t_76 kp_11_4__59
                have kp_11_5__144 := cell_below bw_t_76 kp_11_5__60
                replace Ot_8 := Lib.hid (own_below Ot_8.out bw_t_76)
                replace Ot_16 := Lib.hid (own_below Ot_16.out bw_t_76)
                replace Kt_48 := Lib.hid (Go.Proofs.YtgimcnpkngpmiaaGreatDoor.GoC.cur_below Kt_48.out bw_t_76)
                replace Ot_0 := Lib.hid (own_below Ot_0.out bw_t_76)
                replace Pb21_21 := Lib.hid (own_below Pb21_21.out bw_t_76)
                clear bw_t_76
                replace H := bind2_hid H
                obtain ⟨t_77, t_77_tp, qt_77, H⟩ := H
                go_wp2_with fail
                clear kt_0_0__49 kt_0_1__50 kt_0_2__51 kt_0_3__52 kt_0_4__53 kt_0_5__54 kp_11_0__55 kp_11_1__56 kp_11_2__57 kp_11_3__58 kp_11_4__59 kp_11_5__60
                have hc0_ := nt_76.out
                have Oct_77_1 := Lib.hid (own_len hc0_ Ot_76.out)
                have con_ := Go.Proofs.YtgimcnpkngpmiaaGreatDoor.GsL1CurAmong.C (t_48_tp) (t_76) (some ⟨wt_48.heap.size, 0, none⟩) 2 (g0) (Ac0) (cc0) (bc0) _   (Lib.hid (own_cells Oct_77_1.out)) (Lib.hid (own_max Oct_77_1.out)) Kt_48 (Lib.hid (fun _ => Dt_76_c0.out)) qt_77
                rw [hc0_] at con_
                clear hc0_ Oct_77_1
                go_at_call 55
                refine con_.mono ?_
                rintro e_t_77 wt_77 ⟨rfl, kt_77, gt_77⟩
                have Kt_77 := Lib.hid kt_77
                have Gt_77 : Hid (w_t_76.grownBy wt_77 (Value.slice (some ⟨g0, 0, none⟩) 1 1).ownBlock) := Lib.hid gt_77
                clear kt_77 gt_77
                have HBwt_77 := Lib.hid (Aid.grown_tr HBw_t_76.out Gt_77.out)
                replace kt_0_0__133 := cell_other kt_0_0__133 Gt_77.out (Apart.symm Dt_0_c0.out)
                replace kt_0_1__134 := cell_other kt_0_1__134 Gt_77.out (Apart.symm Dt_0_c0.out)
                replace kt_0_2__135 := cell_other kt_0_2__135 Gt_77.out (Apart.symm Dt_0_c0.out)
                replace kt_0_3__136 := cell_other kt_0_3__136 Gt_77.out (Apart.symm Dt_0_c0.out)
                replace kt_0_4__137 := cell_other kt_0_4__137 Gt_77.out (Apart.symm Dt_0_c0.out)
                replace kt_0_5__138 := cell_other kt_0_5__138 Gt_77.out (Apart.symm Dt_0_c0.out)
                replace kp_11_0__139 := cell_other kp_11_0__139 Gt_77.out (Apart.symm Dp_11_c0.out)
                replace kp_11_1__140 := cell_other kp_11_1__140 Gt_77.out (Apart.symm Dp_11_c0.out)
                replace kp_11_2__141 := cell_other kp_11_2__141 Gt_77.out (Apart.symm Dp_11_c0.out)
                replace kp_11_3__142 := cell_other kp_11_3__142 Gt_77.out (Apart.symm Dp_11_c0.out)
                replace kp_11_4__143 := cell_other kp_11_4__143 Gt_77.out (Apart.symm Dp_11_c0.out)
                replace kp_11_5__144 := cell_other kp_11_5__144 Gt_77.out (Apart.symm Dp_11_c0.out)
                replace Ot_0 := Lib.hid (own_other Ot_0.out Gt_77.out (Apart.symm Dt_0_c0.out))
                replace Pb21_21 := Lib.hid (own_other Pb21_21.out Gt_77.out (Apart.symm Dp_11_c0.out))
                replace Ot_8 := Lib.hid (own_other Ot_8.out Gt_77.out (Apart.symm Dt_8_c0.out))
                replace Ot_16 := Lib.hid (own_other Ot_16.out Gt_77.out (Apart.symm Dt_16_c0.out))
                replace Ot_76 := Lib.hid (own_other Ot_76.out Gt_77.out (Apart.symm Dt_76_c0.out))
                clear Kt_48 Gt_77
                obtain ⟨wb79_79, hwb79_79⟩ : ∃ x, (wt_77).setCell ⟨wt_9.heap.size, 3, none⟩ (.int .i64 t_77) = x := ⟨_, rfl⟩
                have z0b79_79 := Pb21_21.out.frozenAt 3
                have Sb79_79 := Lib.hid (own_stores [(3, .int .i64 t_77)] Pb21_21.out)
                have Pb79_79 : Hid (wb79_79.ownsRow w.heap.size 34 6 (.slice (some ⟨wt_9.heap.size, 0, none⟩) 1 1) 1 [.int .i64 p_11_c0l0, .string p_11_c1l0, .int .i64 p_11_c2l0, .int .i64 t_77, .int .i64 p_11_c4l0, .string p_11_c5l0]) := Lib.hid (by rw [← hwb79_79]; exact Sb79_79.out.1)
                have Gb79_79 : Hid (wt_77.grownBy wb79_79 (Value.slice (some ⟨wt_9.heap.size, 0, none⟩) 1 1).ownBlock) := Lib.hid (by rw [← hwb79_79]; exact Sb79_79.out.2)
                have HBwb79_79 := Lib.hid (Go.Proofs.YtgimcnpkngpmiaaGreatDoor.GoC.grown_new HBwt_77.out Gb79_79.out (Go.Proofs.YtgimcnpkngpmiaaGreatDoor.GoC.own_ge Pb21_21.out))
                clear Sb79_79
                have kt_0_0__145 := cell_other kt_0_0__133 Gb79_79.out Dp_11_t_0.out
                have kt_0_1__146 := cell_other kt_0_1__134 Gb79_79.out Dp_11_t_0.out
                have kt_0_2__147 := cell_other kt_0_2__135 Gb79_79.out Dp_11_t_0.out
                have kt_0_3__148 := cell_other kt_0_3__136 Gb79_79.out Dp_11_t_0.out
                have kt_0_4__149 := cell_other kt_0_4__137 Gb79_79.out Dp_11_t_0.out
                have kt_0_5__150 := cell_other kt_0_5__138 Gb79_79.out Dp_11_t_0.out
                replace Ot_0 := Lib.hid (own_other Ot_0.out Gb79_79.out Dp_11_t_0.out)
                replace Ot_8 := Lib.hid (own_other Ot_8.out Gb79_79.out Dp_11_t_8.out)
                replace Ot_16 := Lib.hid (own_other Ot_16.out Gb79_79.out (Apart.symm Dt_16_p_11.out))
                replace Ot_76 := Lib.hid (own_other Ot_76.out Gb79_79.out (Apart.symm Dt_76_p_11.out))
                replace Kt_77 := Lib.hid (Go.Proofs.YtgimcnpkngpmiaaGreatDoor.GoC.cur_otherO Kt_77.out Gb79_79.out Dp_11_c0.out L0 Pb21_21.out)
                clear Pb21_21 Gb79_79
                have kp_11_0__151 : wb79_79.cell? ⟨wt_9.heap.size, 0, none⟩ = some (.int .i64 p_11_c0l0) := Pb79_79.out.cells rfl 0 _ rfl
                have kp_11_1__152 : wb79_79.cell? ⟨wt_9.heap.size, 1, none⟩ = some (.string p_11_c1l0) := Pb79_79.out.cells rfl 1 _ rfl
                have kp_11_2__153 : wb79_79.cell? ⟨wt_9.heap.size, 2, none⟩ = some (.int .i64 p_11_c2l0) := Pb79_79.out.cells rfl 2 _ rfl
                have kp_11_3__154 : wb79_79.cell? ⟨wt_9.heap.size, 3, none⟩ = some (.int .i64 t_77) := Pb79_79.out.cells rfl 3 _ rfl
                have kp_11_4__155 : wb79_79.cell? ⟨wt_9.heap.size, 4, none⟩ = some (.int .i64 p_11_c4l0) := Pb79_79.out.cells rfl 4 _ rfl
                have kp_11_5__156 : wb79_79.cell? ⟨wt_9.heap.size, 5, none⟩ = some (.string p_11_c5l0) := Pb79_79.out.cells rfl 5 _ rfl
                obtain ⟨wb92_92, hwb92_92⟩ : ∃ x, ((((((wb79_79).setCell ⟨w.heap.size, 0, none⟩ (.int .i64 p_11_c0l0)).setCell ⟨w.heap.size, 1, none⟩ (.string p_11_c1l0)).setCell ⟨w.heap.size, 2, none⟩ (.int .i64 p_11_c2l0)).setCell ⟨w.heap.size, 3, none⟩ (.int .i64 t_77)).setCell ⟨w.heap.size, 4, none⟩ (.int .i64 p_11_c4l0)).setCell ⟨w.heap.size, 5, none⟩ (.string p_11_c5l0) = x := ⟨_, rfl⟩
                have z0b92_92 := Ot_0.out.frozenAt 0
                have z1b92_92 := Ot_0.out.frozenAt 1
                have z2b92_92 := Ot_0.out.frozenAt 2
                have z3b92_92 := Ot_0.out.frozenAt 3
                have z4b92_92 := Ot_0.out.frozenAt 4
                have z5b92_92 := Ot_0.out.frozenAt 5
                have Sb92_92 := Lib.hid (own_stores [(0, .int .i64 p_11_c0l0), (1, .string p_11_c1l0), (2, .int .i64 p_11_c2l0), (3, .int .i64 t_77), (4, .int .i64 p_11_c4l0), (5, .string p_11_c5l0)] Ot_0.out)
                have Pb92_92 : Hid (wb92_92.ownsRow w.heap.size 34 6 (.slice (some ⟨w.heap.size, 0, none⟩) 1 1) 1 [.int .i64 p_11_c0l0, .string p_11_c1l0, .int .i64 p_11_c2l0, .int .i64 t_77, .int .i64 p_11_c4l0, .string p_11_c5l0]) := Lib.hid (by rw [← hwb92_92]; exact Sb92_92.out.1)
                have Gb92_92 : Hid (wb79_79.grownBy wb92_92 (Value.slice (some ⟨w.heap.size, 0, none⟩) 1 1).ownBlock) := Lib.hid (by rw [← hwb92_92]; exact Sb92_92.out.2)
                have HBwb92_92 := Lib.hid (Go.Proofs.YtgimcnpkngpmiaaGreatDoor.GoC.grown_new HBwb79_79.out Gb92_92.out (Go.Proofs.YtgimcnpkngpmiaaGreatDoor.GoC.own_ge Ot_0.out))
                clear Sb92_92
                have kp_11_0__157 := cell_other kp_11_0__151 Gb92_92.out (Apart.symm Dp_11_t_0.out)
                have kp_11_1__158 := cell_other kp_11_1__152 Gb92_92.out (Apart.symm Dp_11_t_0.out)
                have kp_11_2__159 := cell_other kp_11_2__153 Gb92_92.out (Apart.symm Dp_11_t_0.out)
                have kp_11_3__160 := cell_other kp_11_3__154 Gb92_92.out (Apart.symm Dp_11_t_0.out)
                have kp_11_4__161 := cell_other kp_11_4__155 Gb92_92.out (Apart.symm Dp_11_t_0.out)
                have kp_11_5__162 := cell_other kp_11_5__156 Gb92_92.out (Apart.symm Dp_11_t_0.out)
                replace Pb79_79 := Lib.hid (own_other Pb79_79.out Gb92_92.out (Apart.symm Dp_11_t_0.out))
                replace Ot_8 := Lib.hid (own_other Ot_8.out Gb92_92.out (Apart.symm Dt_8_t_0.out))
                replace Ot_16 := Lib.hid (own_other Ot_16.out Gb92_92.out (Apart.symm Dt_16_t_0.out))
                replace Ot_76 := Lib.hid (own_other Ot_76.out Gb92_92.out (Apart.symm Dt_76_t_0.out))
                replace Kt_77 := Lib.hid (Go.Proofs.YtgimcnpkngpmiaaGreatDoor.GoC.cur_otherO Kt_77.out Gb92_92.out Dt_0_c0.out L0 Ot_0.out)
                clear Ot_0 Gb92_92
                have kt_0_0__163 : wb92_92.cell? ⟨w.heap.size, 0, none⟩ = some (.int .i64 p_11_c0l0) := Pb92_92.out.cells rfl 0 _ rfl
                have kt_0_1__164 : wb92_92.cell? ⟨w.heap.size, 1, none⟩ = some (.string p_11_c1l0) := Pb92_92.out.cells rfl 1 _ rfl
                have kt_0_2__165 : wb92_92.cell? ⟨w.heap.size, 2, none⟩ = some (.int .i64 p_11_c2l0) := Pb92_92.out.cells rfl 2 _ rfl
                have kt_0_3__166 : wb92_92.cell? ⟨w.heap.size, 3, none⟩ = some (.int .i64 t_77) := Pb92_92.out.cells rfl 3 _ rfl
                have kt_0_4__167 : wb92_92.cell? ⟨w.heap.size, 4, none⟩ = some (.int .i64 p_11_c4l0) := Pb92_92.out.cells rfl 4 _ rfl
                have kt_0_5__168 : wb92_92.cell? ⟨w.heap.size, 5, none⟩ = some (.string p_11_c5l0) := Pb92_92.out.cells rfl 5 _ rfl
                cases ret_hid H
                go_wp2_with fail
                (try simp only [Exit.inBlock, Exit.then])
                refine bodyPost_ret (v := .agg #[.int .i64 p_11_c0l0, .string p_11_c1l0, .int .i64 p_11_c2l0, .int .i64 t_77, .int .i64 p_11_c4l0, .string p_11_c5l0]) ?hr_ ?hd_ ?_
                case hd_ => rfl
                case hr_ => simp [results, Tryz.results53, kt_0_0__163, kt_0_1__164, kt_0_2__165, kt_0_3__166, kt_0_4__167, kt_0_5__168, go_sem]
                exact ⟨rfl, Kt_77.out, HBwb92_92.out⟩
            | true =>
              replace H := ite_t H
              replace H := let_hid H
              obtain ⟨t_66, ht_66, H⟩ := H
              obtain ⟨w_t_66, hw_t_66⟩ : ∃ x, wt_48.alloc (.cells #[.int .i64 0, .int .i64 6] 3) = x := ⟨_, rfl⟩
              have bw_t_66 : Below wt_48.heap.size wt_48 w_t_66 := by rw [← hw_t_66]; exact (Below.refl _ _).alloc (Nat.le_refl _) _
              have hs_t_66 := HBwt_48.out.size
              have nt_66 : t_66.length = 2 := by rw [← ht_66]; rfl
              have Ot_66 : Hid (w_t_66.ownsRow w.heap.size 3 1 (.slice (some ⟨wt_48.heap.size, 0, none⟩) 2 2) 2 (Go.Proofs.YtgimcnpkngpmiaaGreatDoor.HelpInt.iv t_66)) := by
                rw [← hw_t_66, ← ht_66]
                have e_ : ([.int .i64 0, .int .i64 6] : List Value) = (Go.Proofs.YtgimcnpkngpmiaaGreatDoor.HelpInt.iv ([0, 6] : List Int)) := rfl
                exact Lib.hid (own_laid (n := 2) hs_t_66 e_ rfl (by unfold maxLen; omega))
              clear hs_t_66
              have hht_66 := Lib.hid ht_66
              clear ht_66
              replace nt_66 := Lib.hid nt_66
              have Dt_66_t_8 := Lib.hid (apart_fresh Ot_8.out)
              have Dt_66_t_16 := Lib.hid (apart_fresh Ot_16.out)
              have Dt_66_c0 := Lib.hid (Go.Proofs.YtgimcnpkngpmiaaGreatDoor.GoC.apart_cur Kt_48.out)
              have Dt_66_t_0 := Lib.hid (apart_box kt_0_0__49)
              have Dt_66_p_11 := Lib.hid (apart_box kp_11_0__55)
              have HBw_t_66 := Lib.hid (grown_below HBwt_48.out bw_t_66)
              have kt_0_0__169 := cell_below bw_t_66 kt_0_0__49
              have kt_0_1__170 := cell_below bw_t_66 kt_0_1__50
              have kt_0_2__171 := cell_below bw_t_66 kt_0_2__51
              have kt_0_3__172 := cell_below bw_t_66 kt_0_3__52
              have kt_0_4__173 := cell_below bw_t_66 kt_0_4__53
              have kt_0_5__174 := cell_below bw_t_66 kt_0_5__54
              have kp_11_0__175 := cell_below bw_t_66 kp_11_0__55
              have kp_11_1__176 := cell_below bw_t_66 kp_11_1__56
              have kp_11_2__177 := cell_below bw_t_66 kp_11_2__57
              have kp_11_3__178 := cell_below bw_t_66 kp_11_3__58
              have kp_11_4__179 := cell_below bw_t_66 kp_11_4__59
              have kp_11_5__180 := cell_below bw_t_66 kp_11_5__60
              replace Ot_8 := Lib.hid (own_below Ot_8.out bw_t_66)
              replace Ot_16 := Lib.hid (own_below Ot_16.out bw_t_66)
              replace Kt_48 := Lib.hid (Go.Proofs.YtgimcnpkngpmiaaGreatDoor.GoC.cur_below Kt_48.out bw_t_66)
              replace Ot_0 := Lib.hid (own_below Ot_0.out bw_t_66)
              replace Pb21_21 := Lib.hid (own_below Pb21_21.out bw_t_66)
              clear bw_t_66
              replace H := bind2_hid H
              obtain ⟨t_67, t_67_tp, qt_67, H⟩ := H
              go_wp2_with fail
              clear kt_0_0__49 kt_0_1__50 kt_0_2__51 kt_0_3__52 kt_0_4__53 kt_0_5__54 kp_11_0__55 kp_11_1__56 kp_11_2__57 kp_11_3__58 kp_11_4__59 kp_11_5__60
              have hc0_ := nt_66.out
              have Oct_67_1 := Lib.hid (own_len hc0_ Ot_66.out)
              have con_ := Go.Proofs.YtgimcnpkngpmiaaGreatDoor.GsL1CurAmong.C (t_48_tp) (t_66) (some ⟨wt_48.heap.size, 0, none⟩) 2 (g0) (Ac0) (cc0) (bc0) _   (Lib.hid (own_cells Oct_67_1.out)) (Lib.hid (own_max Oct_67_1.out)) Kt_48 (Lib.hid (fun _ => Dt_66_c0.out)) qt_67
              rw [hc0_] at con_
              clear hc0_ Oct_67_1
              go_at_call 55
              refine con_.mono ?_
              rintro e_t_67 wt_67 ⟨rfl, kt_67, gt_67⟩
              have Kt_67 := Lib.hid kt_67
              have Gt_67 : Hid (w_t_66.grownBy wt_67 (Value.slice (some ⟨g0, 0, none⟩) 1 1).ownBlock) := Lib.hid gt_67
              clear kt_67 gt_67
              have HBwt_67 := Lib.hid (Aid.grown_tr HBw_t_66.out Gt_67.out)
              replace kt_0_0__169 := cell_other kt_0_0__169 Gt_67.out (Apart.symm Dt_0_c0.out)
              replace kt_0_1__170 := cell_other kt_0_1__170 Gt_67.out (Apart.symm Dt_0_c0.out)
              replace kt_0_2__171 := cell_other kt_0_2__171 Gt_67.out (Apart.symm Dt_0_c0.out)
              replace kt_0_3__172 := cell_other kt_0_3__172 Gt_67.out (Apart.symm Dt_0_c0.out)
              replace kt_0_4__173 := cell_other kt_0_4__173 Gt_67.out (Apart.symm Dt_0_c0.out)
              replace kt_0_5__174 := cell_other kt_0_5__174 Gt_67.out (Apart.symm Dt_0_c0.out)
              replace kp_11_0__175 := cell_other kp_11_0__175 Gt_67.out (Apart.symm Dp_11_c0.out)
              replace kp_11_1__176 := cell_other kp_11_1__176 Gt_67.out (Apart.symm Dp_11_c0.out)
              replace kp_11_2__177 := cell_other kp_11_2__177 Gt_67.out (Apart.symm Dp_11_c0.out)
              replace kp_11_3__178 := cell_other kp_11_3__178 Gt_67.out (Apart.symm Dp_11_c0.out)
              replace kp_11_4__179 := cell_other kp_11_4__179 Gt_67.out (Apart.symm Dp_11_c0.out)
              replace kp_11_5__180 := cell_other kp_11_5__180 Gt_67.out (Apart.symm Dp_11_c0.out)
              replace Ot_0 := Lib.hid (own_other Ot_0.out Gt_67.out (Apart.symm Dt_0_c0.out))
              replace Pb21_21 := Lib.hid (own_other Pb21_21.out Gt_67.out (Apart.symm Dp_11_c0.out))
              replace Ot_8 := Lib.hid (own_other Ot_8.out Gt_67.out (Apart.symm Dt_8_c0.out))
              replace Ot_16 := Lib.hid (own_other Ot_16.out Gt_67.out (Apart.symm Dt_16_c0.out))
              replace Ot_66 := Lib.hid (own_other Ot_66.out Gt_67.out (Apart.symm Dt_66_c0.out))
              clear Kt_48 Gt_67
              obtain ⟨wb69_69, hwb69_69⟩ : ∃ x, (wt_67).setCell ⟨wt_9.heap.size, 2, none⟩ (.int .i64 t_67) = x := ⟨_, rfl⟩
              have z0b69_69 := Pb21_21.out.frozenAt 2
              have Sb69_69 := Lib.hid (own_stores [(2, .int .i64 t_67)] Pb21_21.out)
              have Pb69_69 : Hid (wb69_69.ownsRow w.heap.size 34 6 (.slice (some ⟨wt_9.heap.size, 0, none⟩) 1 1) 1 [.int .i64 p_11_c0l0, .string p_11_c1l0, .int .i64 t_67, .int .i64 p_11_c3l0, .int .i64 p_11_c4l0, .string p_11_c5l0]) := Lib.hid (by rw [← hwb69_69]; exact Sb69_69.out.1)
              have Gb69_69 : Hid (wt_67.grownBy wb69_69 (Value.slice (some ⟨wt_9.heap.size, 0, none⟩) 1 1).ownBlock) := Lib.hid (by rw [← hwb69_69]; exact Sb69_69.out.2)
              have HBwb69_69 := Lib.hid (Go.Proofs.YtgimcnpkngpmiaaGreatDoor.GoC.grown_new HBwt_67.out Gb69_69.out (Go.Proofs.YtgimcnpkngpmiaaGreatDoor.GoC.own_ge Pb21_21.out))
              clear Sb69_69
              have kt_0_0__181 := cell_other kt_0_0__169 Gb69_69.out Dp_11_t_0.out
              have kt_0_1__182 := cell_other kt_0_1__170 Gb69_69.out Dp_11_t_0.out
              have kt_0_2__183 := cell_other kt_0_2__171 Gb69_69.out Dp_11_t_0.out
              have kt_0_3__184 := cell_other kt_0_3__172 Gb69_69.out Dp_11_t_0.out
              have kt_0_4__185 := cell_other kt_0_4__173 Gb69_69.out Dp_11_t_0.out
              have kt_0_5__186 := cell_other kt_0_5__174 Gb69_69.out Dp_11_t_0.out
              replace Ot_0 := Lib.hid (own_other Ot_0.out Gb69_69.out Dp_11_t_0.out)
              replace Ot_8 := Lib.hid (own_other Ot_8.out Gb69_69.out Dp_11_t_8.out)
              replace Ot_16 := Lib.hid (own_other Ot_16.out Gb69_69.out (Apart.symm Dt_16_p_11.out))
              replace Ot_66 := Lib.hid (own_other Ot_66.out Gb69_69.out (Apart.symm Dt_66_p_11.out))
              replace Kt_67 := Lib.hid (Go.Proofs.YtgimcnpkngpmiaaGreatDoor.GoC.cur_otherO Kt_67.out Gb69_69.out Dp_11_c0.out L0 Pb21_21.out)
              clear Pb21_21 Gb69_69
              have kp_11_0__187 : wb69_69.cell? ⟨wt_9.heap.size, 0, none⟩ = some (.int .i64 p_11_c0l0) := Pb69_69.out.cells rfl 0 _ rfl
              have kp_11_1__188 : wb69_69.cell? ⟨wt_9.heap.size, 1, none⟩ = some (.string p_11_c1l0) := Pb69_69.out.cells rfl 1 _ rfl
              have kp_11_2__189 : wb69_69.cell? ⟨wt_9.heap.size, 2, none⟩ = some (.int .i64 t_67) := Pb69_69.out.cells rfl 2 _ rfl
              have kp_11_3__190 : wb69_69.cell? ⟨wt_9.heap.size, 3, none⟩ = some (.int .i64 p_11_c3l0) := Pb69_69.out.cells rfl 3 _ rfl
              have kp_11_4__191 : wb69_69.cell? ⟨wt_9.heap.size, 4, none⟩ = some (.int .i64 p_11_c4l0) := Pb69_69.out.cells rfl 4 _ rfl
              have kp_11_5__192 : wb69_69.cell? ⟨wt_9.heap.size, 5, none⟩ = some (.string p_11_c5l0) := Pb69_69.out.cells rfl 5 _ rfl
              obtain ⟨wb92_92, hwb92_92⟩ : ∃ x, ((((((wb69_69).setCell ⟨w.heap.size, 0, none⟩ (.int .i64 p_11_c0l0)).setCell ⟨w.heap.size, 1, none⟩ (.string p_11_c1l0)).setCell ⟨w.heap.size, 2, none⟩ (.int .i64 t_67)).setCell ⟨w.heap.size, 3, none⟩ (.int .i64 p_11_c3l0)).setCell ⟨w.heap.size, 4, none⟩ (.int .i64 p_11_c4l0)).setCell ⟨w.heap.size, 5, none⟩ (.string p_11_c5l0) = x := ⟨_, rfl⟩
              have z0b92_92 := Ot_0.out.frozenAt 0
              have z1b92_92 := Ot_0.out.frozenAt 1
              have z2b92_92 := Ot_0.out.frozenAt 2
              have z3b92_92 := Ot_0.out.frozenAt 3
              have z4b92_92 := Ot_0.out.frozenAt 4
              have z5b92_92 := Ot_0.out.frozenAt 5
              have Sb92_92 := Lib.hid (own_stores [(0, .int .i64 p_11_c0l0), (1, .string p_11_c1l0), (2, .int .i64 t_67), (3, .int .i64 p_11_c3l0), (4, .int .i64 p_11_c4l0), (5, .string p_11_c5l0)] Ot_0.out)
              have Pb92_92 : Hid (wb92_92.ownsRow w.heap.size 34 6 (.slice (some ⟨w.heap.size, 0, none⟩) 1 1) 1 [.int .i64 p_11_c0l0, .string p_11_c1l0, .int .i64 t_67, .int .i64 p_11_c3l0, .int .i64 p_11_c4l0, .string p_11_c5l0]) := Lib.hid (by rw [← hwb92_92]; exact Sb92_92.out.1)
              have Gb92_92 : Hid (wb69_69.grownBy wb92_92 (Value.slice (some ⟨w.heap.size, 0, none⟩) 1 1).ownBlock) := Lib.hid (by rw [← hwb92_92]; exact Sb92_92.out.2)
              have HBwb92_92 := Lib.hid (Go.Proofs.YtgimcnpkngpmiaaGreatDoor.GoC.grown_new HBwb69_69.out Gb92_92.out (Go.Proofs.YtgimcnpkngpmiaaGreatDoor.GoC.own_ge Ot_0.out))
              clear Sb92_92
              have kp_11_0__193 := cell_other kp_11_0__187 Gb92_92.out (Apart.symm Dp_11_t_0.out)
              have kp_11_1__194 := cell_other kp_11_1__188 Gb92_92.out (Apart.symm Dp_11_t_0.out)
              have kp_11_2__195 := cell_other kp_11_2__189 Gb92_92.out (Apart.symm Dp_11_t_0.out)
              have kp_11_3__196 := cell_other kp_11_3__190 Gb92_92.out (Apart.symm Dp_11_t_0.out)
              have kp_11_4__197 := cell_other kp_11_4__191 Gb92_92.out (Apart.symm Dp_11_t_0.out)
              have kp_11_5__198 := cell_other kp_11_5__192 Gb92_92.out (Apart.symm Dp_11_t_0.out)
              replace Pb69_69 := Lib.hid (own_other Pb69_69.out Gb92_92.out (Apart.symm Dp_11_t_0.out))
              replace Ot_8 := Lib.hid (own_other Ot_8.out Gb92_92.out (Apart.symm Dt_8_t_0.out))
              replace Ot_16 := Lib.hid (own_other Ot_16.out Gb92_92.out (Apart.symm Dt_16_t_0.out))
              replace Ot_66 := Lib.hid (own_other Ot_66.out Gb92_92.out (Apart.symm Dt_66_t_0.out))
              replace Kt_67 := Lib.hid (Go.Proofs.YtgimcnpkngpmiaaGreatDoor.GoC.cur_otherO Kt_67.out Gb92_92.out Dt_0_c0.out L0 Ot_0.out)
              clear Ot_0 Gb92_92
              have kt_0_0__199 : wb92_92.cell? ⟨w.heap.size, 0, none⟩ = some (.int .i64 p_11_c0l0) := Pb92_92.out.cells rfl 0 _ rfl
              have kt_0_1__200 : wb92_92.cell? ⟨w.heap.size, 1, none⟩ = some (.string p_11_c1l0) := Pb92_92.out.cells rfl 1 _ rfl
              have kt_0_2__201 : wb92_92.cell? ⟨w.heap.size, 2, none⟩ = some (.int .i64 t_67) := Pb92_92.out.cells rfl 2 _ rfl
              have kt_0_3__202 : wb92_92.cell? ⟨w.heap.size, 3, none⟩ = some (.int .i64 p_11_c3l0) := Pb92_92.out.cells rfl 3 _ rfl
              have kt_0_4__203 : wb92_92.cell? ⟨w.heap.size, 4, none⟩ = some (.int .i64 p_11_c4l0) := Pb92_92.out.cells rfl 4 _ rfl
              have kt_0_5__204 : wb92_92.cell? ⟨w.heap.size, 5, none⟩ = some (.string p_11_c5l0) := Pb92_92.out.cells rfl 5 _ rfl
              cases ret_hid H
              go_wp2_with fail
              (try simp only [Exit.inBlock, Exit.then])
              refine bodyPost_ret (v := .agg #[.int .i64 p_11_c0l0, .string p_11_c1l0, .int .i64 t_67, .int .i64 p_11_c3l0, .int .i64 p_11_c4l0, .string p_11_c5l0]) ?hr_ ?hd_ ?_
              case hd_ => rfl
              case hr_ => simp [results, Tryz.results53, kt_0_0__199, kt_0_1__200, kt_0_2__201, kt_0_3__202, kt_0_4__203, kt_0_5__204, go_sem]
              exact ⟨rfl, Kt_67.out, HBwb92_92.out⟩
          | true =>
            replace H := ite_t H
            replace H := let_hid H
            obtain ⟨t_59, ht_59, H⟩ := H
            obtain ⟨w_t_59, hw_t_59⟩ : ∃ x, wt_48.alloc (.cells #[.string (⟨#[]⟩ : ByteArray), .string (⟨#[66, 101, 114, 110]⟩ : ByteArray), .string (⟨#[97, 98, 99, 100, 101, 102, 103, 104, 105, 106, 107]⟩ : ByteArray)] 9) = x := ⟨_, rfl⟩
            have bw_t_59 : Below wt_48.heap.size wt_48 w_t_59 := by rw [← hw_t_59]; exact (Below.refl _ _).alloc (Nat.le_refl _) _
            have hs_t_59 := HBwt_48.out.size
            have nt_59 : t_59.length = 3 := by rw [← ht_59]; rfl
            have Ot_59 : Hid (w_t_59.ownsRow w.heap.size 9 1 (.slice (some ⟨wt_48.heap.size, 0, none⟩) 3 3) 3 (t_59.map Value.string)) := by
              rw [← hw_t_59, ← ht_59]
              have e_ : ([.string (⟨#[]⟩ : ByteArray), .string (⟨#[66, 101, 114, 110]⟩ : ByteArray), .string (⟨#[97, 98, 99, 100, 101, 102, 103, 104, 105, 106, 107]⟩ : ByteArray)] : List Value) = (([(⟨#[]⟩ : ByteArray), (⟨#[66, 101, 114, 110]⟩ : ByteArray), (⟨#[97, 98, 99, 100, 101, 102, 103, 104, 105, 106, 107]⟩ : ByteArray)] : List ByteArray).map Value.string) := rfl
              exact Lib.hid (own_laid (n := 3) hs_t_59 e_ rfl (by unfold maxLen; omega))
            clear hs_t_59
            have hht_59 := Lib.hid ht_59
            clear ht_59
            replace nt_59 := Lib.hid nt_59
            have Dt_59_t_8 := Lib.hid (apart_fresh Ot_8.out)
            have Dt_59_t_16 := Lib.hid (apart_fresh Ot_16.out)
            have Dt_59_c0 := Lib.hid (Go.Proofs.YtgimcnpkngpmiaaGreatDoor.GoC.apart_cur Kt_48.out)
            have Dt_59_t_0 := Lib.hid (apart_box kt_0_0__49)
            have Dt_59_p_11 := Lib.hid (apart_box kp_11_0__55)
            have HBw_t_59 := Lib.hid (grown_below HBwt_48.out bw_t_59)
            have kt_0_0__205 := cell_below bw_t_59 kt_0_0__49
            have kt_0_1__206 := cell_below bw_t_59 kt_0_1__50
            have kt_0_2__207 := cell_below bw_t_59 kt_0_2__51
            have kt_0_3__208 := cell_below bw_t_59 kt_0_3__52
            have kt_0_4__209 := cell_below bw_t_59 kt_0_4__53
            have kt_0_5__210 := cell_below bw_t_59 kt_0_5__54
            have kp_11_0__211 := cell_below bw_t_59 kp_11_0__55
            have kp_11_1__212 := cell_below bw_t_59 kp_11_1__56
            have kp_11_2__213 := cell_below bw_t_59 kp_11_2__57
            have kp_11_3__214 := cell_below bw_t_59 kp_11_3__58
            have kp_11_4__215 := cell_below bw_t_59 kp_11_4__59
            have kp_11_5__216 := cell_below bw_t_59 kp_11_5__60
            replace Ot_8 := Lib.hid (own_below Ot_8.out bw_t_59)
            replace Ot_16 := Lib.hid (own_below Ot_16.out bw_t_59)
            replace Kt_48 := Lib.hid (Go.Proofs.YtgimcnpkngpmiaaGreatDoor.GoC.cur_below Kt_48.out bw_t_59)
            replace Ot_0 := Lib.hid (own_below Ot_0.out bw_t_59)
            replace Pb21_21 := Lib.hid (own_below Pb21_21.out bw_t_59)
            clear bw_t_59
            replace H := bind2_hid H
            obtain ⟨t_60, t_60_tp, qt_60, H⟩ := H
            go_wp2_with fail
            clear kt_0_0__49 kt_0_1__50 kt_0_2__51 kt_0_3__52 kt_0_4__53 kt_0_5__54 kp_11_0__55 kp_11_1__56 kp_11_2__57 kp_11_3__58 kp_11_4__59 kp_11_5__60
            have hc0_ := nt_59.out
            have Oct_60_1 := Lib.hid (own_len hc0_ Ot_59.out)
            have con_ := Go.Proofs.YtgimcnpkngpmiaaGreatDoor.GsL1CurOf.C (t_48_tp) (t_59) (some ⟨wt_48.heap.size, 0, none⟩) 3 (g0) (Ac0) (cc0) (bc0) _   (Lib.hid (own_cells Oct_60_1.out)) (Lib.hid (own_max Oct_60_1.out)) Kt_48 (Lib.hid (fun _ => Dt_59_c0.out)) qt_60
            rw [hc0_] at con_
            clear hc0_ Oct_60_1
            go_at_call 64
            refine con_.mono ?_
            rintro e_t_60 wt_60 ⟨rfl, kt_60, gt_60⟩
            have Kt_60 := Lib.hid kt_60
            have Gt_60 : Hid (w_t_59.grownBy wt_60 (Value.slice (some ⟨g0, 0, none⟩) 1 1).ownBlock) := Lib.hid gt_60
            clear kt_60 gt_60
            have HBwt_60 := Lib.hid (Aid.grown_tr HBw_t_59.out Gt_60.out)
            replace kt_0_0__205 := cell_other kt_0_0__205 Gt_60.out (Apart.symm Dt_0_c0.out)
            replace kt_0_1__206 := cell_other kt_0_1__206 Gt_60.out (Apart.symm Dt_0_c0.out)
            replace kt_0_2__207 := cell_other kt_0_2__207 Gt_60.out (Apart.symm Dt_0_c0.out)
            replace kt_0_3__208 := cell_other kt_0_3__208 Gt_60.out (Apart.symm Dt_0_c0.out)
            replace kt_0_4__209 := cell_other kt_0_4__209 Gt_60.out (Apart.symm Dt_0_c0.out)
            replace kt_0_5__210 := cell_other kt_0_5__210 Gt_60.out (Apart.symm Dt_0_c0.out)
            replace kp_11_0__211 := cell_other kp_11_0__211 Gt_60.out (Apart.symm Dp_11_c0.out)
            replace kp_11_1__212 := cell_other kp_11_1__212 Gt_60.out (Apart.symm Dp_11_c0.out)
            replace kp_11_2__213 := cell_other kp_11_2__213 Gt_60.out (Apart.symm Dp_11_c0.out)
            replace kp_11_3__214 := cell_other kp_11_3__214 Gt_60.out (Apart.symm Dp_11_c0.out)
            replace kp_11_4__215 := cell_other kp_11_4__215 Gt_60.out (Apart.symm Dp_11_c0.out)
            replace kp_11_5__216 := cell_other kp_11_5__216 Gt_60.out (Apart.symm Dp_11_c0.out)
            replace Ot_0 := Lib.hid (own_other Ot_0.out Gt_60.out (Apart.symm Dt_0_c0.out))
            replace Pb21_21 := Lib.hid (own_other Pb21_21.out Gt_60.out (Apart.symm Dp_11_c0.out))
            replace Ot_8 := Lib.hid (own_other Ot_8.out Gt_60.out (Apart.symm Dt_8_c0.out))
            replace Ot_16 := Lib.hid (own_other Ot_16.out Gt_60.out (Apart.symm Dt_16_c0.out))
            replace Ot_59 := Lib.hid (own_other Ot_59.out Gt_60.out (Apart.symm Dt_59_c0.out))
            clear Kt_48 Gt_60
            obtain ⟨wb62_62, hwb62_62⟩ : ∃ x, (wt_60).setCell ⟨wt_9.heap.size, 1, none⟩ (.string t_60) = x := ⟨_, rfl⟩
            have z0b62_62 := Pb21_21.out.frozenAt 1
            have Sb62_62 := Lib.hid (own_stores [(1, .string t_60)] Pb21_21.out)
            have Pb62_62 : Hid (wb62_62.ownsRow w.heap.size 34 6 (.slice (some ⟨wt_9.heap.size, 0, none⟩) 1 1) 1 [.int .i64 p_11_c0l0, .string t_60, .int .i64 p_11_c2l0, .int .i64 p_11_c3l0, .int .i64 p_11_c4l0, .string p_11_c5l0]) := Lib.hid (by rw [← hwb62_62]; exact Sb62_62.out.1)
            have Gb62_62 : Hid (wt_60.grownBy wb62_62 (Value.slice (some ⟨wt_9.heap.size, 0, none⟩) 1 1).ownBlock) := Lib.hid (by rw [← hwb62_62]; exact Sb62_62.out.2)
            have HBwb62_62 := Lib.hid (Go.Proofs.YtgimcnpkngpmiaaGreatDoor.GoC.grown_new HBwt_60.out Gb62_62.out (Go.Proofs.YtgimcnpkngpmiaaGreatDoor.GoC.own_ge Pb21_21.out))
            clear Sb62_62
            have kt_0_0__217 := cell_other kt_0_0__205 Gb62_62.out Dp_11_t_0.out
            have kt_0_1__218 := cell_other kt_0_1__206 Gb62_62.out Dp_11_t_0.out
            have kt_0_2__219 := cell_other kt_0_2__207 Gb62_62.out Dp_11_t_0.out
            have kt_0_3__220 := cell_other kt_0_3__208 Gb62_62.out Dp_11_t_0.out
            have kt_0_4__221 := cell_other kt_0_4__209 Gb62_62.out Dp_11_t_0.out
            have kt_0_5__222 := cell_other kt_0_5__210 Gb62_62.out Dp_11_t_0.out
            replace Ot_0 := Lib.hid (own_other Ot_0.out Gb62_62.out Dp_11_t_0.out)
            replace Ot_8 := Lib.hid (own_other Ot_8.out Gb62_62.out Dp_11_t_8.out)
            replace Ot_16 := Lib.hid (own_other Ot_16.out Gb62_62.out (Apart.symm Dt_16_p_11.out))
            replace Ot_59 := Lib.hid (own_other Ot_59.out Gb62_62.out (Apart.symm Dt_59_p_11.out))
            replace Kt_60 := Lib.hid (Go.Proofs.YtgimcnpkngpmiaaGreatDoor.GoC.cur_otherO Kt_60.out Gb62_62.out Dp_11_c0.out L0 Pb21_21.out)
            clear Pb21_21 Gb62_62
            have kp_11_0__223 : wb62_62.cell? ⟨wt_9.heap.size, 0, none⟩ = some (.int .i64 p_11_c0l0) := Pb62_62.out.cells rfl 0 _ rfl
            have kp_11_1__224 : wb62_62.cell? ⟨wt_9.heap.size, 1, none⟩ = some (.string t_60) := Pb62_62.out.cells rfl 1 _ rfl
            have kp_11_2__225 : wb62_62.cell? ⟨wt_9.heap.size, 2, none⟩ = some (.int .i64 p_11_c2l0) := Pb62_62.out.cells rfl 2 _ rfl
            have kp_11_3__226 : wb62_62.cell? ⟨wt_9.heap.size, 3, none⟩ = some (.int .i64 p_11_c3l0) := Pb62_62.out.cells rfl 3 _ rfl
            have kp_11_4__227 : wb62_62.cell? ⟨wt_9.heap.size, 4, none⟩ = some (.int .i64 p_11_c4l0) := Pb62_62.out.cells rfl 4 _ rfl
            have kp_11_5__228 : wb62_62.cell? ⟨wt_9.heap.size, 5, none⟩ = some (.string p_11_c5l0) := Pb62_62.out.cells rfl 5 _ rfl
            obtain ⟨wb92_92, hwb92_92⟩ : ∃ x, ((((((wb62_62).setCell ⟨w.heap.size, 0, none⟩ (.int .i64 p_11_c0l0)).setCell ⟨w.heap.size, 1, none⟩ (.string t_60)).setCell ⟨w.heap.size, 2, none⟩ (.int .i64 p_11_c2l0)).setCell ⟨w.heap.size, 3, none⟩ (.int .i64 p_11_c3l0)).setCell ⟨w.heap.size, 4, none⟩ (.int .i64 p_11_c4l0)).setCell ⟨w.heap.size, 5, none⟩ (.string p_11_c5l0) = x := ⟨_, rfl⟩
            have z0b92_92 := Ot_0.out.frozenAt 0
            have z1b92_92 := Ot_0.out.frozenAt 1
            have z2b92_92 := Ot_0.out.frozenAt 2
            have z3b92_92 := Ot_0.out.frozenAt 3
            have z4b92_92 := Ot_0.out.frozenAt 4
            have z5b92_92 := Ot_0.out.frozenAt 5
            have Sb92_92 := Lib.hid (own_stores [(0, .int .i64 p_11_c0l0), (1, .string t_60), (2, .int .i64 p_11_c2l0), (3, .int .i64 p_11_c3l0), (4, .int .i64 p_11_c4l0), (5, .string p_11_c5l0)] Ot_0.out)
            have Pb92_92 : Hid (wb92_92.ownsRow w.heap.size 34 6 (.slice (some ⟨w.heap.size, 0, none⟩) 1 1) 1 [.int .i64 p_11_c0l0, .string t_60, .int .i64 p_11_c2l0, .int .i64 p_11_c3l0, .int .i64 p_11_c4l0, .string p_11_c5l0]) := Lib.hid (by rw [← hwb92_92]; exact Sb92_92.out.1)
            have Gb92_92 : Hid (wb62_62.grownBy wb92_92 (Value.slice (some ⟨w.heap.size, 0, none⟩) 1 1).ownBlock) := Lib.hid (by rw [← hwb92_92]; exact Sb92_92.out.2)
            have HBwb92_92 := Lib.hid (Go.Proofs.YtgimcnpkngpmiaaGreatDoor.GoC.grown_new HBwb62_62.out Gb92_92.out (Go.Proofs.YtgimcnpkngpmiaaGreatDoor.GoC.own_ge Ot_0.out))
            clear Sb92_92
            have kp_11_0__229 := cell_other kp_11_0__223 Gb92_92.out (Apart.symm Dp_11_t_0.out)
            have kp_11_1__230 := cell_other kp_11_1__224 Gb92_92.out (Apart.symm Dp_11_t_0.out)
            have kp_11_2__231 := cell_other kp_11_2__225 Gb92_92.out (Apart.symm Dp_11_t_0.out)
            have kp_11_3__232 := cell_other kp_11_3__226 Gb92_92.out (Apart.symm Dp_11_t_0.out)
            have kp_11_4__233 := cell_other kp_11_4__227 Gb92_92.out (Apart.symm Dp_11_t_0.out)
            have kp_11_5__234 := cell_other kp_11_5__228 Gb92_92.out (Apart.symm Dp_11_t_0.out)
            replace Pb62_62 := Lib.hid (own_other Pb62_62.out Gb92_92.out (Apart.symm Dp_11_t_0.out))
            replace Ot_8 := Lib.hid (own_other Ot_8.out Gb92_92.out (Apart.symm Dt_8_t_0.out))
            replace Ot_16 := Lib.hid (own_other Ot_16.out Gb92_92.out (Apart.symm Dt_16_t_0.out))
            replace Ot_59 := Lib.hid (own_other Ot_59.out Gb92_92.out (Apart.symm Dt_59_t_0.out))
            replace Kt_60 := Lib.hid (Go.Proofs.YtgimcnpkngpmiaaGreatDoor.GoC.cur_otherO Kt_60.out Gb92_92.out Dt_0_c0.out L0 Ot_0.out)
            clear Ot_0 Gb92_92
            have kt_0_0__235 : wb92_92.cell? ⟨w.heap.size, 0, none⟩ = some (.int .i64 p_11_c0l0) := Pb92_92.out.cells rfl 0 _ rfl
            have kt_0_1__236 : wb92_92.cell? ⟨w.heap.size, 1, none⟩ = some (.string t_60) := Pb92_92.out.cells rfl 1 _ rfl
            have kt_0_2__237 : wb92_92.cell? ⟨w.heap.size, 2, none⟩ = some (.int .i64 p_11_c2l0) := Pb92_92.out.cells rfl 2 _ rfl
            have kt_0_3__238 : wb92_92.cell? ⟨w.heap.size, 3, none⟩ = some (.int .i64 p_11_c3l0) := Pb92_92.out.cells rfl 3 _ rfl
            have kt_0_4__239 : wb92_92.cell? ⟨w.heap.size, 4, none⟩ = some (.int .i64 p_11_c4l0) := Pb92_92.out.cells rfl 4 _ rfl
            have kt_0_5__240 : wb92_92.cell? ⟨w.heap.size, 5, none⟩ = some (.string p_11_c5l0) := Pb92_92.out.cells rfl 5 _ rfl
            cases ret_hid H
            go_wp2_with fail
            (try simp only [Exit.inBlock, Exit.then])
            refine bodyPost_ret (v := .agg #[.int .i64 p_11_c0l0, .string t_60, .int .i64 p_11_c2l0, .int .i64 p_11_c3l0, .int .i64 p_11_c4l0, .string p_11_c5l0]) ?hr_ ?hd_ ?_
            case hd_ => rfl
            case hr_ => simp [results, Tryz.results53, kt_0_0__235, kt_0_1__236, kt_0_2__237, kt_0_3__238, kt_0_4__239, kt_0_5__240, go_sem]
            exact ⟨rfl, Kt_60.out, HBwb92_92.out⟩
        | true =>
          replace H := ite_t H
          replace H := let_hid H
          obtain ⟨t_52, ht_52, H⟩ := H
          obtain ⟨w_t_52, hw_t_52⟩ : ∃ x, wt_48.alloc (.cells #[.int .i64 0, .int .i64 999, .int .i64 1000] 3) = x := ⟨_, rfl⟩
          have bw_t_52 : Below wt_48.heap.size wt_48 w_t_52 := by rw [← hw_t_52]; exact (Below.refl _ _).alloc (Nat.le_refl _) _
          have hs_t_52 := HBwt_48.out.size
          have nt_52 : t_52.length = 3 := by rw [← ht_52]; rfl
          have Ot_52 : Hid (w_t_52.ownsRow w.heap.size 3 1 (.slice (some ⟨wt_48.heap.size, 0, none⟩) 3 3) 3 (Go.Proofs.YtgimcnpkngpmiaaGreatDoor.HelpInt.iv t_52)) := by
            rw [← hw_t_52, ← ht_52]
            have e_ : ([.int .i64 0, .int .i64 999, .int .i64 1000] : List Value) = (Go.Proofs.YtgimcnpkngpmiaaGreatDoor.HelpInt.iv ([0, 999, 1000] : List Int)) := rfl
            exact Lib.hid (own_laid (n := 3) hs_t_52 e_ rfl (by unfold maxLen; omega))
          clear hs_t_52
          have hht_52 := Lib.hid ht_52
          clear ht_52
          replace nt_52 := Lib.hid nt_52
          have Dt_52_t_8 := Lib.hid (apart_fresh Ot_8.out)
          have Dt_52_t_16 := Lib.hid (apart_fresh Ot_16.out)
          have Dt_52_c0 := Lib.hid (Go.Proofs.YtgimcnpkngpmiaaGreatDoor.GoC.apart_cur Kt_48.out)
          have Dt_52_t_0 := Lib.hid (apart_box kt_0_0__49)
          have Dt_52_p_11 := Lib.hid (apart_box kp_11_0__55)
          have HBw_t_52 := Lib.hid (grown_below HBwt_48.out bw_t_52)
          have kt_0_0__241 := cell_below bw_t_52 kt_0_0__49
          have kt_0_1__242 := cell_below bw_t_52 kt_0_1__50
          have kt_0_2__243 := cell_below bw_t_52 kt_0_2__51
          have kt_0_3__244 := cell_below bw_t_52 kt_0_3__52
          have kt_0_4__245 := cell_below bw_t_52 kt_0_4__53
          have kt_0_5__246 := cell_below bw_t_52 kt_0_5__54
          have kp_11_0__247 := cell_below bw_t_52 kp_11_0__55
          have kp_11_1__248 := cell_below bw_t_52 kp_11_1__56
          have kp_11_2__249 := cell_below bw_t_52 kp_11_2__57
          have kp_11_3__250 := cell_below bw_t_52 kp_11_3__58
          have kp_11_4__251 := cell_below bw_t_52 kp_11_4__59
          have kp_11_5__252 := cell_below bw_t_52 kp_11_5__60
          replace Ot_8 := Lib.hid (own_below Ot_8.out bw_t_52)
          replace Ot_16 := Lib.hid (own_below Ot_16.out bw_t_52)
          replace Kt_48 := Lib.hid (Go.Proofs.YtgimcnpkngpmiaaGreatDoor.GoC.cur_below Kt_48.out bw_t_52)
          replace Ot_0 := Lib.hid (own_below Ot_0.out bw_t_52)
          replace Pb21_21 := Lib.hid (own_below Pb21_21.out bw_t_52)
          clear bw_t_52
          replace H := bind2_hid H
          obtain ⟨t_53, t_53_tp, qt_53, H⟩ := H
          go_wp2_with fail
          clear kt_0_0__49 kt_0_1__50 kt_0_2__51 kt_0_3__52 kt_0_4__53 kt_0_5__54 kp_11_0__55 kp_11_1__56 kp_11_2__57 kp_11_3__58 kp_11_4__59 kp_11_5__60
          have hc0_ := nt_52.out
          have Oct_53_1 := Lib.hid (own_len hc0_ Ot_52.out)
          have con_ := Go.Proofs.YtgimcnpkngpmiaaGreatDoor.GsL1CurAmong.C (t_48_tp) (t_52) (some ⟨wt_48.heap.size, 0, none⟩) 3 (g0) (Ac0) (cc0) (bc0) _   (Lib.hid (own_cells Oct_53_1.out)) (Lib.hid (own_max Oct_53_1.out)) Kt_48 (Lib.hid (fun _ => Dt_52_c0.out)) qt_53
          rw [hc0_] at con_
          clear hc0_ Oct_53_1
          go_at_call 55
          refine con_.mono ?_
          rintro e_t_53 wt_53 ⟨rfl, kt_53, gt_53⟩
          have Kt_53 := Lib.hid kt_53
          have Gt_53 : Hid (w_t_52.grownBy wt_53 (Value.slice (some ⟨g0, 0, none⟩) 1 1).ownBlock) := Lib.hid gt_53
          clear kt_53 gt_53
          have HBwt_53 := Lib.hid (Aid.grown_tr HBw_t_52.out Gt_53.out)
          replace kt_0_0__241 := cell_other kt_0_0__241 Gt_53.out (Apart.symm Dt_0_c0.out)
          replace kt_0_1__242 := cell_other kt_0_1__242 Gt_53.out (Apart.symm Dt_0_c0.out)
          replace kt_0_2__243 := cell_other kt_0_2__243 Gt_53.out (Apart.symm Dt_0_c0.out)
          replace kt_0_3__244 := cell_other kt_0_3__244 Gt_53.out (Apart.symm Dt_0_c0.out)
          replace kt_0_4__245 := cell_other kt_0_4__245 Gt_53.out (Apart.symm Dt_0_c0.out)
          replace kt_0_5__246 := cell_other kt_0_5__246 Gt_53.out (Apart.symm Dt_0_c0.out)
          replace kp_11_0__247 := cell_other kp_11_0__247 Gt_53.out (Apart.symm Dp_11_c0.out)
          replace kp_11_1__248 := cell_other kp_11_1__248 Gt_53.out (Apart.symm Dp_11_c0.out)
          replace kp_11_2__249 := cell_other kp_11_2__249 Gt_53.out (Apart.symm Dp_11_c0.out)
          replace kp_11_3__250 := cell_other kp_11_3__250 Gt_53.out (Apart.symm Dp_11_c0.out)
          replace kp_11_4__251 := cell_other kp_11_4__251 Gt_53.out (Apart.symm Dp_11_c0.out)
          replace kp_11_5__252 := cell_other kp_11_5__252 Gt_53.out (Apart.symm Dp_11_c0.out)
          replace Ot_0 := Lib.hid (own_other Ot_0.out Gt_53.out (Apart.symm Dt_0_c0.out))
          replace Pb21_21 := Lib.hid (own_other Pb21_21.out Gt_53.out (Apart.symm Dp_11_c0.out))
          replace Ot_8 := Lib.hid (own_other Ot_8.out Gt_53.out (Apart.symm Dt_8_c0.out))
          replace Ot_16 := Lib.hid (own_other Ot_16.out Gt_53.out (Apart.symm Dt_16_c0.out))
          replace Ot_52 := Lib.hid (own_other Ot_52.out Gt_53.out (Apart.symm Dt_52_c0.out))
          clear Kt_48 Gt_53
          obtain ⟨wb55_55, hwb55_55⟩ : ∃ x, (wt_53).setCell ⟨wt_9.heap.size, 0, none⟩ (.int .i64 t_53) = x := ⟨_, rfl⟩
          have z0b55_55 := Pb21_21.out.frozenAt 0
          have Sb55_55 := Lib.hid (own_stores [(0, .int .i64 t_53)] Pb21_21.out)
          have Pb55_55 : Hid (wb55_55.ownsRow w.heap.size 34 6 (.slice (some ⟨wt_9.heap.size, 0, none⟩) 1 1) 1 [.int .i64 t_53, .string p_11_c1l0, .int .i64 p_11_c2l0, .int .i64 p_11_c3l0, .int .i64 p_11_c4l0, .string p_11_c5l0]) := Lib.hid (by rw [← hwb55_55]; exact Sb55_55.out.1)
          have Gb55_55 : Hid (wt_53.grownBy wb55_55 (Value.slice (some ⟨wt_9.heap.size, 0, none⟩) 1 1).ownBlock) := Lib.hid (by rw [← hwb55_55]; exact Sb55_55.out.2)
          have HBwb55_55 := Lib.hid (Go.Proofs.YtgimcnpkngpmiaaGreatDoor.GoC.grown_new HBwt_53.out Gb55_55.out (Go.Proofs.YtgimcnpkngpmiaaGreatDoor.GoC.own_ge Pb21_21.out))
          clear Sb55_55
          have kt_0_0__253 := cell_other kt_0_0__241 Gb55_55.out Dp_11_t_0.out
          have kt_0_1__254 := cell_other kt_0_1__242 Gb55_55.out Dp_11_t_0.out
          have kt_0_2__255 := cell_other kt_0_2__243 Gb55_55.out Dp_11_t_0.out
          have kt_0_3__256 := cell_other kt_0_3__244 Gb55_55.out Dp_11_t_0.out
          have kt_0_4__257 := cell_other kt_0_4__245 Gb55_55.out Dp_11_t_0.out
          have kt_0_5__258 := cell_other kt_0_5__246 Gb55_55.out Dp_11_t_0.out
          replace Ot_0 := Lib.hid (own_other Ot_0.out Gb55_55.out Dp_11_t_0.out)
          replace Ot_8 := Lib.hid (own_other Ot_8.out Gb55_55.out Dp_11_t_8.out)
          replace Ot_16 := Lib.hid (own_other Ot_16.out Gb55_55.out (Apart.symm Dt_16_p_11.out))
          replace Ot_52 := Lib.hid (own_other Ot_52.out Gb55_55.out (Apart.symm Dt_52_p_11.out))
          replace Kt_53 := Lib.hid (Go.Proofs.YtgimcnpkngpmiaaGreatDoor.GoC.cur_otherO Kt_53.out Gb55_55.out Dp_11_c0.out L0 Pb21_21.out)
          clear Pb21_21 Gb55_55
          have kp_11_0__259 : wb55_55.cell? ⟨wt_9.heap.size, 0, none⟩ = some (.int .i64 t_53) := Pb55_55.out.cells rfl 0 _ rfl
          have kp_11_1__260 : wb55_55.cell? ⟨wt_9.heap.size, 1, none⟩ = some (.string p_11_c1l0) := Pb55_55.out.cells rfl 1 _ rfl
          have kp_11_2__261 : wb55_55.cell? ⟨wt_9.heap.size, 2, none⟩ = some (.int .i64 p_11_c2l0) := Pb55_55.out.cells rfl 2 _ rfl
          have kp_11_3__262 : wb55_55.cell? ⟨wt_9.heap.size, 3, none⟩ = some (.int .i64 p_11_c3l0) := Pb55_55.out.cells rfl 3 _ rfl
          have kp_11_4__263 : wb55_55.cell? ⟨wt_9.heap.size, 4, none⟩ = some (.int .i64 p_11_c4l0) := Pb55_55.out.cells rfl 4 _ rfl
          have kp_11_5__264 : wb55_55.cell? ⟨wt_9.heap.size, 5, none⟩ = some (.string p_11_c5l0) := Pb55_55.out.cells rfl 5 _ rfl
          obtain ⟨wb92_92, hwb92_92⟩ : ∃ x, ((((((wb55_55).setCell ⟨w.heap.size, 0, none⟩ (.int .i64 t_53)).setCell ⟨w.heap.size, 1, none⟩ (.string p_11_c1l0)).setCell ⟨w.heap.size, 2, none⟩ (.int .i64 p_11_c2l0)).setCell ⟨w.heap.size, 3, none⟩ (.int .i64 p_11_c3l0)).setCell ⟨w.heap.size, 4, none⟩ (.int .i64 p_11_c4l0)).setCell ⟨w.heap.size, 5, none⟩ (.string p_11_c5l0) = x := ⟨_, rfl⟩
          have z0b92_92 := Ot_0.out.frozenAt 0
          have z1b92_92 := Ot_0.out.frozenAt 1
          have z2b92_92 := Ot_0.out.frozenAt 2
          have z3b92_92 := Ot_0.out.frozenAt 3
          have z4b92_92 := Ot_0.out.frozenAt 4
          have z5b92_92 := Ot_0.out.frozenAt 5
          have Sb92_92 := Lib.hid (own_stores [(0, .int .i64 t_53), (1, .string p_11_c1l0), (2, .int .i64 p_11_c2l0), (3, .int .i64 p_11_c3l0), (4, .int .i64 p_11_c4l0), (5, .string p_11_c5l0)] Ot_0.out)
          have Pb92_92 : Hid (wb92_92.ownsRow w.heap.size 34 6 (.slice (some ⟨w.heap.size, 0, none⟩) 1 1) 1 [.int .i64 t_53, .string p_11_c1l0, .int .i64 p_11_c2l0, .int .i64 p_11_c3l0, .int .i64 p_11_c4l0, .string p_11_c5l0]) := Lib.hid (by rw [← hwb92_92]; exact Sb92_92.out.1)
          have Gb92_92 : Hid (wb55_55.grownBy wb92_92 (Value.slice (some ⟨w.heap.size, 0, none⟩) 1 1).ownBlock) := Lib.hid (by rw [← hwb92_92]; exact Sb92_92.out.2)
          have HBwb92_92 := Lib.hid (Go.Proofs.YtgimcnpkngpmiaaGreatDoor.GoC.grown_new HBwb55_55.out Gb92_92.out (Go.Proofs.YtgimcnpkngpmiaaGreatDoor.GoC.own_ge Ot_0.out))
          clear Sb92_92
          have kp_11_0__265 := cell_other kp_11_0__259 Gb92_92.out (Apart.symm Dp_11_t_0.out)
          have kp_11_1__266 := cell_other kp_11_1__260 Gb92_92.out (Apart.symm Dp_11_t_0.out)
          have kp_11_2__267 := cell_other kp_11_2__261 Gb92_92.out (Apart.symm Dp_11_t_0.out)
          have kp_11_3__268 := cell_other kp_11_3__262 Gb92_92.out (Apart.symm Dp_11_t_0.out)
          have kp_11_4__269 := cell_other kp_11_4__263 Gb92_92.out (Apart.symm Dp_11_t_0.out)
          have kp_11_5__270 := cell_other kp_11_5__264 Gb92_92.out (Apart.symm Dp_11_t_0.out)
          replace Pb55_55 := Lib.hid (own_other Pb55_55.out Gb92_92.out (Apart.symm Dp_11_t_0.out))
          replace Ot_8 := Lib.hid (own_other Ot_8.out Gb92_92.out (Apart.symm Dt_8_t_0.out))
          replace Ot_16 := Lib.hid (own_other Ot_16.out Gb92_92.out (Apart.symm Dt_16_t_0.out))
          replace Ot_52 := Lib.hid (own_other Ot_52.out Gb92_92.out (Apart.symm Dt_52_t_0.out))
          replace Kt_53 := Lib.hid (Go.Proofs.YtgimcnpkngpmiaaGreatDoor.GoC.cur_otherO Kt_53.out Gb92_92.out Dt_0_c0.out L0 Ot_0.out)
          clear Ot_0 Gb92_92
          have kt_0_0__271 : wb92_92.cell? ⟨w.heap.size, 0, none⟩ = some (.int .i64 t_53) := Pb92_92.out.cells rfl 0 _ rfl
          have kt_0_1__272 : wb92_92.cell? ⟨w.heap.size, 1, none⟩ = some (.string p_11_c1l0) := Pb92_92.out.cells rfl 1 _ rfl
          have kt_0_2__273 : wb92_92.cell? ⟨w.heap.size, 2, none⟩ = some (.int .i64 p_11_c2l0) := Pb92_92.out.cells rfl 2 _ rfl
          have kt_0_3__274 : wb92_92.cell? ⟨w.heap.size, 3, none⟩ = some (.int .i64 p_11_c3l0) := Pb92_92.out.cells rfl 3 _ rfl
          have kt_0_4__275 : wb92_92.cell? ⟨w.heap.size, 4, none⟩ = some (.int .i64 p_11_c4l0) := Pb92_92.out.cells rfl 4 _ rfl
          have kt_0_5__276 : wb92_92.cell? ⟨w.heap.size, 5, none⟩ = some (.string p_11_c5l0) := Pb92_92.out.cells rfl 5 _ rfl
          cases ret_hid H
          go_wp2_with fail
          (try simp only [Exit.inBlock, Exit.then])
          refine bodyPost_ret (v := .agg #[.int .i64 t_53, .string p_11_c1l0, .int .i64 p_11_c2l0, .int .i64 p_11_c3l0, .int .i64 p_11_c4l0, .string p_11_c5l0]) ?hr_ ?hd_ ?_
          case hd_ => rfl
          case hr_ => simp [results, Tryz.results53, kt_0_0__271, kt_0_1__272, kt_0_2__273, kt_0_3__274, kt_0_4__275, kt_0_5__276, go_sem]
          exact ⟨rfl, Kt_53.out, HBwb92_92.out⟩
      | true =>
        replace H := ite_t H
        go_upto_region 6 with fail
        go_cut [37] (fun v37_ wr => ∃ (t_37q0 : Bool) (c0_c0q0 : Go.Proofs.YtgimcnpkngpmiaaGreatDoor.GoC.Tape), v37_ = .bool t_37q0 ∧ Hid (q0 (fun s' => loopK (l0 ) m0 s' (e0 )) i_6l0 p_11_c0l0 p_11_c1l0 p_11_c2l0 p_11_c3l0 p_11_c4l0 p_11_c5l0 (t_37q0, c0_c0q0) = some (r, t_)) ∧ Hid (w.grownBy wr (Value.slice (some ⟨g0, 0, none⟩) 1 1).ownBlock) ∧ wr.cell? ⟨w.heap.size, 0, none⟩ = some (.int .i64 0) ∧ wr.cell? ⟨w.heap.size, 1, none⟩ = some (.string (⟨#[]⟩ : ByteArray)) ∧ wr.cell? ⟨w.heap.size, 2, none⟩ = some (.int .i64 0) ∧ wr.cell? ⟨w.heap.size, 3, none⟩ = some (.int .i64 0) ∧ wr.cell? ⟨w.heap.size, 4, none⟩ = some (.int .i64 0) ∧ wr.cell? ⟨w.heap.size, 5, none⟩ = some (.string (⟨#[]⟩ : ByteArray)) ∧ wr.cell? ⟨wt_9.heap.size, 0, none⟩ = some (.int .i64 p_11_c0l0) ∧ wr.cell? ⟨wt_9.heap.size, 1, none⟩ = some (.string p_11_c1l0) ∧ wr.cell? ⟨wt_9.heap.size, 2, none⟩ = some (.int .i64 p_11_c2l0) ∧ wr.cell? ⟨wt_9.heap.size, 3, none⟩ = some (.int .i64 p_11_c3l0) ∧ wr.cell? ⟨wt_9.heap.size, 4, none⟩ = some (.int .i64 p_11_c4l0) ∧ wr.cell? ⟨wt_9.heap.size, 5, none⟩ = some (.string p_11_c5l0) ∧ Hid (wr.ownsRow w.heap.size 34 6 (.slice (some ⟨w.heap.size, 0, none⟩) 1 1) 1 [.int .i64 0, .string (⟨#[]⟩ : ByteArray), .int .i64 0, .int .i64 0, .int .i64 0, .string (⟨#[]⟩ : ByteArray)]) ∧ Hid (wr.ownsRow w.heap.size 34 6 (.slice (some ⟨wt_9.heap.size, 0, none⟩) 1 1) 1 [.int .i64 p_11_c0l0, .string p_11_c1l0, .int .i64 p_11_c2l0, .int .i64 p_11_c3l0, .int .i64 p_11_c4l0, .string p_11_c5l0]) ∧ Hid (wr.ownsRow w.heap.size 3 1 (.slice (some ⟨wt_5.heap.size, 0, none⟩) t_8.length 5) t_8.length (Go.Proofs.YtgimcnpkngpmiaaGreatDoor.HelpInt.iv t_8)) ∧ Hid (wr.ownsRow w.heap.size 3 1 (.slice (some ⟨w_p_11.heap.size, 0, none⟩) 5 5) 5 (Go.Proofs.YtgimcnpkngpmiaaGreatDoor.HelpInt.iv t_16)) ∧ Hid (Go.Proofs.YtgimcnpkngpmiaaGreatDoor.GoC.CurIs wr bc0 g0 Ac0 cc0 c0_c0q0))
        case first =>
          replace H := let_hid H
          obtain ⟨t_29, ht_29, H⟩ := H
          replace H := join_hid H
          cases t_29 with
          | false =>
            replace H := ite_f H
            replace H := app_hid H
            replace H := unp2_hid H
            go_wp2_with fail
            go_meet
            case rel => exact ⟨_, _, rfl, H, HBwr0, kt_0_0__49, kt_0_1__50, kt_0_2__51, kt_0_3__52, kt_0_4__53, kt_0_5__54, kp_11_0__55, kp_11_1__56, kp_11_2__57, kp_11_3__58, kp_11_4__59, kp_11_5__60, Ot_0, Pb21_21, Ot_8, Ot_16, Kl0_0⟩
          | true =>
            replace H := ite_t H
            replace H := bind2_hid H
            obtain ⟨t_32, t_32_tp, qt_32, H⟩ := H
            go_wp2_with fail
            go_at_call 54
            refine (Go.Proofs.YtgimcnpkngpmiaaGreatDoor.GsL1CurOne.C (c0_c0l0) (4) (g0) (Ac0) (cc0) (bc0) _   Kl0_0 qt_32).mono ?_
            rintro e_t_32 wt_32 ⟨rfl, kt_32, gt_32⟩
            have Kt_32 := Lib.hid kt_32
            have Gt_32 : Hid (wr0.grownBy wt_32 (Value.slice (some ⟨g0, 0, none⟩) 1 1).ownBlock) := Lib.hid gt_32
            clear kt_32 gt_32
            have HBwt_32 := Lib.hid (Aid.grown_tr HBwr0.out Gt_32.out)
            replace kt_0_0__49 := cell_other kt_0_0__49 Gt_32.out (Apart.symm Dt_0_c0.out)
            replace kt_0_1__50 := cell_other kt_0_1__50 Gt_32.out (Apart.symm Dt_0_c0.out)
            replace kt_0_2__51 := cell_other kt_0_2__51 Gt_32.out (Apart.symm Dt_0_c0.out)
            replace kt_0_3__52 := cell_other kt_0_3__52 Gt_32.out (Apart.symm Dt_0_c0.out)
            replace kt_0_4__53 := cell_other kt_0_4__53 Gt_32.out (Apart.symm Dt_0_c0.out)
            replace kt_0_5__54 := cell_other kt_0_5__54 Gt_32.out (Apart.symm Dt_0_c0.out)
            replace kp_11_0__55 := cell_other kp_11_0__55 Gt_32.out (Apart.symm Dp_11_c0.out)
            replace kp_11_1__56 := cell_other kp_11_1__56 Gt_32.out (Apart.symm Dp_11_c0.out)
            replace kp_11_2__57 := cell_other kp_11_2__57 Gt_32.out (Apart.symm Dp_11_c0.out)
            replace kp_11_3__58 := cell_other kp_11_3__58 Gt_32.out (Apart.symm Dp_11_c0.out)
            replace kp_11_4__59 := cell_other kp_11_4__59 Gt_32.out (Apart.symm Dp_11_c0.out)
            replace kp_11_5__60 := cell_other kp_11_5__60 Gt_32.out (Apart.symm Dp_11_c0.out)
            replace Ot_0 := Lib.hid (own_other Ot_0.out Gt_32.out (Apart.symm Dt_0_c0.out))
            replace Pb21_21 := Lib.hid (own_other Pb21_21.out Gt_32.out (Apart.symm Dp_11_c0.out))
            replace Ot_8 := Lib.hid (own_other Ot_8.out Gt_32.out (Apart.symm Dt_8_c0.out))
            replace Ot_16 := Lib.hid (own_other Ot_16.out Gt_32.out (Apart.symm Dt_16_c0.out))
            clear Kl0_0 Gt_32
            replace H := app_hid H
            replace H := unp2_hid H
            go_wp2_with fail
            go_meet
            case rel => exact ⟨_, _, rfl, H, HBwt_32, kt_0_0__49, kt_0_1__50, kt_0_2__51, kt_0_3__52, kt_0_4__53, kt_0_5__54, kp_11_0__55, kp_11_1__56, kp_11_2__57, kp_11_3__58, kp_11_4__59, kp_11_5__60, Ot_0, Pb21_21, Ot_8, Ot_16, Kt_32⟩
        case rest =>
          obtain ⟨t_37q0, c0_c0q0, rfl, H, HBwq0, kt_0_0__49, kt_0_1__50, kt_0_2__51, kt_0_3__52, kt_0_4__53, kt_0_5__54, kp_11_0__55, kp_11_1__56, kp_11_2__57, kp_11_3__58, kp_11_4__59, kp_11_5__60, Ot_0, Pb21_21, Ot_8, Ot_16, Kq0_0⟩ := hcut
          rename World => wq0
          unfold q0 at H
          replace H := unp2_hid H
          cases t_37q0 with
          | false =>
            replace H := ite_f H
            replace H := guard_hid H
            obtain ⟨hl_t_41, H⟩ := H
            replace H := let_hid H
            obtain ⟨t_41, ht_41, H⟩ := H
            have ct_41 := cat_rule (P := Tryz.prog) ht_41 hl_t_41
            clear hl_t_41
            have hht_41 := Lib.hid ht_41
            clear ht_41
            obtain ⟨wb43_43, hwb43_43⟩ : ∃ x, (wq0).setCell ⟨wt_9.heap.size, 5, none⟩ (.string t_41) = x := ⟨_, rfl⟩
            have z0b43_43 := Pb21_21.out.frozenAt 5
            have Sb43_43 := Lib.hid (own_stores [(5, .string t_41)] Pb21_21.out)
            have Pb43_43 : Hid (wb43_43.ownsRow w.heap.size 34 6 (.slice (some ⟨wt_9.heap.size, 0, none⟩) 1 1) 1 [.int .i64 p_11_c0l0, .string p_11_c1l0, .int .i64 p_11_c2l0, .int .i64 p_11_c3l0, .int .i64 p_11_c4l0, .string t_41]) := Lib.hid (by rw [← hwb43_43]; exact Sb43_43.out.1)
            have Gb43_43 : Hid (wq0.grownBy wb43_43 (Value.slice (some ⟨wt_9.heap.size, 0, none⟩) 1 1).ownBlock) := Lib.hid (by rw [← hwb43_43]; exact Sb43_43.out.2)
            have HBwb43_43 := Lib.hid (Go.Proofs.YtgimcnpkngpmiaaGreatDoor.GoC.grown_new HBwq0.out Gb43_43.out (Go.Proofs.YtgimcnpkngpmiaaGreatDoor.GoC.own_ge Pb21_21.out))
            clear Sb43_43
            have kt_0_0__277 := cell_other kt_0_0__49 Gb43_43.out Dp_11_t_0.out
            have kt_0_1__278 := cell_other kt_0_1__50 Gb43_43.out Dp_11_t_0.out
            have kt_0_2__279 := cell_other kt_0_2__51 Gb43_43.out Dp_11_t_0.out
            have kt_0_3__280 := cell_other kt_0_3__52 Gb43_43.out Dp_11_t_0.out
            have kt_0_4__281 := cell_other kt_0_4__53 Gb43_43.out Dp_11_t_0.out
            have kt_0_5__282 := cell_other kt_0_5__54 Gb43_43.out Dp_11_t_0.out
            replace Ot_0 := Lib.hid (own_other Ot_0.out Gb43_43.out Dp_11_t_0.out)
            replace Ot_8 := Lib.hid (own_other Ot_8.out Gb43_43.out Dp_11_t_8.out)
            replace Ot_16 := Lib.hid (own_other Ot_16.out Gb43_43.out (Apart.symm Dt_16_p_11.out))
            replace Kq0_0 := Lib.hid (Go.Proofs.YtgimcnpkngpmiaaGreatDoor.GoC.cur_otherO Kq0_0.out Gb43_43.out Dp_11_c0.out L0 Pb21_21.out)
            clear Pb21_21 Gb43_43
            have kp_11_0__283 : wb43_43.cell? ⟨wt_9.heap.size, 0, none⟩ = some (.int .i64 p_11_c0l0) := Pb43_43.out.cells rfl 0 _ rfl
            have kp_11_1__284 : wb43_43.cell? ⟨wt_9.heap.size, 1, none⟩ = some (.string p_11_c1l0) := Pb43_43.out.cells rfl 1 _ rfl
            have kp_11_2__285 : wb43_43.cell? ⟨wt_9.heap.size, 2, none⟩ = some (.int .i64 p_11_c2l0) := Pb43_43.out.cells rfl 2 _ rfl
            have kp_11_3__286 : wb43_43.cell? ⟨wt_9.heap.size, 3, none⟩ = some (.int .i64 p_11_c3l0) := Pb43_43.out.cells rfl 3 _ rfl
            have kp_11_4__287 : wb43_43.cell? ⟨wt_9.heap.size, 4, none⟩ = some (.int .i64 p_11_c4l0) := Pb43_43.out.cells rfl 4 _ rfl
            have kp_11_5__288 : wb43_43.cell? ⟨wt_9.heap.size, 5, none⟩ = some (.string t_41) := Pb43_43.out.cells rfl 5 _ rfl
            replace H := let_hid H
            obtain ⟨t_45, ht_45, H⟩ := H
            replace H := app_hid H
            go_wp2_with fail
            clear z0b43_43 kt_0_0__49 kt_0_1__50 kt_0_2__51 kt_0_3__52 kt_0_4__53 kt_0_5__54 kp_11_0__55 kp_11_1__56 kp_11_2__57 kp_11_3__58 kp_11_4__59 kp_11_5__60
            go_roundg m0
            case measure => omega
            case rel => exact ⟨_, _, _, _, _, _, _, _, rfl, H, HBwb43_43, kt_0_0__277, kt_0_1__278, kt_0_2__279, kt_0_3__280, kt_0_4__281, kt_0_5__282, kp_11_0__283, kp_11_1__284, kp_11_2__285, kp_11_3__286, kp_11_4__287, kp_11_5__288, Ot_0, Pb43_43, Ot_8, Ot_16, Kq0_0⟩
          | true =>
            replace H := ite_t H
            replace H := guard_hid H
            obtain ⟨hl_t_36, H⟩ := H
            replace H := let_hid H
            obtain ⟨t_36, ht_36, H⟩ := H
            have ct_36 := cat_rule (P := Tryz.prog) ht_36 hl_t_36
            clear hl_t_36
            have hht_36 := Lib.hid ht_36
            clear ht_36
            obtain ⟨wb38_38, hwb38_38⟩ : ∃ x, (wq0).setCell ⟨wt_9.heap.size, 5, none⟩ (.string t_36) = x := ⟨_, rfl⟩
            have z0b38_38 := Pb21_21.out.frozenAt 5
            have Sb38_38 := Lib.hid (own_stores [(5, .string t_36)] Pb21_21.out)
            have Pb38_38 : Hid (wb38_38.ownsRow w.heap.size 34 6 (.slice (some ⟨wt_9.heap.size, 0, none⟩) 1 1) 1 [.int .i64 p_11_c0l0, .string p_11_c1l0, .int .i64 p_11_c2l0, .int .i64 p_11_c3l0, .int .i64 p_11_c4l0, .string t_36]) := Lib.hid (by rw [← hwb38_38]; exact Sb38_38.out.1)
            have Gb38_38 : Hid (wq0.grownBy wb38_38 (Value.slice (some ⟨wt_9.heap.size, 0, none⟩) 1 1).ownBlock) := Lib.hid (by rw [← hwb38_38]; exact Sb38_38.out.2)
            have HBwb38_38 := Lib.hid (Go.Proofs.YtgimcnpkngpmiaaGreatDoor.GoC.grown_new HBwq0.out Gb38_38.out (Go.Proofs.YtgimcnpkngpmiaaGreatDoor.GoC.own_ge Pb21_21.out))
            clear Sb38_38
            have kt_0_0__289 := cell_other kt_0_0__49 Gb38_38.out Dp_11_t_0.out
            have kt_0_1__290 := cell_other kt_0_1__50 Gb38_38.out Dp_11_t_0.out
            have kt_0_2__291 := cell_other kt_0_2__51 Gb38_38.out Dp_11_t_0.out
            have kt_0_3__292 := cell_other kt_0_3__52 Gb38_38.out Dp_11_t_0.out
            have kt_0_4__293 := cell_other kt_0_4__53 Gb38_38.out Dp_11_t_0.out
            have kt_0_5__294 := cell_other kt_0_5__54 Gb38_38.out Dp_11_t_0.out
            replace Ot_0 := Lib.hid (own_other Ot_0.out Gb38_38.out Dp_11_t_0.out)
            replace Ot_8 := Lib.hid (own_other Ot_8.out Gb38_38.out Dp_11_t_8.out)
            replace Ot_16 := Lib.hid (own_other Ot_16.out Gb38_38.out (Apart.symm Dt_16_p_11.out))
            replace Kq0_0 := Lib.hid (Go.Proofs.YtgimcnpkngpmiaaGreatDoor.GoC.cur_otherO Kq0_0.out Gb38_38.out Dp_11_c0.out L0 Pb21_21.out)
            clear Pb21_21 Gb38_38
            have kp_11_0__295 : wb38_38.cell? ⟨wt_9.heap.size, 0, none⟩ = some (.int .i64 p_11_c0l0) := Pb38_38.out.cells rfl 0 _ rfl
            have kp_11_1__296 : wb38_38.cell? ⟨wt_9.heap.size, 1, none⟩ = some (.string p_11_c1l0) := Pb38_38.out.cells rfl 1 _ rfl
            have kp_11_2__297 : wb38_38.cell? ⟨wt_9.heap.size, 2, none⟩ = some (.int .i64 p_11_c2l0) := Pb38_38.out.cells rfl 2 _ rfl
            have kp_11_3__298 : wb38_38.cell? ⟨wt_9.heap.size, 3, none⟩ = some (.int .i64 p_11_c3l0) := Pb38_38.out.cells rfl 3 _ rfl
            have kp_11_4__299 : wb38_38.cell? ⟨wt_9.heap.size, 4, none⟩ = some (.int .i64 p_11_c4l0) := Pb38_38.out.cells rfl 4 _ rfl
            have kp_11_5__300 : wb38_38.cell? ⟨wt_9.heap.size, 5, none⟩ = some (.string t_36) := Pb38_38.out.cells rfl 5 _ rfl
            replace H := let_hid H
            obtain ⟨t_45, ht_45, H⟩ := H
            replace H := app_hid H
            go_wp2_with fail
            clear z0b38_38 kt_0_0__49 kt_0_1__50 kt_0_2__51 kt_0_3__52 kt_0_4__53 kt_0_5__54 kp_11_0__55 kp_11_1__56 kp_11_2__57 kp_11_3__58 kp_11_4__59 kp_11_5__60
            go_roundg m0
            case measure => omega
            case rel => exact ⟨_, _, _, _, _, _, _, _, rfl, H, HBwb38_38, kt_0_0__289, kt_0_1__290, kt_0_2__291, kt_0_3__292, kt_0_4__293, kt_0_5__294, kp_11_0__295, kp_11_1__296, kp_11_2__297, kp_11_3__298, kp_11_4__299, kp_11_5__300, Ot_0, Pb38_38, Ot_8, Ot_16, Kq0_0⟩
end Go.Proofs.YtgimcnpkngpmiaaGreatDoor.GsL1CurPostmark11

