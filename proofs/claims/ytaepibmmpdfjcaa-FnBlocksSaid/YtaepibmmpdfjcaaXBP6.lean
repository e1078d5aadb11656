/- Texts on which the proofs of several laws stand, one behind the other (6 of 9). No condition of their own. -/
import Derived.Test.YtaepibmmpdfjcaaChecked
import Derived.Test.YtaepibmmpdfjcaaXBP1
import Derived.Test.YtaepibmmpdfjcaaXBP4
import Derived.Test.YtaepibmmpdfjcaaXBP2
import Derived.Test.YtaepibmmpdfjcaaXBP5
import Derived.WalkKit
import Derived.WalkSpells
import Derived.WalkLawsBesides
import Derived.BigQuiet
import Derived.OwnWalk
import Derived.Deep.LoopGhost
import Derived.Deep.QuietTactic
import Derived.IntWalk
import Derived.Lib.QuietBelow
import Derived.Test.YtaepibmmpdfjcaaXBP3
/- loop.example/g01062/spec.DrawDoAgree as a plain function, and the contract of the program's: where the plain one has an answer, the program has it. Conditions: slices read as lists. -/
namespace Go.Proofs.Ytaepibmmpdfjcaa.GsDrawDoAgree
set_option linter.unusedVariables false
set_option linter.unusedSimpArgs false
open Go.RowKit
open Go.Proofs.Ytaepibmmpdfjcaa.Rowed Go.Proofs.Ytaepibmmpdfjcaa.Turn Go.Proofs.Ytaepibmmpdfjcaa.Aid Go.Proofs.Ytaepibmmpdfjcaa.GoP Go.Proofs.Ytaepibmmpdfjcaa.GoM

def P (fuel : Nat) (tapes : List Int → Go.Proofs.Ytaepibmmpdfjcaa.GoC.Tape) (code : (List Int)) : Option (Go.Proofs.Ytaepibmmpdfjcaa.PBlock.Block × Go.Proofs.Ytaepibmmpdfjcaa.PBlock.Block × Int × Int) :=
  letK (tapes code) fun (t_6 : Go.Proofs.Ytaepibmmpdfjcaa.GoC.Tape) =>
  bind2 (Go.Proofs.Ytaepibmmpdfjcaa.GsL1CurBlock.P fuel t_6) fun (t_9 : Go.Proofs.Ytaepibmmpdfjcaa.PBlock.Block) (t_9_tp : Go.Proofs.Ytaepibmmpdfjcaa.GoC.Tape) =>
  unBlock t_9 fun (t_9_rows : (List ByteArray)) =>
  bind2 (Go.Proofs.Ytaepibmmpdfjcaa.GsL1CurBlock.P fuel t_9_tp) fun (t_11 : Go.Proofs.Ytaepibmmpdfjcaa.PBlock.Block) (t_11_tp : Go.Proofs.Ytaepibmmpdfjcaa.GoC.Tape) =>
  unBlock t_11 fun (t_11_rows : (List ByteArray)) =>
  letK ([0, 1, 2, (-1), (-2), 3]) fun (t_13 : (List Int)) =>
  bind2 (Go.Proofs.Ytaepibmmpdfjcaa.GsL1CurAmong.P t_11_tp t_13) fun (t_14 : Int) (t_14_tp : Go.Proofs.Ytaepibmmpdfjcaa.GoC.Tape) =>
  letK ([0, 1, 2, (-1), (-2), (-3)]) fun (t_16 : (List Int)) =>
  bind2 (Go.Proofs.Ytaepibmmpdfjcaa.GsL1CurAmong.P t_14_tp t_16) fun (t_17 : Int) (t_17_tp : Go.Proofs.Ytaepibmmpdfjcaa.GoC.Tape) =>
  some ((Go.Proofs.Ytaepibmmpdfjcaa.PBlock.Block.mk t_9_rows), (Go.Proofs.Ytaepibmmpdfjcaa.PBlock.Block.mk t_11_rows), t_14, t_17)

set_option maxRecDepth 100000 in
set_option maxHeartbeats 2000000 in
theorem C (fuel : Nat) (tapes : List Int → Go.Proofs.Ytaepibmmpdfjcaa.GoC.Tape) (code : (List Int)) (A0 : Option Addr) (c0 : Nat)  (w : World) (HE : Hid (Go.Proofs.Ytaepibmmpdfjcaa.GoC.Tells tapes)) (M0 : Hid (Cells w 1 A0 code.length (Go.Proofs.Ytaepibmmpdfjcaa.GoC.u8s code))) (N0 : Hid (code.length ≤ 9223372036854775807)) (V0 : Hid (∀ z ∈ code, 0 ≤ z ∧ z ≤ 255))  {r0_rows : (List ByteArray)} {r1_rows : (List ByteArray)} {r2 : Int} {r3 : Int} (H : Hid (P fuel tapes code = some ((Go.Proofs.Ytaepibmmpdfjcaa.PBlock.Block.mk r0_rows), (Go.Proofs.Ytaepibmmpdfjcaa.PBlock.Block.mk r1_rows), r2, r3))) :
    Calls Try.prog 22 #[.slice A0 code.length c0] w (fun e w' => ∃ A_r0_rows c_r0_rows A_r1_rows c_r1_rows, e = .returned (.tuple #[.agg #[.slice A_r0_rows r0_rows.length c_r0_rows], .agg #[.slice A_r1_rows r1_rows.length c_r1_rows], .int .i64 r2, .int .i64 r3]) ∧ w'.ownsRow w.heap.size 9 1 (.slice A_r0_rows r0_rows.length c_r0_rows) r0_rows.length (r0_rows.map Value.string) ∧ w'.ownsRow w.heap.size 9 1 (.slice A_r1_rows r1_rows.length c_r1_rows) r1_rows.length (r1_rows.map Value.string) ∧ Apart A_r0_rows A_r1_rows ∧ Below w.heap.size w w') := by
  have HB := Lib.hid (Below.refl w.heap.size w)
  unfold P at H
  have N0o := N0.out
  go_enter Try.func22, Try.ntmps22
  obtain ⟨w_t_0, hw_t_0⟩ : ∃ x, w.alloc (.cells #[.slice none 0 0] 26) = x := ⟨_, rfl⟩
  have bw_t_0 : Below w.heap.size w w_t_0 := by rw [← hw_t_0]; exact (Below.refl _ _).alloc (Nat.le_refl _) _
  have HBw_t_0 := Lib.hid (Below.step HB.out bw_t_0)
  clear bw_t_0
  have kt_0_0 : w_t_0.cell? ⟨w.heap.size, 0, none⟩ = some (.slice none 0 0) := by rw [← hw_t_0]; exact box_new _ _ _ 0 _ rfl
  have Ot_0 : Hid (w_t_0.ownsRow w.heap.size 26 1 (.slice (some ⟨w.heap.size, 0, none⟩) 1 1) 1 [.slice none 0 0]) := Lib.hid (by rw [← hw_t_0]; exact own_laid (n := 1) HB.out.size rfl rfl (by unfold maxLen; omega))
  obtain ⟨w_t_1, hw_t_1⟩ : ∃ x, w_t_0.alloc (.cells #[.slice none 0 0] 26) = x := ⟨_, rfl⟩
  have bw_t_1 : Below w_t_0.heap.size w_t_0 w_t_1 := by rw [← hw_t_1]; exact (Below.refl _ _).alloc (Nat.le_refl _) _
  have Dt_1_t_0 := Lib.hid (apart_box kt_0_0)
  have HBw_t_1 := Lib.hid (Below.step HBw_t_0.out bw_t_1)
  have kt_0_0__40 := cell_below bw_t_1 kt_0_0
  replace Ot_0 := Lib.hid (own_below Ot_0.out bw_t_1)
  clear bw_t_1
  have kt_1_0 : w_t_1.cell? ⟨w_t_0.heap.size, 0, none⟩ = some (.slice none 0 0) := by rw [← hw_t_1]; exact box_new _ _ _ 0 _ rfl
  have Ot_1 : Hid (w_t_1.ownsRow w.heap.size 26 1 (.slice (some ⟨w_t_0.heap.size, 0, none⟩) 1 1) 1 [.slice none 0 0]) := Lib.hid (by rw [← hw_t_1]; exact own_laid (n := 1) HBw_t_0.out.size rfl rfl (by unfold maxLen; omega))
  replace H := let_hid H
  obtain ⟨t_6, ht_6, H⟩ := H
  obtain ⟨w_t_6, hw_t_6⟩ : ∃ x, w_t_1.alloc (.cells #[.slice A0 code.length c0, .int .i64 0, .int .u64 0] 80) = x := ⟨_, rfl⟩
  have bw_t_6 : Below w_t_1.heap.size w_t_1 w_t_6 := by rw [← hw_t_6]; exact (Below.refl _ _).alloc (Nat.le_refl _) _
  have Kt_6 : Hid (Go.Proofs.Ytaepibmmpdfjcaa.GoC.CurIs w_t_6 w.heap.size w_t_1.heap.size A0 c0 t_6) := Lib.hid (by rw [← hw_t_6, ← ht_6]; exact Go.Proofs.Ytaepibmmpdfjcaa.GoC.cur_new HBw_t_1.out.size (Cells.below M0.out HBw_t_1.out) (fun a_ ha_ h0_ => by subst ha_; exact Go.Proofs.Ytaepibmmpdfjcaa.GoC.cells_lt M0.out (by unfold Go.Proofs.Ytaepibmmpdfjcaa.GoC.u8s; rw [List.length_map]; exact h0_)) (HE.out.2.2 code V0.out N0.out))
  have hht_6 := Lib.hid ht_6
  clear ht_6
  have Dt_6_t_0 := Lib.hid (apart_box kt_0_0__40)
  have Dt_6_t_1 := Lib.hid (apart_box kt_1_0)
  have HBw_t_6 := Lib.hid (Below.step HBw_t_1.out bw_t_6)
  have kt_0_0__41 := cell_below bw_t_6 kt_0_0__40
  have kt_1_0__42 := cell_below bw_t_6 kt_1_0
  replace Ot_0 := Lib.hid (own_below Ot_0.out bw_t_6)
  replace Ot_1 := Lib.hid (own_below Ot_1.out bw_t_6)
  clear bw_t_6
  replace H := bind2_hid H
  obtain ⟨t_9, t_9_tp, qt_9, H⟩ := H
  obtain ⟨t_9_rows⟩ := t_9
  replace H := unBlock_hid H
  go_wp2_with fail
  clear kt_0_0 kt_0_0__40 kt_1_0
  go_at_call 50
  refine (Go.Proofs.Ytaepibmmpdfjcaa.GsL1CurBlock.C fuel (t_6) (w_t_1.heap.size) (A0) (c0) (w.heap.size) _   Kt_6 qt_9).mono ?_
  rintro e_t_9 wt_9 ⟨At_9_rows, ct_9_rows, rfl, ot_9_rows, kt_9, gt_9⟩
  have Dt_9_rows_t_0 := Lib.hid (apart_callbox ot_9_rows kt_0_0__41)
  have Dt_9_rows_t_1 := Lib.hid (apart_callbox ot_9_rows kt_1_0__42)
  have Dt_9_rows_t_6 := Lib.hid (Go.Proofs.Ytaepibmmpdfjcaa.GoC.apart_callcur ot_9_rows Kt_6.out)
  have Ot_9_rows := Lib.hid (own_lower ot_9_rows HBw_t_6.out.size)
  clear ot_9_rows
  have Kt_9 := Lib.hid kt_9
  have Gt_9 : Hid (w_t_6.grownBy wt_9 (Value.slice (some ⟨w_t_1.heap.size, 0, none⟩) 1 1).ownBlock) := Lib.hid gt_9
  clear kt_9 gt_9
  have HBwt_9 := Lib.hid (Go.Proofs.Ytaepibmmpdfjcaa.GoC.below_cur HBw_t_6.out Gt_9.out HBw_t_6.out.size (Go.Proofs.Ytaepibmmpdfjcaa.GoC.cur_lt Kt_6.out).1)
  replace kt_0_0__41 := cell_other kt_0_0__41 Gt_9.out Dt_6_t_0.out
  replace kt_1_0__42 := cell_other kt_1_0__42 Gt_9.out Dt_6_t_1.out
  replace Ot_0 := Lib.hid (own_other Ot_0.out Gt_9.out Dt_6_t_0.out)
  replace Ot_1 := Lib.hid (own_other Ot_1.out Gt_9.out Dt_6_t_1.out)
  clear Kt_6 Gt_9
  replace H := bind2_hid H
  obtain ⟨t_11, t_11_tp, qt_11, H⟩ := H
  obtain ⟨t_11_rows⟩ := t_11
  replace H := unBlock_hid H
  go_wp2_with fail
  go_at_call 50
  refine (Go.Proofs.Ytaepibmmpdfjcaa.GsL1CurBlock.C fuel (t_9_tp) (w_t_1.heap.size) (A0) (c0) (w.heap.size) _   Kt_9 qt_11).mono ?_
  rintro e_t_11 wt_11 ⟨At_11_rows, ct_11_rows, rfl, ot_11_rows, kt_11, gt_11⟩
  have Dt_11_rows_t_9_rows := Lib.hid (apart_call ot_11_rows Ot_9_rows.out)
  have Dt_11_rows_t_0 := Lib.hid (apart_callbox ot_11_rows kt_0_0__41)
  have Dt_11_rows_t_1 := Lib.hid (apart_callbox ot_11_rows kt_1_0__42)
  have Dt_11_rows_t_6 := Lib.hid (Go.Proofs.Ytaepibmmpdfjcaa.GoC.apart_callcur ot_11_rows Kt_9.out)
  have Ot_11_rows := Lib.hid (own_lower ot_11_rows HBwt_9.out.size)
  clear ot_11_rows
  have Kt_11 := Lib.hid kt_11
  have Gt_11 : Hid (wt_9.grownBy wt_11 (Value.slice (some ⟨w_t_1.heap.size, 0, none⟩) 1 1).ownBlock) := Lib.hid gt_11
  clear kt_11 gt_11
  have HBwt_11 := Lib.hid (Go.Proofs.Ytaepibmmpdfjcaa.GoC.below_cur HBwt_9.out Gt_11.out HBwt_9.out.size (Go.Proofs.Ytaepibmmpdfjcaa.GoC.cur_lt Kt_9.out).1)
  replace kt_0_0__41 := cell_other kt_0_0__41 Gt_11.out Dt_6_t_0.out
  replace kt_1_0__42 := cell_other kt_1_0__42 Gt_11.out Dt_6_t_1.out
  replace Ot_0 := Lib.hid (own_other Ot_0.out Gt_11.out Dt_6_t_0.out)
  replace Ot_1 := Lib.hid (own_other Ot_1.out Gt_11.out Dt_6_t_1.out)
  replace Ot_9_rows := Lib.hid (own_other Ot_9_rows.out Gt_11.out (Apart.symm Dt_9_rows_t_6.out))
  clear Kt_9 Gt_11
  replace H := let_hid H
  obtain ⟨t_13, ht_13, H⟩ := H
  obtain ⟨w_t_13, hw_t_13⟩ : ∃ x, wt_11.alloc (.cells #[.int .i64 0, .int .i64 1, .int .i64 2, .int .i64 (-1), .int .i64 (-2), .int .i64 3] 3) = x := ⟨_, rfl⟩
  have bw_t_13 : Below wt_11.heap.size wt_11 w_t_13 := by rw [← hw_t_13]; exact (Below.refl _ _).alloc (Nat.le_refl _) _
  have hs_t_13 := HBwt_11.out.size
  have nt_13 : t_13.length = 6 := by rw [← ht_13]; rfl
  have Ot_13 : Hid (w_t_13.ownsRow w.heap.size 3 1 (.slice (some ⟨wt_11.heap.size, 0, none⟩) 6 6) 6 (Go.Proofs.Ytaepibmmpdfjcaa.HelpInt.iv t_13)) := by
    rw [← hw_t_13, ← ht_13]
    have e_ : ([.int .i64 0, .int .i64 1, .int .i64 2, .int .i64 (-1), .int .i64 (-2), .int .i64 3] : List Value) = (Go.Proofs.Ytaepibmmpdfjcaa.HelpInt.iv ([0, 1, 2, (-1), (-2), 3] : List Int)) := rfl
    exact Lib.hid (own_laid (n := 6) hs_t_13 e_ rfl (by unfold maxLen; omega))
  clear hs_t_13
  have hht_13 := Lib.hid ht_13
  clear ht_13
  replace nt_13 := Lib.hid nt_13
  have Dt_13_t_9_rows := Lib.hid (apart_fresh Ot_9_rows.out)
  have Dt_13_t_11_rows := Lib.hid (apart_fresh Ot_11_rows.out)
  have Dt_13_t_6 := Lib.hid (Go.Proofs.Ytaepibmmpdfjcaa.GoC.apart_cur Kt_11.out)
  have Dt_13_t_0 := Lib.hid (apart_box kt_0_0__41)
  have Dt_13_t_1 := Lib.hid (apart_box kt_1_0__42)
  have HBw_t_13 := Lib.hid (Below.step HBwt_11.out bw_t_13)
  have kt_0_0__43 := cell_below bw_t_13 kt_0_0__41
  have kt_1_0__44 := cell_below bw_t_13 kt_1_0__42
  replace Ot_9_rows := Lib.hid (own_below Ot_9_rows.out bw_t_13)
  replace Ot_11_rows := Lib.hid (own_below Ot_11_rows.out bw_t_13)
  replace Kt_11 := Lib.hid (Go.Proofs.Ytaepibmmpdfjcaa.GoC.cur_below Kt_11.out bw_t_13)
  replace Ot_0 := Lib.hid (own_below Ot_0.out bw_t_13)
  replace Ot_1 := Lib.hid (own_below Ot_1.out bw_t_13)
  clear bw_t_13
  replace H := bind2_hid H
  obtain ⟨t_14, t_14_tp, qt_14, H⟩ := H
  go_wp2_with fail
  clear kt_0_0__41 kt_1_0__42
  have hc_ := nt_13.out
  have hv_ : (Value.slice (some ⟨wt_11.heap.size, 0, none⟩) 6 6 : Value) = Value.slice (some ⟨wt_11.heap.size, 0, none⟩) t_13.length 6 := by rw [hc_]
  try rw [hv_]
  replace Ot_13 := Lib.hid (own_len hc_ Ot_13.out)
  clear hc_ hv_
  go_wp2_with fail
  go_at_call 62
  refine (Go.Proofs.Ytaepibmmpdfjcaa.GsL1CurAmong.C (t_11_tp) (t_13) (some ⟨wt_11.heap.size, 0, none⟩) 6 (w_t_1.heap.size) (A0) (c0) (w.heap.size) _   (Lib.hid (own_cells Ot_13.out)) (Lib.hid (own_max Ot_13.out)) Kt_11 (Lib.hid (fun _ => Dt_13_t_6.out)) qt_14).mono ?_
  rintro e_t_14 wt_14 ⟨rfl, kt_14, gt_14⟩
  have Kt_14 := Lib.hid kt_14
  have Gt_14 : Hid (w_t_13.grownBy wt_14 (Value.slice (some ⟨w_t_1.heap.size, 0, none⟩) 1 1).ownBlock) := Lib.hid gt_14
  clear kt_14 gt_14
  have HBwt_14 := Lib.hid (Go.Proofs.Ytaepibmmpdfjcaa.GoC.below_cur HBw_t_13.out Gt_14.out HBw_t_13.out.size (Go.Proofs.Ytaepibmmpdfjcaa.GoC.cur_lt Kt_11.out).1)
  replace kt_0_0__43 := cell_other kt_0_0__43 Gt_14.out Dt_6_t_0.out
  replace kt_1_0__44 := cell_other kt_1_0__44 Gt_14.out Dt_6_t_1.out
  replace Ot_0 := Lib.hid (own_other Ot_0.out Gt_14.out Dt_6_t_0.out)
  replace Ot_1 := Lib.hid (own_other Ot_1.out Gt_14.out Dt_6_t_1.out)
  replace Ot_9_rows := Lib.hid (own_other Ot_9_rows.out Gt_14.out (Apart.symm Dt_9_rows_t_6.out))
  replace Ot_11_rows := Lib.hid (own_other Ot_11_rows.out Gt_14.out (Apart.symm Dt_11_rows_t_6.out))
  replace Ot_13 := Lib.hid (own_other Ot_13.out Gt_14.out (Apart.symm Dt_13_t_6.out))
  clear Kt_11 Gt_14
  replace H := let_hid H
  obtain ⟨t_16, ht_16, H⟩ := H
  obtain ⟨w_t_16, hw_t_16⟩ : ∃ x, wt_14.alloc (.cells #[.int .i64 0, .int .i64 1, .int .i64 2, .int .i64 (-1), .int .i64 (-2), .int .i64 (-3)] 3) = x := ⟨_, rfl⟩
  have bw_t_16 : Below wt_14.heap.size wt_14 w_t_16 := by rw [← hw_t_16]; exact (Below.refl _ _).alloc (Nat.le_refl _) _
  have hs_t_16 := HBwt_14.out.size
  have nt_16 : t_16.length = 6 := by rw [← ht_16]; rfl
  have Ot_16 : Hid (w_t_16.ownsRow w.heap.size 3 1 (.slice (some ⟨wt_14.heap.size, 0, none⟩) 6 6) 6 (Go.Proofs.Ytaepibmmpdfjcaa.HelpInt.iv t_16)) := by
    rw [← hw_t_16, ← ht_16]
    have e_ : ([.int .i64 0, .int .i64 1, .int .i64 2, .int .i64 (-1), .int .i64 (-2), .int .i64 (-3)] : List Value) = (Go.Proofs.Ytaepibmmpdfjcaa.HelpInt.iv ([0, 1, 2, (-1), (-2), (-3)] : List Int)) := rfl
    exact Lib.hid (own_laid (n := 6) hs_t_16 e_ rfl (by unfold maxLen; omega))
  clear hs_t_16
  have hht_16 := Lib.hid ht_16
  clear ht_16
  replace nt_16 := Lib.hid nt_16
  have Dt_16_t_9_rows := Lib.hid (apart_fresh Ot_9_rows.out)
  have Dt_16_t_11_rows := Lib.hid (apart_fresh Ot_11_rows.out)
  have Dt_16_t_13 := Lib.hid (apart_fresh Ot_13.out)
  have Dt_16_t_6 := Lib.hid (Go.Proofs.Ytaepibmmpdfjcaa.GoC.apart_cur Kt_14.out)
  have Dt_16_t_0 := Lib.hid (apart_box kt_0_0__43)
  have Dt_16_t_1 := Lib.hid (apart_box kt_1_0__44)
  have HBw_t_16 := Lib.hid (Below.step HBwt_14.out bw_t_16)
  have kt_0_0__45 := cell_below bw_t_16 kt_0_0__43
  have kt_1_0__46 := cell_below bw_t_16 kt_1_0__44
  replace Ot_9_rows := Lib.hid (own_below Ot_9_rows.out bw_t_16)
  replace Ot_11_rows := Lib.hid (own_below Ot_11_rows.out bw_t_16)
  replace Ot_13 := Lib.hid (own_below Ot_13.out bw_t_16)
  replace Kt_14 := Lib.hid (Go.Proofs.Ytaepibmmpdfjcaa.GoC.cur_below Kt_14.out bw_t_16)
  replace Ot_0 := Lib.hid (own_below Ot_0.out bw_t_16)
  replace Ot_1 := Lib.hid (own_below Ot_1.out bw_t_16)
  clear bw_t_16
  replace H := bind2_hid H
  obtain ⟨t_17, t_17_tp, qt_17, H⟩ := H
  go_wp2_with fail
  clear kt_0_0__43 kt_1_0__44
  have hc_ := nt_16.out
  have hv_ : (Value.slice (some ⟨wt_14.heap.size, 0, none⟩) 6 6 : Value) = Value.slice (some ⟨wt_14.heap.size, 0, none⟩) t_16.length 6 := by rw [hc_]
  try rw [hv_]
  replace Ot_16 := Lib.hid (own_len hc_ Ot_16.out)
  clear hc_ hv_
  go_wp2_with fail
  go_at_call 62
  refine (Go.Proofs.Ytaepibmmpdfjcaa.GsL1CurAmong.C (t_14_tp) (t_16) (some ⟨wt_14.heap.size, 0, none⟩) 6 (w_t_1.heap.size) (A0) (c0) (w.heap.size) _   (Lib.hid (own_cells Ot_16.out)) (Lib.hid (own_max Ot_16.out)) Kt_14 (Lib.hid (fun _ => Dt_16_t_6.out)) qt_17).mono ?_
  rintro e_t_17 wt_17 ⟨rfl, kt_17, gt_17⟩
  have Kt_17 := Lib.hid kt_17
  have Gt_17 : Hid (w_t_16.grownBy wt_17 (Value.slice (some ⟨w_t_1.heap.size, 0, none⟩) 1 1).ownBlock) := Lib.hid gt_17
  clear kt_17 gt_17
  have HBwt_17 := Lib.hid (Go.Proofs.Ytaepibmmpdfjcaa.GoC.below_cur HBw_t_16.out Gt_17.out HBw_t_16.out.size (Go.Proofs.Ytaepibmmpdfjcaa.GoC.cur_lt Kt_14.out).1)
  replace kt_0_0__45 := cell_other kt_0_0__45 Gt_17.out Dt_6_t_0.out
  replace kt_1_0__46 := cell_other kt_1_0__46 Gt_17.out Dt_6_t_1.out
  replace Ot_0 := Lib.hid (own_other Ot_0.out Gt_17.out Dt_6_t_0.out)
  replace Ot_1 := Lib.hid (own_other Ot_1.out Gt_17.out Dt_6_t_1.out)
  replace Ot_9_rows := Lib.hid (own_other Ot_9_rows.out Gt_17.out (Apart.symm Dt_9_rows_t_6.out))
  replace Ot_11_rows := Lib.hid (own_other Ot_11_rows.out Gt_17.out (Apart.symm Dt_11_rows_t_6.out))
  replace Ot_13 := Lib.hid (own_other Ot_13.out Gt_17.out (Apart.symm Dt_13_t_6.out))
  replace Ot_16 := Lib.hid (own_other Ot_16.out Gt_17.out (Apart.symm Dt_16_t_6.out))
  clear Kt_14 Gt_17
  obtain ⟨wb18_18, hwb18_18⟩ : ∃ x, (wt_17).setCell ⟨w.heap.size, 0, none⟩ (.slice At_9_rows t_9_rows.length ct_9_rows) = x := ⟨_, rfl⟩
  have z0b18_18 := Ot_0.out.frozenAt 0
  have Sb18_18 := Lib.hid (own_stores [(0, .slice At_9_rows t_9_rows.length ct_9_rows)] Ot_0.out)
  have Pb18_18 : Hid (wb18_18.ownsRow w.heap.size 26 1 (.slice (some ⟨w.heap.size, 0, none⟩) 1 1) 1 [.slice At_9_rows t_9_rows.length ct_9_rows]) := Lib.hid (by rw [← hwb18_18]; exact Sb18_18.out.1)
  have Gb18_18 : Hid (wt_17.grownBy wb18_18 (Value.slice (some ⟨w.heap.size, 0, none⟩) 1 1).ownBlock) := Lib.hid (by rw [← hwb18_18]; exact Sb18_18.out.2)
  have HBwb18_18 := Lib.hid (HBwt_17.out.grown Gb18_18.out HBwt_17.out.size (fun q hq => (Ot_0.out.lt q hq).1))
  clear Sb18_18
  have kt_1_0__47 := cell_other kt_1_0__46 Gb18_18.out (Apart.symm Dt_1_t_0.out)
  replace Ot_1 := Lib.hid (own_other Ot_1.out Gb18_18.out (Apart.symm Dt_1_t_0.out))
  replace Ot_9_rows := Lib.hid (own_other Ot_9_rows.out Gb18_18.out (Apart.symm Dt_9_rows_t_0.out))
  replace Ot_11_rows := Lib.hid (own_other Ot_11_rows.out Gb18_18.out (Apart.symm Dt_11_rows_t_0.out))
  replace Ot_13 := Lib.hid (own_other Ot_13.out Gb18_18.out (Apart.symm Dt_13_t_0.out))
  replace Ot_16 := Lib.hid (own_other Ot_16.out Gb18_18.out (Apart.symm Dt_16_t_0.out))
  replace Kt_17 := Lib.hid (Go.Proofs.Ytaepibmmpdfjcaa.GoC.cur_other Kt_17.out Gb18_18.out (Apart.symm Dt_6_t_0.out) (Go.Proofs.Ytaepibmmpdfjcaa.GoC.own_ge Ot_0.out))
  clear Ot_0 Gb18_18
  have kt_0_0__48 : wb18_18.cell? ⟨w.heap.size, 0, none⟩ = some (.slice At_9_rows t_9_rows.length ct_9_rows) := Pb18_18.out.cells rfl 0 _ rfl
  obtain ⟨wb19_19, hwb19_19⟩ : ∃ x, (wb18_18).setCell ⟨w_t_0.heap.size, 0, none⟩ (.slice At_11_rows t_11_rows.length ct_11_rows) = x := ⟨_, rfl⟩
  have z0b19_19 := Ot_1.out.frozenAt 0
  have Sb19_19 := Lib.hid (own_stores [(0, .slice At_11_rows t_11_rows.length ct_11_rows)] Ot_1.out)
  have Pb19_19 : Hid (wb19_19.ownsRow w.heap.size 26 1 (.slice (some ⟨w_t_0.heap.size, 0, none⟩) 1 1) 1 [.slice At_11_rows t_11_rows.length ct_11_rows]) := Lib.hid (by rw [← hwb19_19]; exact Sb19_19.out.1)
  have Gb19_19 : Hid (wb18_18.grownBy wb19_19 (Value.slice (some ⟨w_t_0.heap.size, 0, none⟩) 1 1).ownBlock) := Lib.hid (by rw [← hwb19_19]; exact Sb19_19.out.2)
  have HBwb19_19 := Lib.hid (HBwb18_18.out.grown Gb19_19.out HBwb18_18.out.size (fun q hq => (Ot_1.out.lt q hq).1))
  clear Sb19_19
  have kt_0_0__49 := cell_other kt_0_0__48 Gb19_19.out Dt_1_t_0.out
  replace Pb18_18 := Lib.hid (own_other Pb18_18.out Gb19_19.out Dt_1_t_0.out)
  replace Ot_9_rows := Lib.hid (own_other Ot_9_rows.out Gb19_19.out (Apart.symm Dt_9_rows_t_1.out))
  replace Ot_11_rows := Lib.hid (own_other Ot_11_rows.out Gb19_19.out (Apart.symm Dt_11_rows_t_1.out))
  replace Ot_13 := Lib.hid (own_other Ot_13.out Gb19_19.out (Apart.symm Dt_13_t_1.out))
  replace Ot_16 := Lib.hid (own_other Ot_16.out Gb19_19.out (Apart.symm Dt_16_t_1.out))
  replace Kt_17 := Lib.hid (Go.Proofs.Ytaepibmmpdfjcaa.GoC.cur_other Kt_17.out Gb19_19.out (Apart.symm Dt_6_t_1.out) (Go.Proofs.Ytaepibmmpdfjcaa.GoC.own_ge Ot_1.out))
  clear Ot_1 Gb19_19
  have kt_1_0__50 : wb19_19.cell? ⟨w_t_0.heap.size, 0, none⟩ = some (.slice At_11_rows t_11_rows.length ct_11_rows) := Pb19_19.out.cells rfl 0 _ rfl
  have hR_ := ret_hid H
  simp only [Prod.mk.injEq, Go.Proofs.Ytaepibmmpdfjcaa.PBlock.Block.mk.injEq] at hR_
  obtain ⟨rfl, rfl, rfl, rfl⟩ := hR_
  go_wp2_with fail
  (try simp only [Exit.inBlock, Exit.then])
  refine bodyPost_ret (v := .tuple #[.agg #[.slice At_9_rows t_9_rows.length ct_9_rows], .agg #[.slice At_11_rows t_11_rows.length ct_11_rows], .int .i64 t_14, .int .i64 t_17]) ?hr_ ?hd_ ?_
  case hd_ => rfl
  case hr_ => simp [results, Try.results22, kt_0_0__49, kt_1_0__50, go_sem]
  exact ⟨At_9_rows, ct_9_rows, At_11_rows, ct_11_rows, rfl, Ot_9_rows.out, Ot_11_rows.out, (Apart.symm Dt_11_rows_t_9_rows.out), HBwb19_19.out⟩
end Go.Proofs.Ytaepibmmpdfjcaa.GsDrawDoAgree

/- loop.example/g01062/impl.DoAgree as a plain function, and the contract of the program's: where the plain one has an answer, the program has it. Conditions: slices read as lists. -/
namespace Go.Proofs.Ytaepibmmpdfjcaa.GiDoAgree
set_option linter.unusedVariables false
set_option linter.unusedSimpArgs false
open Go.RowKit
open Go.Proofs.Ytaepibmmpdfjcaa.Rowed Go.Proofs.Ytaepibmmpdfjcaa.Turn Go.Proofs.Ytaepibmmpdfjcaa.Aid Go.Proofs.Ytaepibmmpdfjcaa.GoP Go.Proofs.Ytaepibmmpdfjcaa.GoM

def P (a_rows : (List ByteArray)) (b_rows : (List ByteArray)) (down : Int) (right : Int) : Option (Bool × Bool) :=
  Option.bind (Go.Proofs.Ytaepibmmpdfjcaa.GiIsBlock.P a_rows) fun (t_5 : Bool) =>
  letK (!t_5) fun (t_6 : Bool) =>
  joinK (fun (t_11 : Bool) =>
  joinK (fun (t_16 : Bool) =>
  joinK (fun (t_21 : Bool) =>
  iteK t_21
  (some (false, false))
  (Option.bind (Go.Proofs.Ytaepibmmpdfjcaa.GiAgree.P a_rows b_rows down right) fun (t_30 : Bool) =>
  some (t_30, true))) fun jt_21 => iteK t_16 (appK jt_21 true) (Option.bind (Go.Proofs.Ytaepibmmpdfjcaa.GiWithin.P right (-2) 2) fun (t_19 : Bool) =>
  letK (!t_19) fun (t_20 : Bool) =>
  appK jt_21 t_20)) fun jt_16 => iteK t_11 (appK jt_16 true) (Option.bind (Go.Proofs.Ytaepibmmpdfjcaa.GiWithin.P down (-2) 2) fun (t_14 : Bool) =>
  letK (!t_14) fun (t_15 : Bool) =>
  appK jt_16 t_15)) fun jt_11 => iteK t_6 (appK jt_11 true) (Option.bind (Go.Proofs.Ytaepibmmpdfjcaa.GiIsBlock.P b_rows) fun (t_9 : Bool) =>
  letK (!t_9) fun (t_10 : Bool) =>
  appK jt_11 t_10)

set_option maxRecDepth 100000 in
set_option maxHeartbeats 2000000 in
theorem C (a_rows : (List ByteArray)) (b_rows : (List ByteArray)) (down : Int) (right : Int) (A0_0 : Option Addr) (c0_0 : Nat) (A1_0 : Option Addr) (c1_0 : Nat)  (w : World) (M0_0 : Hid (Cells w 1 A0_0 a_rows.length (a_rows.map Value.string))) (N0_0 : Hid (a_rows.length ≤ 9223372036854775807)) (M1_0 : Hid (Cells w 1 A1_0 b_rows.length (b_rows.map Value.string))) (N1_0 : Hid (b_rows.length ≤ 9223372036854775807))  {r0 : Bool} {r1 : Bool} (H : Hid (P a_rows b_rows down right = some (r0, r1))) :
    Calls Try.prog 23 #[.agg #[.slice A0_0 a_rows.length c0_0], .agg #[.slice A1_0 b_rows.length c1_0], .int .i64 down, .int .i64 right] w (Gives (.tuple #[.bool r0, .bool r1]) w) := by
  have HB := Lib.hid (Below.refl w.heap.size w)
  unfold P at H
  have N0_0o := N0_0.out
  have N1_0o := N1_0.out
  go_enter Try.func23, Try.ntmps23
  obtain ⟨w_a_0, hw_a_0⟩ : ∃ x, w.alloc (.cells #[.slice A0_0 a_rows.length c0_0] 26) = x := ⟨_, rfl⟩
  have bw_a_0 : Below w.heap.size w w_a_0 := by rw [← hw_a_0]; exact (Below.refl _ _).alloc (Nat.le_refl _) _
  have HBw_a_0 := Lib.hid (Below.step HB.out bw_a_0)
  clear bw_a_0
  have ka_0_0 : w_a_0.cell? ⟨w.heap.size, 0, none⟩ = some (.slice A0_0 a_rows.length c0_0) := by rw [← hw_a_0]; exact box_new _ _ _ 0 _ rfl
  obtain ⟨w_b_1, hw_b_1⟩ : ∃ x, w_a_0.alloc (.cells #[.slice A1_0 b_rows.length c1_0] 26) = x := ⟨_, rfl⟩
  have bw_b_1 : Below w_a_0.heap.size w_a_0 w_b_1 := by rw [← hw_b_1]; exact (Below.refl _ _).alloc (Nat.le_refl _) _
  have HBw_b_1 := Lib.hid (Below.step HBw_a_0.out bw_b_1)
  have ka_0_0__51 := cell_below bw_b_1 ka_0_0
  clear bw_b_1
  have kb_1_0 : w_b_1.cell? ⟨w_a_0.heap.size, 0, none⟩ = some (.slice A1_0 b_rows.length c1_0) := by rw [← hw_b_1]; exact box_new _ _ _ 0 _ rfl
  replace H := bind_hid H
  obtain ⟨t_5, qt_5, H⟩ := H
  go_wp2_with fail
  clear ka_0_0
  go_at_call 16
  refine (Go.Proofs.Ytaepibmmpdfjcaa.GiIsBlock.C (a_rows) A0_0 c0_0 _   (Lib.hid (Cells.below M0_0.out HBw_b_1.out)) N0_0 qt_5).mono ?_
  rintro e_t_5 wt_5 ⟨rfl, bt_5⟩
  have HBwt_5 := Lib.hid (Below.step HBw_b_1.out bt_5)
  replace ka_0_0__51 := cell_below bt_5 ka_0_0__51
  replace kb_1_0 := cell_below bt_5 kb_1_0
  clear bt_5
  cases t_5 with
  | false =>
    replace H := let_hid H
    obtain ⟨t_6, ht_6, H⟩ := H
    obtain rfl : t_6 = true := ht_6.symm
    replace H := join_hid H
    replace H := ite_t H
    replace H := app_hid H
    replace H := join_hid H
    replace H := ite_t H
    replace H := app_hid H
    replace H := join_hid H
    replace H := ite_t H
    replace H := app_hid H
    replace H := ite_t H
    cases ret_hid H
    go_wp2_with fail
    go_ret2
    exact ⟨rfl, HBwt_5.out⟩
  | true =>
    replace H := let_hid H
    obtain ⟨t_6, ht_6, H⟩ := H
    obtain rfl : t_6 = false := ht_6.symm
    replace H := join_hid H
    replace H := ite_f H
    replace H := bind_hid H
    obtain ⟨t_9, qt_9, H⟩ := H
    go_wp2_with fail
    go_at_call 16
    refine (Go.Proofs.Ytaepibmmpdfjcaa.GiIsBlock.C (b_rows) A1_0 c1_0 _   (Lib.hid (Cells.below M1_0.out HBwt_5.out)) N1_0 qt_9).mono ?_
    rintro e_t_9 wt_9 ⟨rfl, bt_9⟩
    have HBwt_9 := Lib.hid (Below.step HBwt_5.out bt_9)
    replace ka_0_0__51 := cell_below bt_9 ka_0_0__51
    replace kb_1_0 := cell_below bt_9 kb_1_0
    clear bt_9
    cases t_9 with
    | false =>
      replace H := let_hid H
      obtain ⟨t_10, ht_10, H⟩ := H
      obtain rfl : t_10 = true := ht_10.symm
      replace H := app_hid H
      replace H := join_hid H
      replace H := ite_t H
      replace H := app_hid H
      replace H := join_hid H
      replace H := ite_t H
      replace H := app_hid H
      replace H := ite_t H
      cases ret_hid H
      go_wp2_with fail
      go_ret2
      exact ⟨rfl, HBwt_9.out⟩
    | true =>
      replace H := let_hid H
      obtain ⟨t_10, ht_10, H⟩ := H
      obtain rfl : t_10 = false := ht_10.symm
      replace H := app_hid H
      replace H := join_hid H
      replace H := ite_f H
      replace H := bind_hid H
      obtain ⟨t_14, qt_14, H⟩ := H
      go_wp2_with fail
      go_at_call 63
      refine (Go.Proofs.Ytaepibmmpdfjcaa.GiWithin.C (down) ((-2)) (2)  _    qt_14).mono ?_
      rintro e_t_14 wt_14 ⟨rfl, bt_14⟩
      have HBwt_14 := Lib.hid (Below.step HBwt_9.out bt_14)
      replace ka_0_0__51 := cell_below bt_14 ka_0_0__51
      replace kb_1_0 := cell_below bt_14 kb_1_0
      clear bt_14
      cases t_14 with
      | false =>
        replace H := let_hid H
        obtain ⟨t_15, ht_15, H⟩ := H
        obtain rfl : t_15 = true := ht_15.symm
        replace H := app_hid H
        replace H := join_hid H
        replace H := ite_t H
        replace H := app_hid H
        replace H := ite_t H
        cases ret_hid H
        go_wp2_with fail
        go_ret2
        exact ⟨rfl, HBwt_14.out⟩
      | true =>
        replace H := let_hid H
        obtain ⟨t_15, ht_15, H⟩ := H
        obtain rfl : t_15 = false := ht_15.symm
        replace H := app_hid H
        replace H := join_hid H
        replace H := ite_f H
        replace H := bind_hid H
        obtain ⟨t_19, qt_19, H⟩ := H
        go_wp2_with fail
        go_at_call 63
        refine (Go.Proofs.Ytaepibmmpdfjcaa.GiWithin.C (right) ((-2)) (2)  _    qt_19).mono ?_
        rintro e_t_19 wt_19 ⟨rfl, bt_19⟩
        have HBwt_19 := Lib.hid (Below.step HBwt_14.out bt_19)
        replace ka_0_0__51 := cell_below bt_19 ka_0_0__51
        replace kb_1_0 := cell_below bt_19 kb_1_0
        clear bt_19
        cases t_19 with
        | false =>
          replace H := let_hid H
          obtain ⟨t_20, ht_20, H⟩ := H
          obtain rfl : t_20 = true := ht_20.symm
          replace H := app_hid H
          replace H := ite_t H
          cases ret_hid H
          go_wp2_with fail
          go_ret2
          exact ⟨rfl, HBwt_19.out⟩
        | true =>
          replace H := let_hid H
          obtain ⟨t_20, ht_20, H⟩ := H
          obtain rfl : t_20 = false := ht_20.symm
          replace H := app_hid H
          replace H := ite_f H
          replace H := bind_hid H
          obtain ⟨t_30, qt_30, H⟩ := H
          go_wp2_with fail
          go_at_call 64
          refine (Go.Proofs.Ytaepibmmpdfjcaa.GiAgree.C (a_rows) (b_rows) (down) (right) A0_0 c0_0 A1_0 c1_0 _   (Lib.hid (Cells.below M0_0.out HBwt_19.out)) N0_0 (Lib.hid (Cells.below M1_0.out HBwt_19.out)) N1_0 qt_30).mono ?_
          rintro e_t_30 wt_30 ⟨rfl, bt_30⟩
          have HBwt_30 := Lib.hid (Below.step HBwt_19.out bt_30)
          replace ka_0_0__51 := cell_below bt_30 ka_0_0__51
          replace kb_1_0 := cell_below bt_30 kb_1_0
          clear bt_30
          cases ret_hid H
          go_wp2_with fail
          go_ret2
          exact ⟨rfl, HBwt_30.out⟩
end Go.Proofs.Ytaepibmmpdfjcaa.GiDoAgree

/- loop.example/g01062/spec.DoAgree as a plain function, and the contract of the program's: where the plain one has an answer, the program has it. Conditions: slices read as lists. -/
namespace Go.Proofs.Ytaepibmmpdfjcaa.GsDoAgree
set_option linter.unusedVariables false
set_option linter.unusedSimpArgs false
open Go.RowKit
open Go.Proofs.Ytaepibmmpdfjcaa.Rowed Go.Proofs.Ytaepibmmpdfjcaa.Turn Go.Proofs.Ytaepibmmpdfjcaa.Aid Go.Proofs.Ytaepibmmpdfjcaa.GoP Go.Proofs.Ytaepibmmpdfjcaa.GoM

def l1 (a_rows : (List ByteArray)) (b_rows : (List ByteArray)) (down : Int) (right : Int) (i_10l0 : Int) (s : Int) (nx1 bk1 : Int → Option (Bool × Bool)) : Option (Bool × Bool) :=
  letK s fun k_11l1 =>
  Option.bind (idx a_rows 0) fun (yt_34 : ByteArray) =>
  letK (decide (k_11l1 < (yt_34.size : Int))) fun (t_37 : Bool) =>
  iteK t_37
  (letK (IntKind.i64.wrap (i_10l0 - down)) fun (t_40 : Int) =>
  letK (IntKind.i64.wrap (k_11l1 - right)) fun (t_43 : Int) =>
  letK (IntKind.i64.wrap ((b_rows.length : Int) - 1)) fun (t_50 : Int) =>
  Option.bind (Go.Proofs.Ytaepibmmpdfjcaa.GsL1In.P t_40 0 t_50) fun (t_51 : Bool) =>
  letK (!t_51) fun (t_52 : Bool) =>
  joinK (fun (t_63 : Bool) =>
  iteK t_63
  (letK (IntKind.i64.wrap (k_11l1 + 1)) fun (t_94 : Int) =>
  appK nx1 (t_94))
  (Option.bind (idx a_rows i_10l0) fun (yt_67 : ByteArray) =>
  Option.bind (idx yt_67.toList k_11l1) fun (yt_70 : UInt8) =>
  letK ((yt_70.toNat : Int)) fun (t_70 : Int) =>
  Option.bind (idx b_rows t_40) fun (yt_74 : ByteArray) =>
  Option.bind (idx yt_74.toList t_43) fun (yt_77 : UInt8) =>
  letK ((yt_77.toNat : Int)) fun (t_77 : Int) =>
  letK (t_70 != 46) fun (t_81 : Bool) =>
  joinK (fun (t_85 : Bool) =>
  joinK (fun (t_90 : Bool) =>
  iteK t_90
  (some (false, true))
  (letK (IntKind.i64.wrap (k_11l1 + 1)) fun (t_94 : Int) =>
  appK nx1 (t_94))) fun jt_90 => iteK t_85 (letK (t_70 != t_77) fun (t_89 : Bool) =>
  appK jt_90 t_89) (appK jt_90 false)) fun jt_85 => iteK t_81 (letK (t_77 != 46) fun (t_84 : Bool) =>
  appK jt_85 t_84) (appK jt_85 false))) fun jt_63 => iteK t_52 (appK jt_63 true) (Option.bind (idx b_rows 0) fun (yt_57 : ByteArray) =>
  letK (IntKind.i64.wrap ((yt_57.size : Int) - 1)) fun (t_60 : Int) =>
  Option.bind (Go.Proofs.Ytaepibmmpdfjcaa.GsL1In.P t_43 0 t_60) fun (t_61 : Bool) =>
  letK (!t_61) fun (t_62 : Bool) =>
  appK jt_63 t_62))
  (appK bk1 (k_11l1))

def e1 (nx0 : (Int) → Option (Bool × Bool)) (i_10l0 : Int) (s : Int) : Option (Bool × Bool) :=
  letK s fun k_11l1 =>
  letK (IntKind.i64.wrap (i_10l0 + 1)) fun (t_97 : Int) =>
  appK nx0 (t_97)

def l0 (a_rows : (List ByteArray)) (b_rows : (List ByteArray)) (down : Int) (right : Int) (fuel : Nat) (s : Int) (nx0 bk0 : Int → Option (Bool × Bool)) : Option (Bool × Bool) :=
  letK s fun i_10l0 =>
  letK (decide (i_10l0 < (a_rows.length : Int))) fun (t_29 : Bool) =>
  iteK t_29
  (loopK (l1 a_rows b_rows down right i_10l0) fuel (0) (e1 nx0 i_10l0))
  (appK bk0 (i_10l0))

def e0  (s : Int) : Option (Bool × Bool) :=
  letK s fun i_10l0 =>
  some (true, true)

def P (fuel : Nat) (a_rows : (List ByteArray)) (b_rows : (List ByteArray)) (down : Int) (right : Int) : Option (Bool × Bool) :=
  Option.bind (Go.Proofs.Ytaepibmmpdfjcaa.GsIsBlock.P fuel a_rows) fun (t_5 : Bool) =>
  letK (!t_5) fun (t_6 : Bool) =>
  joinK (fun (t_11 : Bool) =>
  joinK (fun (t_16 : Bool) =>
  joinK (fun (t_21 : Bool) =>
  iteK t_21
  (some (false, false))
  (loopK (l0 a_rows b_rows down right fuel) fuel (0) (e0 ))) fun jt_21 => iteK t_16 (appK jt_21 true) (Option.bind (Go.Proofs.Ytaepibmmpdfjcaa.GsL1In.P right (-2) 2) fun (t_19 : Bool) =>
  letK (!t_19) fun (t_20 : Bool) =>
  appK jt_21 t_20)) fun jt_16 => iteK t_11 (appK jt_16 true) (Option.bind (Go.Proofs.Ytaepibmmpdfjcaa.GsL1In.P down (-2) 2) fun (t_14 : Bool) =>
  letK (!t_14) fun (t_15 : Bool) =>
  appK jt_16 t_15)) fun jt_11 => iteK t_6 (appK jt_11 true) (Option.bind (Go.Proofs.Ytaepibmmpdfjcaa.GsIsBlock.P fuel b_rows) fun (t_9 : Bool) =>
  letK (!t_9) fun (t_10 : Bool) =>
  appK jt_11 t_10)

set_option maxRecDepth 100000 in
set_option maxHeartbeats 2000000 in
theorem C (fuel : Nat) (a_rows : (List ByteArray)) (b_rows : (List ByteArray)) (down : Int) (right : Int) (A0_0 : Option Addr) (c0_0 : Nat) (A1_0 : Option Addr) (c1_0 : Nat)  (w : World) (M0_0 : Hid (Cells w 1 A0_0 a_rows.length (a_rows.map Value.string))) (N0_0 : Hid (a_rows.length ≤ 9223372036854775807)) (M1_0 : Hid (Cells w 1 A1_0 b_rows.length (b_rows.map Value.string))) (N1_0 : Hid (b_rows.length ≤ 9223372036854775807))  {r0 : Bool} {r1 : Bool} (H : Hid (P fuel a_rows b_rows down right = some (r0, r1))) :
    Calls Try.prog 24 #[.agg #[.slice A0_0 a_rows.length c0_0], .agg #[.slice A1_0 b_rows.length c1_0], .int .i64 down, .int .i64 right] w (Gives (.tuple #[.bool r0, .bool r1]) w) := by
  have HB := Lib.hid (Below.refl w.heap.size w)
  unfold P at H
  have N0_0o := N0_0.out
  have N1_0o := N1_0.out
  go_enter Try.func24, Try.ntmps24
  obtain ⟨w_a_0, hw_a_0⟩ : ∃ x, w.alloc (.cells #[.slice A0_0 a_rows.length c0_0] 26) = x := ⟨_, rfl⟩
  have bw_a_0 : Below w.heap.size w w_a_0 := by rw [← hw_a_0]; exact (Below.refl _ _).alloc (Nat.le_refl _) _
  have HBw_a_0 := Lib.hid (Below.step HB.out bw_a_0)
  clear bw_a_0
  have ka_0_0 : w_a_0.cell? ⟨w.heap.size, 0, none⟩ = some (.slice A0_0 a_rows.length c0_0) := by rw [← hw_a_0]; exact box_new _ _ _ 0 _ rfl
  obtain ⟨w_b_1, hw_b_1⟩ : ∃ x, w_a_0.alloc (.cells #[.slice A1_0 b_rows.length c1_0] 26) = x := ⟨_, rfl⟩
  have bw_b_1 : Below w_a_0.heap.size w_a_0 w_b_1 := by rw [← hw_b_1]; exact (Below.refl _ _).alloc (Nat.le_refl _) _
  have HBw_b_1 := Lib.hid (Below.step HBw_a_0.out bw_b_1)
  have ka_0_0__52 := cell_below bw_b_1 ka_0_0
  clear bw_b_1
  have kb_1_0 : w_b_1.cell? ⟨w_a_0.heap.size, 0, none⟩ = some (.slice A1_0 b_rows.length c1_0) := by rw [← hw_b_1]; exact box_new _ _ _ 0 _ rfl
  replace H := bind_hid H
  obtain ⟨t_5, qt_5, H⟩ := H
  go_wp2_with fail
  clear ka_0_0
  go_at_call 53
  refine (Go.Proofs.Ytaepibmmpdfjcaa.GsIsBlock.C fuel (a_rows) A0_0 c0_0 _   (Lib.hid (Cells.below M0_0.out HBw_b_1.out)) N0_0 qt_5).mono ?_
  rintro e_t_5 wt_5 ⟨rfl, bt_5⟩
  have HBwt_5 := Lib.hid (Below.step HBw_b_1.out bt_5)
  replace ka_0_0__52 := cell_below bt_5 ka_0_0__52
  replace kb_1_0 := cell_below bt_5 kb_1_0
  clear bt_5
  cases t_5 with
  | false =>
    replace H := let_hid H
    obtain ⟨t_6, ht_6, H⟩ := H
    obtain rfl : t_6 = true := ht_6.symm
    replace H := join_hid H
    replace H := ite_t H
    replace H := app_hid H
    replace H := join_hid H
    replace H := ite_t H
    replace H := app_hid H
    replace H := join_hid H
    replace H := ite_t H
    replace H := app_hid H
    replace H := ite_t H
    cases ret_hid H
    go_wp2_with fail
    go_ret2
    exact ⟨rfl, HBwt_5.out⟩
  | true =>
    replace H := let_hid H
    obtain ⟨t_6, ht_6, H⟩ := H
    obtain rfl : t_6 = false := ht_6.symm
    replace H := join_hid H
    replace H := ite_f H
    replace H := bind_hid H
    obtain ⟨t_9, qt_9, H⟩ := H
    go_wp2_with fail
    go_at_call 53
    refine (Go.Proofs.Ytaepibmmpdfjcaa.GsIsBlock.C fuel (b_rows) A1_0 c1_0 _   (Lib.hid (Cells.below M1_0.out HBwt_5.out)) N1_0 qt_9).mono ?_
    rintro e_t_9 wt_9 ⟨rfl, bt_9⟩
    have HBwt_9 := Lib.hid (Below.step HBwt_5.out bt_9)
    replace ka_0_0__52 := cell_below bt_9 ka_0_0__52
    replace kb_1_0 := cell_below bt_9 kb_1_0
    clear bt_9
    cases t_9 with
    | false =>
      replace H := let_hid H
      obtain ⟨t_10, ht_10, H⟩ := H
      obtain rfl : t_10 = true := ht_10.symm
      replace H := app_hid H
      replace H := join_hid H
      replace H := ite_t H
      replace H := app_hid H
      replace H := join_hid H
      replace H := ite_t H
      replace H := app_hid H
      replace H := ite_t H
      cases ret_hid H
      go_wp2_with fail
      go_ret2
      exact ⟨rfl, HBwt_9.out⟩
    | true =>
      replace H := let_hid H
      obtain ⟨t_10, ht_10, H⟩ := H
      obtain rfl : t_10 = false := ht_10.symm
      replace H := app_hid H
      replace H := join_hid H
      replace H := ite_f H
      replace H := bind_hid H
      obtain ⟨t_14, qt_14, H⟩ := H
      go_wp2_with fail
      go_at_call 65
      refine (Go.Proofs.Ytaepibmmpdfjcaa.GsL1In.C (down) ((-2)) (2)  _    qt_14).mono ?_
      rintro e_t_14 wt_14 ⟨rfl, bt_14⟩
      have HBwt_14 := Lib.hid (Below.step HBwt_9.out bt_14)
      replace ka_0_0__52 := cell_below bt_14 ka_0_0__52
      replace kb_1_0 := cell_below bt_14 kb_1_0
      clear bt_14
      cases t_14 with
      | false =>
        replace H := let_hid H
        obtain ⟨t_15, ht_15, H⟩ := H
        obtain rfl : t_15 = true := ht_15.symm
        replace H := app_hid H
        replace H := join_hid H
        replace H := ite_t H
        replace H := app_hid H
        replace H := ite_t H
        cases ret_hid H
        go_wp2_with fail
        go_ret2
        exact ⟨rfl, HBwt_14.out⟩
      | true =>
        replace H := let_hid H
        obtain ⟨t_15, ht_15, H⟩ := H
        obtain rfl : t_15 = false := ht_15.symm
        replace H := app_hid H
        replace H := join_hid H
        replace H := ite_f H
        replace H := bind_hid H
        obtain ⟨t_19, qt_19, H⟩ := H
        go_wp2_with fail
        go_at_call 65
        refine (Go.Proofs.Ytaepibmmpdfjcaa.GsL1In.C (right) ((-2)) (2)  _    qt_19).mono ?_
        rintro e_t_19 wt_19 ⟨rfl, bt_19⟩
        have HBwt_19 := Lib.hid (Below.step HBwt_14.out bt_19)
        replace ka_0_0__52 := cell_below bt_19 ka_0_0__52
        replace kb_1_0 := cell_below bt_19 kb_1_0
        clear bt_19
        cases t_19 with
        | false =>
          replace H := let_hid H
          obtain ⟨t_20, ht_20, H⟩ := H
          obtain rfl : t_20 = true := ht_20.symm
          replace H := app_hid H
          replace H := ite_t H
          cases ret_hid H
          go_wp2_with fail
          go_ret2
          exact ⟨rfl, HBwt_19.out⟩
        | true =>
          replace H := let_hid H
          obtain ⟨t_20, ht_20, H⟩ := H
          obtain rfl : t_20 = false := ht_20.symm
          replace H := app_hid H
          replace H := ite_f H
          go_wp2_with fail
          go_loopg [10] (fuel) (fun m_ v10_ wr => ∃ (i_10l0 : Int), v10_ = .int .i64 i_10l0 ∧ Hid (loopK (l0 a_rows b_rows down right fuel) m_ (i_10l0) (e0 ) = some (r0, r1)) ∧ Hid (Below w.heap.size w wr) ∧ wr.cell? ⟨w.heap.size, 0, none⟩ = some (.slice A0_0 a_rows.length c0_0) ∧ wr.cell? ⟨w_a_0.heap.size, 0, none⟩ = some (.slice A1_0 b_rows.length c1_0))
          case atStart => exact ⟨_, rfl, H, HBwt_19, ka_0_0__52, kb_1_0⟩
          case round =>
            obtain ⟨i_10l0, rfl, H, HBwr0, ka_0_0__52, kb_1_0⟩ := hrel
            rename World => wr0
            cases gk with
            | zero => exact (loop_zero H).elim
            | succ m0 =>
              replace H := loop_succ H
              unfold l0 at H
              replace H := let_hid H
              obtain ⟨_, rfl, H⟩ := H
              replace H := let_hid H
              obtain ⟨t_29, ht_29, H⟩ := H
              cases t_29 with
              | false =>
                replace H := ite_f H
                replace H := app_hid H
                unfold e0 at H
                replace H := let_hid H
                obtain ⟨_, rfl, H⟩ := H
                cases ret_hid H
                go_wp2_with fail
                go_ret2
                exact ⟨rfl, HBwr0.out⟩
              | true =>
                replace H := ite_t H
                go_wp2_with fail
                go_loopg [11] (fuel) (fun m_ v11_ wr => ∃ (k_11l1 : Int), v11_ = .int .i64 k_11l1 ∧ Hid (loopK (l1 a_rows b_rows down right i_10l0) m_ (k_11l1) (e1 (fun s' => loopK (l0 a_rows b_rows down right fuel) m0 s' (e0 )) i_10l0) = some (r0, r1)) ∧ Hid (Below w.heap.size w wr) ∧ wr.cell? ⟨w.heap.size, 0, none⟩ = some (.slice A0_0 a_rows.length c0_0) ∧ wr.cell? ⟨w_a_0.heap.size, 0, none⟩ = some (.slice A1_0 b_rows.length c1_0))
                case atStart => exact ⟨_, rfl, H, HBwr0, ka_0_0__52, kb_1_0⟩
                case round =>
                  obtain ⟨k_11l1, rfl, H, HBwr1, ka_0_0__52, kb_1_0⟩ := hrel
                  rename World => wr1
                  cases gk with
                  | zero => exact (loop_zero H).elim
                  | succ m1 =>
                    replace H := loop_succ H
                    unfold l1 at H
                    replace H := let_hid H
                    obtain ⟨_, rfl, H⟩ := H
                    replace H := idx_hid H
                    obtain ⟨nt_34, yt_34, et_34, lt_34, gt_34, H⟩ := H
                    obtain rfl : 0 = nt_34 := by omega
                    clear et_34
                    obtain ⟨ab_t_34, ao_t_34, zt_34, At_34, z_t_34, ct_34_0⟩ := strs_at M0_0.out lt_34
                    obtain rfl := Option.some.inj (gt_34.out.symm.trans z_t_34)
                    subst At_34
                    have ltt_34 := cell_lt ct_34_0
                    replace ct_34_0 := cell_below HBwr1.out ct_34_0
                    clear z_t_34
                    have b1t_34 : (0 : Int) < ((a_rows.length : Nat) : Int) := by omega
                    have b3t_34 : 0 < a_rows.length := by omega
                    try simp only [Nat.zero_mul, Nat.add_zero, Nat.zero_add, Nat.reduceMul] at ct_34_0
                    replace H := let_hid H
                    obtain ⟨t_37, ht_37, H⟩ := H
                    cases t_37 with
                    | false =>
                      replace H := ite_f H
                      replace H := app_hid H
                      unfold e1 at H
                      replace H := let_hid H
                      obtain ⟨_, rfl, H⟩ := H
                      replace H := let_hid H
                      obtain ⟨t_97, ht_97, H⟩ := H
                      replace H := app_hid H
                      go_wp2_with fail
                      go_roundg m0
                      case measure => omega
                      case rel => exact ⟨_, rfl, H, HBwr1, ka_0_0__52, kb_1_0⟩
                    | true =>
                      replace H := ite_t H
                      replace H := let_hid H
                      obtain ⟨t_40, ht_40, H⟩ := H
                      replace H := let_hid H
                      obtain ⟨t_43, ht_43, H⟩ := H
                      replace H := let_hid H
                      obtain ⟨t_50, ht_50, H⟩ := H
                      try have hv_t_50 : (b_rows.length : Int) - 1 = t_50 := by rw [← ht_50]; exact (IntWalk.i64_in _ (by omega)).symm
                      try have hv2_t_50 : IntKind.i64.wrap t_50 = t_50 := by rw [← hv_t_50]; exact IntWalk.i64_in _ (by omega)
                      replace H := bind_hid H
                      obtain ⟨t_51, qt_51, H⟩ := H
                      go_wp2_with fail
                      go_at_call 65
                      refine (Go.Proofs.Ytaepibmmpdfjcaa.GsL1In.C (t_40) (0) (t_50)  _    qt_51).mono ?_
                      rintro e_t_51 wt_51 ⟨rfl, bt_51⟩
                      have HBwt_51 := Lib.hid (Below.step HBwr1.out bt_51)
                      replace ka_0_0__52 := cell_below bt_51 ka_0_0__52
                      replace kb_1_0 := cell_below bt_51 kb_1_0
                      replace ct_34_0 := cell_below bt_51 ct_34_0
                      clear bt_51
                      cases t_51 with
                      | false =>
                        replace H := let_hid H
                        obtain ⟨t_52, ht_52, H⟩ := H
                        obtain rfl : t_52 = true := ht_52.symm
                        replace H := join_hid H
                        replace H := ite_t H
                        replace H := app_hid H
                        replace H := ite_t H
                        replace H := let_hid H
                        obtain ⟨t_94, ht_94, H⟩ := H
                        replace H := app_hid H
                        go_wp2_with fail
                        go_roundg m1
                        case measure => omega
                        case rel => exact ⟨_, rfl, H, HBwt_51, ka_0_0__52, kb_1_0⟩
                      | true =>
                        replace H := let_hid H
                        obtain ⟨t_52, ht_52, H⟩ := H
                        obtain rfl : t_52 = false := ht_52.symm
                        replace H := join_hid H
                        replace H := ite_f H
                        replace H := idx_hid H
                        obtain ⟨nt_57, yt_57, et_57, lt_57, gt_57, H⟩ := H
                        obtain rfl : 0 = nt_57 := by omega
                        clear et_57
                        obtain ⟨ab_t_57, ao_t_57, zt_57, At_57, z_t_57, ct_57_0⟩ := strs_at M1_0.out lt_57
                        obtain rfl := Option.some.inj (gt_57.out.symm.trans z_t_57)
                        subst At_57
                        have ltt_57 := cell_lt ct_57_0
                        replace ct_57_0 := cell_below HBwt_51.out ct_57_0
                        clear z_t_57
                        have b1t_57 : (0 : Int) < ((b_rows.length : Nat) : Int) := by omega
                        have b3t_57 : 0 < b_rows.length := by omega
                        try simp only [Nat.zero_mul, Nat.add_zero, Nat.zero_add, Nat.reduceMul] at ct_57_0
                        replace H := let_hid H
                        obtain ⟨t_60, ht_60, H⟩ := H
                        replace H := bind_hid H
                        obtain ⟨t_61, qt_61, H⟩ := H
                        go_wp2_with fail
                        go_at_call 65
                        refine (Go.Proofs.Ytaepibmmpdfjcaa.GsL1In.C (t_43) (0) (t_60)  _    qt_61).mono ?_
                        rintro e_t_61 wt_61 ⟨rfl, bt_61⟩
                        have HBwt_61 := Lib.hid (Below.step HBwt_51.out bt_61)
                        replace ka_0_0__52 := cell_below bt_61 ka_0_0__52
                        replace kb_1_0 := cell_below bt_61 kb_1_0
                        replace ct_34_0 := cell_below bt_61 ct_34_0
                        replace ct_57_0 := cell_below bt_61 ct_57_0
                        clear bt_61
                        cases t_61 with
                        | false =>
                          replace H := let_hid H
                          obtain ⟨t_62, ht_62, H⟩ := H
                          obtain rfl : t_62 = true := ht_62.symm
                          replace H := app_hid H
                          replace H := ite_t H
                          replace H := let_hid H
                          obtain ⟨t_94, ht_94, H⟩ := H
                          replace H := app_hid H
                          go_wp2_with fail
                          go_roundg m1
                          case measure => omega
                          case rel => exact ⟨_, rfl, H, HBwt_61, ka_0_0__52, kb_1_0⟩
                        | true =>
                          replace H := let_hid H
                          obtain ⟨t_62, ht_62, H⟩ := H
                          obtain rfl : t_62 = false := ht_62.symm
                          replace H := app_hid H
                          replace H := ite_f H
                          go_wp2_with fail
                          have Hka_0_0__52 := Lib.hid ka_0_0__52
                          replace ka_0_0__52 := cell_regrown ka_0_0__52
                          have Hkb_1_0 := Lib.hid kb_1_0
                          replace kb_1_0 := cell_regrown kb_1_0
                          have Hct_34_0 := Lib.hid ct_34_0
                          replace ct_34_0 := cell_regrown ct_34_0
                          have Hct_57_0 := Lib.hid ct_57_0
                          replace ct_57_0 := cell_regrown ct_57_0
                          replace H := idx_hid H
                          obtain ⟨nt_67, yt_67, et_67, lt_67, gt_67, H⟩ := H
                          subst et_67
                          have nc_53 : nt_67 < a_rows.length := by have := of_decide_eq_true ht_29; omega
                          obtain ⟨ab_t_67, ao_t_67, zt_67, At_67, z_t_67, ct_67_0⟩ := strs_at M0_0.out lt_67
                          obtain rfl := Option.some.inj (gt_67.out.symm.trans z_t_67)
                          simp only [Option.some.injEq, Addr.mk.injEq] at At_67
                          obtain ⟨rfl, rfl, _⟩ := At_67
                          have ltt_67 := cell_lt ct_67_0
                          replace ct_67_0 := cell_below HBwt_61.out ct_67_0
                          clear z_t_67
                          have b0t_67 : (0 : Int) ≤ (nt_67 : Int) := by omega
                          have b1t_67 : (nt_67 : Int) < ((a_rows.length : Nat) : Int) := by omega
                          have b2t_67 : ((nt_67 : Int)).toNat = nt_67 := by omega
                          have Hct_67_0 := Lib.hid ct_67_0
                          replace ct_67_0 := cell_regrown ct_67_0
                          replace H := idx_hid H
                          obtain ⟨nt_70, yt_70, et_70, lt_70, gt_70, H⟩ := H
                          subst et_70
                          have nc_54 : nt_70 < yt_34.size := by have := of_decide_eq_true ht_37; omega
                          have rt_70 := byte_rule lt_70 gt_70.out
                          have b0t_70 : (0 : Int) ≤ (nt_70 : Int) := by omega
                          have b1t_70 : (nt_70 : Int) < (yt_67.size : Int) := by have := size_list yt_67; omega
                          have b2t_70 : ((nt_70 : Int)).toNat = nt_70 := by omega
                          have b3t_70 : nt_70 < yt_67.size := by have := size_list yt_67; omega
                          replace H := let_hid H
                          obtain ⟨t_70, ht_70, H⟩ := H
                          replace H := idx_hid H
                          obtain ⟨nt_74, yt_74, et_74, lt_74, gt_74, H⟩ := H
                          subst et_74
                          obtain ⟨ab_t_74, ao_t_74, zt_74, At_74, z_t_74, ct_74_0⟩ := strs_at M1_0.out lt_74
                          obtain rfl := Option.some.inj (gt_74.out.symm.trans z_t_74)
                          simp only [Option.some.injEq, Addr.mk.injEq] at At_74
                          obtain ⟨rfl, rfl, _⟩ := At_74
                          have ltt_74 := cell_lt ct_74_0
                          replace ct_74_0 := cell_below HBwt_61.out ct_74_0
                          clear z_t_74
                          have b0t_74 : (0 : Int) ≤ (nt_74 : Int) := by omega
                          have b1t_74 : (nt_74 : Int) < ((b_rows.length : Nat) : Int) := by omega
                          have b2t_74 : ((nt_74 : Int)).toNat = nt_74 := by omega
                          have Hct_74_0 := Lib.hid ct_74_0
                          replace ct_74_0 := cell_regrown ct_74_0
                          replace H := idx_hid H
                          obtain ⟨nt_77, yt_77, et_77, lt_77, gt_77, H⟩ := H
                          subst et_77
                          have rt_77 := byte_rule lt_77 gt_77.out
                          have b0t_77 : (0 : Int) ≤ (nt_77 : Int) := by omega
                          have b1t_77 : (nt_77 : Int) < (yt_74.size : Int) := by have := size_list yt_74; omega
                          have b2t_77 : ((nt_77 : Int)).toNat = nt_77 := by omega
                          have b3t_77 : nt_77 < yt_74.size := by have := size_list yt_74; omega
                          replace H := let_hid H
                          obtain ⟨t_77, ht_77, H⟩ := H
                          refine wp_region_quiet_below (by kernel_rfl) (by kernel_rfl) ?_
                          repeat (go_big_quiet_step (fail))
                          refine wpQuiet_nil ?_
                          intro Y11 hY11
                          replace hY11 := below_class hY11
                          replace ka_0_0__52 := Hka_0_0__52.out
                          clear Hka_0_0__52
                          replace kb_1_0 := Hkb_1_0.out
                          clear Hkb_1_0
                          replace ct_34_0 := Hct_34_0.out
                          clear Hct_34_0
                          replace ct_57_0 := Hct_57_0.out
                          clear Hct_57_0
                          replace ct_67_0 := Hct_67_0.out
                          clear Hct_67_0
                          replace ct_74_0 := Hct_74_0.out
                          clear Hct_74_0
                          have HBY11 := Lib.hid (Below.step HBwt_61.out hY11)
                          replace ka_0_0__52 := cell_below hY11 ka_0_0__52
                          replace kb_1_0 := cell_below hY11 kb_1_0
                          replace ct_34_0 := cell_below hY11 ct_34_0
                          replace ct_57_0 := cell_below hY11 ct_57_0
                          replace ct_67_0 := cell_below hY11 ct_67_0
                          replace ct_74_0 := cell_below hY11 ct_74_0
                          clear hY11
                          replace H := let_hid H
                          obtain ⟨t_81, ht_81, H⟩ := H
                          replace H := join_hid H
                          cases t_81 with
                          | false =>
                            replace H := ite_f H
                            replace H := app_hid H
                            replace H := join_hid H
                            replace H := ite_f H
                            replace H := app_hid H
                            replace H := ite_f H
                            replace H := let_hid H
                            obtain ⟨t_94, ht_94, H⟩ := H
                            replace H := app_hid H
                            go_wp2_with fail
                            go_roundg m1
                            case measure => omega
                            case rel => exact ⟨_, rfl, H, HBY11, ka_0_0__52, kb_1_0⟩
                          | true =>
                            replace H := ite_t H
                            replace H := let_hid H
                            obtain ⟨t_84, ht_84, H⟩ := H
                            replace H := app_hid H
                            replace H := join_hid H
                            cases t_84 with
                            | false =>
                              replace H := ite_f H
                              replace H := app_hid H
                              replace H := ite_f H
                              replace H := let_hid H
                              obtain ⟨t_94, ht_94, H⟩ := H
                              replace H := app_hid H
                              go_wp2_with fail
                              go_roundg m1
                              case measure => omega
                              case rel => exact ⟨_, rfl, H, HBY11, ka_0_0__52, kb_1_0⟩
                            | true =>
                              replace H := ite_t H
                              replace H := let_hid H
                              obtain ⟨t_89, ht_89, H⟩ := H
                              replace H := app_hid H
                              cases t_89 with
                              | false =>
                                replace H := ite_f H
                                replace H := let_hid H
                                obtain ⟨t_94, ht_94, H⟩ := H
                                replace H := app_hid H
                                go_wp2_with fail
                                go_roundg m1
                                case measure => omega
                                case rel => exact ⟨_, rfl, H, HBY11, ka_0_0__52, kb_1_0⟩
                              | true =>
                                replace H := ite_t H
                                cases ret_hid H
                                go_wp2_with fail
                                go_ret2
                                exact ⟨rfl, HBY11.out⟩
end Go.Proofs.Ytaepibmmpdfjcaa.GsDoAgree

/- loop.example/g01062/spec.DrawIsSheet as a plain function, and the contract of the program's: where the plain one has an answer, the program has it. Conditions: slices read as lists. -/
namespace Go.Proofs.Ytaepibmmpdfjcaa.GsDrawIsSheet
set_option linter.unusedVariables false
set_option linter.unusedSimpArgs false
open Go.RowKit
open Go.Proofs.Ytaepibmmpdfjcaa.Rowed Go.Proofs.Ytaepibmmpdfjcaa.Turn Go.Proofs.Ytaepibmmpdfjcaa.Aid Go.Proofs.Ytaepibmmpdfjcaa.GoP Go.Proofs.Ytaepibmmpdfjcaa.GoM

def P (fuel : Nat) (tapes : List Int → Go.Proofs.Ytaepibmmpdfjcaa.GoC.Tape) (code : (List Int)) : Option ((List ByteArray)) :=
  letK (tapes code) fun (t_3 : Go.Proofs.Ytaepibmmpdfjcaa.GoC.Tape) =>
  bind2 (Go.Proofs.Ytaepibmmpdfjcaa.GsL1CurPlateSheet.P fuel t_3) fun (t_6 : (List ByteArray)) (t_6_tp : Go.Proofs.Ytaepibmmpdfjcaa.GoC.Tape) =>
  some t_6

set_option maxRecDepth 100000 in
set_option maxHeartbeats 2000000 in
theorem C (fuel : Nat) (tapes : List Int → Go.Proofs.Ytaepibmmpdfjcaa.GoC.Tape) (code : (List Int)) (A0 : Option Addr) (c0 : Nat)  (w : World) (HE : Hid (Go.Proofs.Ytaepibmmpdfjcaa.GoC.Tells tapes)) (M0 : Hid (Cells w 1 A0 code.length (Go.Proofs.Ytaepibmmpdfjcaa.GoC.u8s code))) (N0 : Hid (code.length ≤ 9223372036854775807)) (V0 : Hid (∀ z ∈ code, 0 ≤ z ∧ z ≤ 255))  {r : (List ByteArray)} (H : Hid (P fuel tapes code = some r)) :
    Calls Try.prog 66 #[.slice A0 code.length c0] w (fun e w' => ∃ A_r c_r, e = .returned (.slice A_r r.length c_r) ∧ w'.ownsRow w.heap.size 9 1 (.slice A_r r.length c_r) r.length (r.map Value.string) ∧ Below w.heap.size w w') := by
  have HB := Lib.hid (Below.refl w.heap.size w)
  unfold P at H
  have N0o := N0.out
  go_enter Try.func66, Try.ntmps66
  replace H := let_hid H
  obtain ⟨t_3, ht_3, H⟩ := H
  obtain ⟨w_t_3, hw_t_3⟩ : ∃ x, w.alloc (.cells #[.slice A0 code.length c0, .int .i64 0, .int .u64 0] 80) = x := ⟨_, rfl⟩
  have bw_t_3 : Below w.heap.size w w_t_3 := by rw [← hw_t_3]; exact (Below.refl _ _).alloc (Nat.le_refl _) _
  have Kt_3 : Hid (Go.Proofs.Ytaepibmmpdfjcaa.GoC.CurIs w_t_3 w.heap.size w.heap.size A0 c0 t_3) := Lib.hid (by rw [← hw_t_3, ← ht_3]; exact Go.Proofs.Ytaepibmmpdfjcaa.GoC.cur_new HB.out.size (Cells.below M0.out HB.out) (fun a_ ha_ h0_ => by subst ha_; exact Go.Proofs.Ytaepibmmpdfjcaa.GoC.cells_lt M0.out (by unfold Go.Proofs.Ytaepibmmpdfjcaa.GoC.u8s; rw [List.length_map]; exact h0_)) (HE.out.2.2 code V0.out N0.out))
  have hht_3 := Lib.hid ht_3
  clear ht_3
  have HBw_t_3 := Lib.hid (Below.step HB.out bw_t_3)
  clear bw_t_3
  replace H := bind2_hid H
  obtain ⟨t_6, t_6_tp, qt_6, H⟩ := H
  go_wp2_with fail
  go_at_call 49
  refine (Go.Proofs.Ytaepibmmpdfjcaa.GsL1CurPlateSheet.C fuel (t_3) (w.heap.size) (A0) (c0) (w.heap.size) _   Kt_3 qt_6).mono ?_
  rintro e_t_6 wt_6 ⟨At_6, ct_6, rfl, ot_6, kt_6, gt_6⟩
  have Dt_6_t_3 := Lib.hid (Go.Proofs.Ytaepibmmpdfjcaa.GoC.apart_callcur ot_6 Kt_3.out)
  have Ot_6 := Lib.hid (own_lower ot_6 HBw_t_3.out.size)
  clear ot_6
  have Kt_6 := Lib.hid kt_6
  have Gt_6 : Hid (w_t_3.grownBy wt_6 (Value.slice (some ⟨w.heap.size, 0, none⟩) 1 1).ownBlock) := Lib.hid gt_6
  clear kt_6 gt_6
  have HBwt_6 := Lib.hid (Go.Proofs.Ytaepibmmpdfjcaa.GoC.below_cur HBw_t_3.out Gt_6.out HBw_t_3.out.size (Go.Proofs.Ytaepibmmpdfjcaa.GoC.cur_lt Kt_3.out).1)
  clear Kt_3 Gt_6
  obtain rfl := ret_hid H
  go_wp2_with fail
  go_ret
  exact ⟨At_6, ct_6, rfl, Ot_6.out, HBwt_6.out⟩
end Go.Proofs.Ytaepibmmpdfjcaa.GsDrawIsSheet

/- loop.example/g01062/spec.DrawPointsOn as a plain function, and the contract of the program's: where the plain one has an answer, the program has it. Conditions: slices read as lists. -/
namespace Go.Proofs.Ytaepibmmpdfjcaa.GsDrawPointsOn
set_option linter.unusedVariables false
set_option linter.unusedSimpArgs false
open Go.RowKit
open Go.Proofs.Ytaepibmmpdfjcaa.Rowed Go.Proofs.Ytaepibmmpdfjcaa.Turn Go.Proofs.Ytaepibmmpdfjcaa.Aid Go.Proofs.Ytaepibmmpdfjcaa.GoP Go.Proofs.Ytaepibmmpdfjcaa.GoM

def P (fuel : Nat) (tapes : List Int → Go.Proofs.Ytaepibmmpdfjcaa.GoC.Tape) (code : (List Int)) : Option ((List ByteArray)) :=
  Option.bind (Go.Proofs.Ytaepibmmpdfjcaa.GsDrawIsSheet.P fuel tapes code) fun (t_2 : (List ByteArray)) =>
  some t_2

set_option maxRecDepth 100000 in
set_option maxHeartbeats 2000000 in
theorem C (fuel : Nat) (tapes : List Int → Go.Proofs.Ytaepibmmpdfjcaa.GoC.Tape) (code : (List Int)) (A0 : Option Addr) (c0 : Nat)  (w : World) (HE : Hid (Go.Proofs.Ytaepibmmpdfjcaa.GoC.Tells tapes)) (M0 : Hid (Cells w 1 A0 code.length (Go.Proofs.Ytaepibmmpdfjcaa.GoC.u8s code))) (N0 : Hid (code.length ≤ 9223372036854775807)) (V0 : Hid (∀ z ∈ code, 0 ≤ z ∧ z ≤ 255))  {r : (List ByteArray)} (H : Hid (P fuel tapes code = some r)) :
    Calls Try.prog 25 #[.slice A0 code.length c0] w (fun e w' => ∃ A_r c_r, e = .returned (.slice A_r r.length c_r) ∧ w'.ownsRow w.heap.size 9 1 (.slice A_r r.length c_r) r.length (r.map Value.string) ∧ Below w.heap.size w w') := by
  have HB := Lib.hid (Below.refl w.heap.size w)
  unfold P at H
  have N0o := N0.out
  go_enter Try.func25, Try.ntmps25
  replace H := bind_hid H
  obtain ⟨t_2, qt_2, H⟩ := H
  go_wp2_with fail
  go_at_call 66
  refine (Go.Proofs.Ytaepibmmpdfjcaa.GsDrawIsSheet.C fuel tapes (code) A0 c0 _  HE (Lib.hid (Cells.below M0.out HB.out)) N0 V0 qt_2).mono ?_
  rintro e_t_2 wt_2 ⟨At_2, ct_2, rfl, ot_2, bt_2⟩
  have Ot_2 := Lib.hid (own_lower ot_2 HB.out.size)
  clear ot_2
  have HBwt_2 := Lib.hid (Below.step HB.out bt_2)
  clear bt_2
  obtain rfl := ret_hid H
  go_wp2_with fail
  go_ret
  exact ⟨At_2, ct_2, rfl, Ot_2.out, HBwt_2.out⟩
end Go.Proofs.Ytaepibmmpdfjcaa.GsDrawPointsOn

/- loop.example/g01062/spec.l4Points as a plain function, and the contract of the program's: where the plain one has an answer, the program has it. Conditions: slices read as lists. -/
namespace Go.Proofs.Ytaepibmmpdfjcaa.GsL4Points
set_option linter.unusedVariables false
set_option linter.unusedSimpArgs false
open Go.RowKit
open Go.Proofs.Ytaepibmmpdfjcaa.Rowed Go.Proofs.Ytaepibmmpdfjcaa.Turn Go.Proofs.Ytaepibmmpdfjcaa.Aid Go.Proofs.Ytaepibmmpdfjcaa.GoP Go.Proofs.Ytaepibmmpdfjcaa.GoM

def l1 (sheet : (List ByteArray)) (k0 : Nat) (s : Int × Int) (nx1 bk1 : Int × Int → Option (Int)) : Option (Int) :=
  unp2 s fun n_3l1 k_5l1 =>
  Option.bind (idx sheet (k0 : Int)) fun (yt_11 : ByteArray) =>
  letK (decide (k_5l1 < (yt_11.size : Int))) fun (t_14 : Bool) =>
  iteK t_14
  (Option.bind (idx sheet (k0 : Int)) fun (yt_17 : ByteArray) =>
  Option.bind (idx yt_17.toList k_5l1) fun (yt_20 : UInt8) =>
  letK ((yt_20.toNat : Int)) fun (t_20 : Int) =>
  letK (t_20 == 46) fun (t_21 : Bool) =>
  iteK t_21
  (letK (IntKind.i64.wrap (n_3l1 + 1)) fun (t_23 : Int) =>
  letK (IntKind.i64.wrap (k_5l1 + 1)) fun (t_26 : Int) =>
  appK nx1 (t_23, t_26))
  (letK (IntKind.i64.wrap (k_5l1 + 1)) fun (t_26 : Int) =>
  appK nx1 (n_3l1, t_26)))
  (appK bk1 (n_3l1, k_5l1))

def e1 (nx0 : (Int) → Option (Int)) (s : Int × Int) : Option (Int) :=
  unp2 s fun n_3l1 k_5l1 =>
  appK nx0 (n_3l1)

def l0 (sheet : (List ByteArray)) (fuel : Nat) (k0 : Nat) (s : Int) (nx0 bk0 : Int → Option (Int)) : Option (Int) :=
  letK s fun n_3l0 =>
  loopK (l1 sheet k0) fuel (n_3l0, 0) (e1 nx0)

def e0  (s : Int) : Option (Int) :=
  letK s fun n_3l0 =>
  some n_3l0

def P (fuel : Nat) (sheet : (List ByteArray)) : Option (Int) :=
  cntK (l0 sheet fuel) (sheet.length) 0 (0) (e0 )

set_option maxRecDepth 100000 in
set_option maxHeartbeats 2000000 in
theorem C (fuel : Nat) (sheet : (List ByteArray)) (A0 : Option Addr) (c0 : Nat)  (w : World) (M0 : Hid (Cells w 1 A0 sheet.length (sheet.map Value.string))) (N0 : Hid (sheet.length ≤ 9223372036854775807))  {r : Int} (H : Hid (P fuel sheet = some r)) :
    Calls Try.prog 67 #[.slice A0 sheet.length c0] w (Gives (.int .i64 r) w) := by
  have HB := Lib.hid (Below.refl w.heap.size w)
  unfold P at H
  have N0o := N0.out
  go_enter Try.func67, Try.ntmps67
  go_wp2_with fail
  go_loopg [4, 3] (sheet.length) (fun m_ v4_ v3_ wr => ∃ (k0 : Nat) (n_3l0 : Int), k0 + m_ = sheet.length ∧ v4_ = .int .i64 (k0 : Int) ∧ v3_ = .int .i64 n_3l0 ∧ Hid (cntK (l0 sheet fuel) m_ k0 (n_3l0) (e0 ) = some r) ∧ Hid (Below w.heap.size w wr))
  case atStart => exact ⟨0, _, by omega, rfl, rfl, H, HB⟩
  case round =>
    obtain ⟨k0, n_3l0, hkm0, rfl, rfl, H, HBwr0⟩ := hrel
    rename World => wr0
    cases gk with
    | zero =>
      obtain rfl : k0 = sheet.length := by omega
      have hc0 : decide (((sheet.length : Nat) : Int) < ((sheet.length : Nat) : Int)) = false := by simp
      replace H := cnt_zero H
      unfold e0 at H
      replace H := let_hid H
      obtain ⟨_, rfl, H⟩ := H
      obtain rfl := ret_hid H
      go_wp2_with fail
      go_ret
      exact ⟨rfl, HBwr0.out⟩
    | succ m0 =>
      have hlt0 : k0 < sheet.length := by omega
      have hc0 : decide ((k0 : Int) < ((sheet.length : Nat) : Int)) = true := by simp; omega
      replace H := cnt_succ H
      unfold l0 at H
      replace H := let_hid H
      obtain ⟨_, rfl, H⟩ := H
      go_wp2_with fail
      go_loopg [3, 5] (fuel) (fun m_ v3_ v5_ wr => ∃ (n_3l1 : Int) (k_5l1 : Int), v3_ = .int .i64 n_3l1 ∧ v5_ = .int .i64 k_5l1 ∧ Hid (loopK (l1 sheet k0) m_ (n_3l1, k_5l1) (e1 (fun s' => cntK (l0 sheet fuel) m0 (k0 + 1) s' (e0 ))) = some r) ∧ Hid (Below w.heap.size w wr))
      case atStart => exact ⟨_, _, rfl, rfl, H, HBwr0⟩
      case round =>
        obtain ⟨n_3l1, k_5l1, rfl, rfl, H, HBwr1⟩ := hrel
        rename World => wr1
        cases gk with
        | zero => exact (loop_zero H).elim
        | succ m1 =>
          replace H := loop_succ H
          unfold l1 at H
          replace H := unp2_hid H
          replace H := idx_hid H
          obtain ⟨nt_11, yt_11, et_11, lt_11, gt_11, H⟩ := H
          obtain rfl : k0 = nt_11 := by omega
          clear et_11
          obtain ⟨ab_t_11, ao_t_11, zt_11, At_11, z_t_11, ct_11_0⟩ := strs_at M0.out lt_11
          obtain rfl := Option.some.inj (gt_11.out.symm.trans z_t_11)
          subst At_11
          have ltt_11 := cell_lt ct_11_0
          replace ct_11_0 := cell_below HBwr1.out ct_11_0
          clear z_t_11
          have b0t_11 : (0 : Int) ≤ (k0 : Int) := by omega
          have b1t_11 : (k0 : Int) < ((sheet.length : Nat) : Int) := by omega
          have b2t_11 : ((k0 : Int)).toNat = k0 := by omega
          replace H := let_hid H
          obtain ⟨t_14, ht_14, H⟩ := H
          cases t_14 with
          | false =>
            replace H := ite_f H
            replace H := app_hid H
            unfold e1 at H
            replace H := unp2_hid H
            replace H := app_hid H
            go_wp2_with fail
            go_roundg m0
            case measure => omega
            case rel => exact ⟨k0 + 1, _, by omega, by go_num, rfl, H, HBwr1⟩
          | true =>
            replace H := ite_t H
            replace H := idx_hid H
            obtain ⟨nt_17, yt_17, et_17, lt_17, gt_17, H⟩ := H
            obtain rfl : k0 = nt_17 := by omega
            clear et_17
            obtain rfl := Option.some.inj (gt_11.out.symm.trans gt_17.out)
            clear gt_17 lt_17
            replace H := idx_hid H
            obtain ⟨nt_20, yt_20, et_20, lt_20, gt_20, H⟩ := H
            subst et_20
            have nc_55 : nt_20 < yt_11.size := by have := of_decide_eq_true ht_14; omega
            have rt_20 := byte_rule lt_20 gt_20.out
            have b0t_20 : (0 : Int) ≤ (nt_20 : Int) := by omega
            have b1t_20 : (nt_20 : Int) < (yt_11.size : Int) := by have := size_list yt_11; omega
            have b2t_20 : ((nt_20 : Int)).toNat = nt_20 := by omega
            have b3t_20 : nt_20 < yt_11.size := by have := size_list yt_11; omega
            replace H := let_hid H
            obtain ⟨t_20, ht_20, H⟩ := H
            replace H := let_hid H
            obtain ⟨t_21, ht_21, H⟩ := H
            cases t_21 with
            | false =>
              replace H := ite_f H
              replace H := let_hid H
              obtain ⟨t_26, ht_26, H⟩ := H
              replace H := app_hid H
              go_wp2_with fail
              go_roundg m1
              case measure => omega
              case rel => exact ⟨_, _, rfl, rfl, H, HBwr1⟩
            | true =>
              replace H := ite_t H
              replace H := let_hid H
              obtain ⟨t_23, ht_23, H⟩ := H
              replace H := let_hid H
              obtain ⟨t_26, ht_26, H⟩ := H
              replace H := app_hid H
              go_wp2_with fail
              go_roundg m1
              case measure => omega
              case rel => exact ⟨_, _, rfl, rfl, H, HBwr1⟩
end Go.Proofs.Ytaepibmmpdfjcaa.GsL4Points

/- loop.example/g01062/spec.PointsOn as a plain function, and the contract of the program's: where the plain one has an answer, the program has it. Conditions: slices read as lists. -/
namespace Go.Proofs.Ytaepibmmpdfjcaa.GsPointsOn
set_option linter.unusedVariables false
set_option linter.unusedSimpArgs false
open Go.RowKit
open Go.Proofs.Ytaepibmmpdfjcaa.Rowed Go.Proofs.Ytaepibmmpdfjcaa.Turn Go.Proofs.Ytaepibmmpdfjcaa.Aid Go.Proofs.Ytaepibmmpdfjcaa.GoP Go.Proofs.Ytaepibmmpdfjcaa.GoM

def P (fuel : Nat) (sheet : (List ByteArray)) : Option (Int × Bool) :=
  Option.bind (Go.Proofs.Ytaepibmmpdfjcaa.GsIsSheet.P fuel sheet) fun (t_3 : Bool) =>
  letK (!t_3) fun (t_4 : Bool) =>
  iteK t_4
  (some (0, false))
  (Option.bind (Go.Proofs.Ytaepibmmpdfjcaa.GsL4Points.P fuel sheet) fun (t_8 : Int) =>
  some (t_8, true))

set_option maxRecDepth 100000 in
set_option maxHeartbeats 2000000 in
theorem C (fuel : Nat) (sheet : (List ByteArray)) (A0 : Option Addr) (c0 : Nat)  (w : World) (M0 : Hid (Cells w 1 A0 sheet.length (sheet.map Value.string))) (N0 : Hid (sheet.length ≤ 9223372036854775807))  {r0 : Int} {r1 : Bool} (H : Hid (P fuel sheet = some (r0, r1))) :
    Calls Try.prog 26 #[.slice A0 sheet.length c0] w (Gives (.tuple #[.int .i64 r0, .bool r1]) w) := by
  have HB := Lib.hid (Below.refl w.heap.size w)
  unfold P at H
  have N0o := N0.out
  go_enter Try.func26, Try.ntmps26
  replace H := bind_hid H
  obtain ⟨t_3, qt_3, H⟩ := H
  go_wp2_with fail
  go_at_call 52
  refine (Go.Proofs.Ytaepibmmpdfjcaa.GsIsSheet.C fuel (sheet) A0 c0 _   (Lib.hid (Cells.below M0.out HB.out)) N0 qt_3).mono ?_
  rintro e_t_3 wt_3 ⟨rfl, bt_3⟩
  have HBwt_3 := Lib.hid (Below.step HB.out bt_3)
  clear bt_3
  cases t_3 with
  | false =>
    replace H := let_hid H
    obtain ⟨t_4, ht_4, H⟩ := H
    obtain rfl : t_4 = true := ht_4.symm
    replace H := ite_t H
    cases ret_hid H
    go_wp2_with fail
    go_ret2
    exact ⟨rfl, HBwt_3.out⟩
  | true =>
    replace H := let_hid H
    obtain ⟨t_4, ht_4, H⟩ := H
    obtain rfl : t_4 = false := ht_4.symm
    replace H := ite_f H
    replace H := bind_hid H
    obtain ⟨t_8, qt_8, H⟩ := H
    go_wp2_with fail
    go_at_call 67
    refine (Go.Proofs.Ytaepibmmpdfjcaa.GsL4Points.C fuel (sheet) A0 c0 _   (Lib.hid (Cells.below M0.out HBwt_3.out)) N0 qt_8).mono ?_
    rintro e_t_8 wt_8 ⟨rfl, bt_8⟩
    have HBwt_8 := Lib.hid (Below.step HBwt_3.out bt_8)
    clear bt_8
    cases ret_hid H
    go_wp2_with fail
    go_ret2
    exact ⟨rfl, HBwt_8.out⟩
end Go.Proofs.Ytaepibmmpdfjcaa.GsPointsOn

/- loop.example/g01062/spec.DrawIsBlock as a plain function, and the contract of the program's: where the plain one has an answer, the program has it. Conditions: slices read as lists. -/
namespace Go.Proofs.Ytaepibmmpdfjcaa.GsDrawIsBlock
set_option linter.unusedVariables false
set_option linter.unusedSimpArgs false
open Go.RowKit
open Go.Proofs.Ytaepibmmpdfjcaa.Rowed Go.Proofs.Ytaepibmmpdfjcaa.Turn Go.Proofs.Ytaepibmmpdfjcaa.Aid Go.Proofs.Ytaepibmmpdfjcaa.GoP Go.Proofs.Ytaepibmmpdfjcaa.GoM

def P (fuel : Nat) (tapes : List Int → Go.Proofs.Ytaepibmmpdfjcaa.GoC.Tape) (code : (List Int)) : Option (Go.Proofs.Ytaepibmmpdfjcaa.PBlock.Block) :=
  letK (tapes code) fun (t_3 : Go.Proofs.Ytaepibmmpdfjcaa.GoC.Tape) =>
  bind2 (Go.Proofs.Ytaepibmmpdfjcaa.GsL1CurBlock.P fuel t_3) fun (t_6 : Go.Proofs.Ytaepibmmpdfjcaa.PBlock.Block) (t_6_tp : Go.Proofs.Ytaepibmmpdfjcaa.GoC.Tape) =>
  unBlock t_6 fun (t_6_rows : (List ByteArray)) =>
  some (Go.Proofs.Ytaepibmmpdfjcaa.PBlock.Block.mk t_6_rows)

set_option maxRecDepth 100000 in
set_option maxHeartbeats 2000000 in
theorem C (fuel : Nat) (tapes : List Int → Go.Proofs.Ytaepibmmpdfjcaa.GoC.Tape) (code : (List Int)) (A0 : Option Addr) (c0 : Nat)  (w : World) (HE : Hid (Go.Proofs.Ytaepibmmpdfjcaa.GoC.Tells tapes)) (M0 : Hid (Cells w 1 A0 code.length (Go.Proofs.Ytaepibmmpdfjcaa.GoC.u8s code))) (N0 : Hid (code.length ≤ 9223372036854775807)) (V0 : Hid (∀ z ∈ code, 0 ≤ z ∧ z ≤ 255))  {r_rows : (List ByteArray)} (H : Hid (P fuel tapes code = some (Go.Proofs.Ytaepibmmpdfjcaa.PBlock.Block.mk r_rows))) :
    Calls Try.prog 68 #[.slice A0 code.length c0] w (fun e w' => ∃ A_r_rows c_r_rows, e = .returned (.agg #[.slice A_r_rows r_rows.length c_r_rows]) ∧ w'.ownsRow w.heap.size 9 1 (.slice A_r_rows r_rows.length c_r_rows) r_rows.length (r_rows.map Value.string) ∧ Below w.heap.size w w') := by
  have HB := Lib.hid (Below.refl w.heap.size w)
  unfold P at H
  have N0o := N0.out
  go_enter Try.func68, Try.ntmps68
  obtain ⟨w_t_0, hw_t_0⟩ : ∃ x, w.alloc (.cells #[.slice none 0 0] 26) = x := ⟨_, rfl⟩
  have bw_t_0 : Below w.heap.size w w_t_0 := by rw [← hw_t_0]; exact (Below.refl _ _).alloc (Nat.le_refl _) _
  have HBw_t_0 := Lib.hid (Below.step HB.out bw_t_0)
  clear bw_t_0
  have kt_0_0 : w_t_0.cell? ⟨w.heap.size, 0, none⟩ = some (.slice none 0 0) := by rw [← hw_t_0]; exact box_new _ _ _ 0 _ rfl
  have Ot_0 : Hid (w_t_0.ownsRow w.heap.size 26 1 (.slice (some ⟨w.heap.size, 0, none⟩) 1 1) 1 [.slice none 0 0]) := Lib.hid (by rw [← hw_t_0]; exact own_laid (n := 1) HB.out.size rfl rfl (by unfold maxLen; omega))
  replace H := let_hid H
  obtain ⟨t_3, ht_3, H⟩ := H
  obtain ⟨w_t_3, hw_t_3⟩ : ∃ x, w_t_0.alloc (.cells #[.slice A0 code.length c0, .int .i64 0, .int .u64 0] 80) = x := ⟨_, rfl⟩
  have bw_t_3 : Below w_t_0.heap.size w_t_0 w_t_3 := by rw [← hw_t_3]; exact (Below.refl _ _).alloc (Nat.le_refl _) _
  have Kt_3 : Hid (Go.Proofs.Ytaepibmmpdfjcaa.GoC.CurIs w_t_3 w.heap.size w_t_0.heap.size A0 c0 t_3) := Lib.hid (by rw [← hw_t_3, ← ht_3]; exact Go.Proofs.Ytaepibmmpdfjcaa.GoC.cur_new HBw_t_0.out.size (Cells.below M0.out HBw_t_0.out) (fun a_ ha_ h0_ => by subst ha_; exact Go.Proofs.Ytaepibmmpdfjcaa.GoC.cells_lt M0.out (by unfold Go.Proofs.Ytaepibmmpdfjcaa.GoC.u8s; rw [List.length_map]; exact h0_)) (HE.out.2.2 code V0.out N0.out))
  have hht_3 := Lib.hid ht_3
  clear ht_3
  have Dt_3_t_0 := Lib.hid (apart_box kt_0_0)
  have HBw_t_3 := Lib.hid (Below.step HBw_t_0.out bw_t_3)
  have kt_0_0__56 := cell_below bw_t_3 kt_0_0
  replace Ot_0 := Lib.hid (own_below Ot_0.out bw_t_3)
  clear bw_t_3
  replace H := bind2_hid H
  obtain ⟨t_6, t_6_tp, qt_6, H⟩ := H
  obtain ⟨t_6_rows⟩ := t_6
  replace H := unBlock_hid H
  go_wp2_with fail
  clear kt_0_0
  go_at_call 50
  refine (Go.Proofs.Ytaepibmmpdfjcaa.GsL1CurBlock.C fuel (t_3) (w_t_0.heap.size) (A0) (c0) (w.heap.size) _   Kt_3 qt_6).mono ?_
  rintro e_t_6 wt_6 ⟨At_6_rows, ct_6_rows, rfl, ot_6_rows, kt_6, gt_6⟩
  have Dt_6_rows_t_0 := Lib.hid (apart_callbox ot_6_rows kt_0_0__56)
  have Dt_6_rows_t_3 := Lib.hid (Go.Proofs.Ytaepibmmpdfjcaa.GoC.apart_callcur ot_6_rows Kt_3.out)
  have Ot_6_rows := Lib.hid (own_lower ot_6_rows HBw_t_3.out.size)
  clear ot_6_rows
  have Kt_6 := Lib.hid kt_6
  have Gt_6 : Hid (w_t_3.grownBy wt_6 (Value.slice (some ⟨w_t_0.heap.size, 0, none⟩) 1 1).ownBlock) := Lib.hid gt_6
  clear kt_6 gt_6
  have HBwt_6 := Lib.hid (Go.Proofs.Ytaepibmmpdfjcaa.GoC.below_cur HBw_t_3.out Gt_6.out HBw_t_3.out.size (Go.Proofs.Ytaepibmmpdfjcaa.GoC.cur_lt Kt_3.out).1)
  replace kt_0_0__56 := cell_other kt_0_0__56 Gt_6.out Dt_3_t_0.out
  replace Ot_0 := Lib.hid (own_other Ot_0.out Gt_6.out Dt_3_t_0.out)
  clear Kt_3 Gt_6
  obtain ⟨wb7_7, hwb7_7⟩ : ∃ x, (wt_6).setCell ⟨w.heap.size, 0, none⟩ (.slice At_6_rows t_6_rows.length ct_6_rows) = x := ⟨_, rfl⟩
  have z0b7_7 := Ot_0.out.frozenAt 0
  have Sb7_7 := Lib.hid (own_stores [(0, .slice At_6_rows t_6_rows.length ct_6_rows)] Ot_0.out)
  have Pb7_7 : Hid (wb7_7.ownsRow w.heap.size 26 1 (.slice (some ⟨w.heap.size, 0, none⟩) 1 1) 1 [.slice At_6_rows t_6_rows.length ct_6_rows]) := Lib.hid (by rw [← hwb7_7]; exact Sb7_7.out.1)
  have Gb7_7 : Hid (wt_6.grownBy wb7_7 (Value.slice (some ⟨w.heap.size, 0, none⟩) 1 1).ownBlock) := Lib.hid (by rw [← hwb7_7]; exact Sb7_7.out.2)
  have HBwb7_7 := Lib.hid (HBwt_6.out.grown Gb7_7.out HBwt_6.out.size (fun q hq => (Ot_0.out.lt q hq).1))
  clear Sb7_7
  replace Ot_6_rows := Lib.hid (own_other Ot_6_rows.out Gb7_7.out (Apart.symm Dt_6_rows_t_0.out))
  replace Kt_6 := Lib.hid (Go.Proofs.Ytaepibmmpdfjcaa.GoC.cur_other Kt_6.out Gb7_7.out (Apart.symm Dt_3_t_0.out) (Go.Proofs.Ytaepibmmpdfjcaa.GoC.own_ge Ot_0.out))
  clear Ot_0 Gb7_7
  have kt_0_0__57 : wb7_7.cell? ⟨w.heap.size, 0, none⟩ = some (.slice At_6_rows t_6_rows.length ct_6_rows) := Pb7_7.out.cells rfl 0 _ rfl
  have hR_ := ret_hid H
  simp only [Go.Proofs.Ytaepibmmpdfjcaa.PBlock.Block.mk.injEq] at hR_
  obtain rfl := hR_
  go_wp2_with fail
  (try simp only [Exit.inBlock, Exit.then])
  refine bodyPost_ret (v := .agg #[.slice At_6_rows t_6_rows.length ct_6_rows]) ?hr_ ?hd_ ?_
  case hd_ => rfl
  case hr_ => simp [results, Try.results68, kt_0_0__57, go_sem]
  exact ⟨At_6_rows, ct_6_rows, rfl, Ot_6_rows.out, HBwb7_7.out⟩
end Go.Proofs.Ytaepibmmpdfjcaa.GsDrawIsBlock

/- loop.example/g01062/spec.DrawBlockText as a plain function, and the contract of the program's: where the plain one has an answer, the program has it. Conditions: slices read as lists. -/
namespace Go.Proofs.Ytaepibmmpdfjcaa.GsDrawBlockText
set_option linter.unusedVariables false
set_option linter.unusedSimpArgs false
open Go.RowKit
open Go.Proofs.Ytaepibmmpdfjcaa.Rowed Go.Proofs.Ytaepibmmpdfjcaa.Turn Go.Proofs.Ytaepibmmpdfjcaa.Aid Go.Proofs.Ytaepibmmpdfjcaa.GoP Go.Proofs.Ytaepibmmpdfjcaa.GoM

def P (fuel : Nat) (tapes : List Int → Go.Proofs.Ytaepibmmpdfjcaa.GoC.Tape) (code : (List Int)) : Option (Go.Proofs.Ytaepibmmpdfjcaa.PBlock.Block) :=
  Option.bind (Go.Proofs.Ytaepibmmpdfjcaa.GsDrawIsBlock.P fuel tapes code) fun (t_2 : Go.Proofs.Ytaepibmmpdfjcaa.PBlock.Block) =>
  unBlock t_2 fun (t_2_rows : (List ByteArray)) =>
  some (Go.Proofs.Ytaepibmmpdfjcaa.PBlock.Block.mk t_2_rows)

set_option maxRecDepth 100000 in
set_option maxHeartbeats 2000000 in
theorem C (fuel : Nat) (tapes : List Int → Go.Proofs.Ytaepibmmpdfjcaa.GoC.Tape) (code : (List Int)) (A0 : Option Addr) (c0 : Nat)  (w : World) (HE : Hid (Go.Proofs.Ytaepibmmpdfjcaa.GoC.Tells tapes)) (M0 : Hid (Cells w 1 A0 code.length (Go.Proofs.Ytaepibmmpdfjcaa.GoC.u8s code))) (N0 : Hid (code.length ≤ 9223372036854775807)) (V0 : Hid (∀ z ∈ code, 0 ≤ z ∧ z ≤ 255))  {r_rows : (List ByteArray)} (H : Hid (P fuel tapes code = some (Go.Proofs.Ytaepibmmpdfjcaa.PBlock.Block.mk r_rows))) :
    Calls Try.prog 27 #[.slice A0 code.length c0] w (fun e w' => ∃ A_r_rows c_r_rows, e = .returned (.agg #[.slice A_r_rows r_rows.length c_r_rows]) ∧ w'.ownsRow w.heap.size 9 1 (.slice A_r_rows r_rows.length c_r_rows) r_rows.length (r_rows.map Value.string) ∧ Below w.heap.size w w') := by
  have HB := Lib.hid (Below.refl w.heap.size w)
  unfold P at H
  have N0o := N0.out
  go_enter Try.func27, Try.ntmps27
  obtain ⟨w_t_0, hw_t_0⟩ : ∃ x, w.alloc (.cells #[.slice none 0 0] 26) = x := ⟨_, rfl⟩
  have bw_t_0 : Below w.heap.size w w_t_0 := by rw [← hw_t_0]; exact (Below.refl _ _).alloc (Nat.le_refl _) _
  have HBw_t_0 := Lib.hid (Below.step HB.out bw_t_0)
  clear bw_t_0
  have kt_0_0 : w_t_0.cell? ⟨w.heap.size, 0, none⟩ = some (.slice none 0 0) := by rw [← hw_t_0]; exact box_new _ _ _ 0 _ rfl
  have Ot_0 : Hid (w_t_0.ownsRow w.heap.size 26 1 (.slice (some ⟨w.heap.size, 0, none⟩) 1 1) 1 [.slice none 0 0]) := Lib.hid (by rw [← hw_t_0]; exact own_laid (n := 1) HB.out.size rfl rfl (by unfold maxLen; omega))
  replace H := bind_hid H
  obtain ⟨t_2, qt_2, H⟩ := H
  obtain ⟨t_2_rows⟩ := t_2
  replace H := unBlock_hid H
  go_wp2_with fail
  go_at_call 68
  refine (Go.Proofs.Ytaepibmmpdfjcaa.GsDrawIsBlock.C fuel tapes (code) A0 c0 _  HE (Lib.hid (Cells.below M0.out HBw_t_0.out)) N0 V0 qt_2).mono ?_
  rintro e_t_2 wt_2 ⟨At_2_rows, ct_2_rows, rfl, ot_2_rows, bt_2⟩
  have Dt_2_rows_t_0 := Lib.hid (apart_callbox ot_2_rows kt_0_0)
  have Ot_2_rows := Lib.hid (own_lower ot_2_rows HBw_t_0.out.size)
  clear ot_2_rows
  have HBwt_2 := Lib.hid (Below.step HBw_t_0.out bt_2)
  replace kt_0_0 := cell_below bt_2 kt_0_0
  replace Ot_0 := Lib.hid (own_below Ot_0.out bt_2)
  clear bt_2
  obtain ⟨wb3_3, hwb3_3⟩ : ∃ x, (wt_2).setCell ⟨w.heap.size, 0, none⟩ (.slice At_2_rows t_2_rows.length ct_2_rows) = x := ⟨_, rfl⟩
  have z0b3_3 := Ot_0.out.frozenAt 0
  have Sb3_3 := Lib.hid (own_stores [(0, .slice At_2_rows t_2_rows.length ct_2_rows)] Ot_0.out)
  have Pb3_3 : Hid (wb3_3.ownsRow w.heap.size 26 1 (.slice (some ⟨w.heap.size, 0, none⟩) 1 1) 1 [.slice At_2_rows t_2_rows.length ct_2_rows]) := Lib.hid (by rw [← hwb3_3]; exact Sb3_3.out.1)
  have Gb3_3 : Hid (wt_2.grownBy wb3_3 (Value.slice (some ⟨w.heap.size, 0, none⟩) 1 1).ownBlock) := Lib.hid (by rw [← hwb3_3]; exact Sb3_3.out.2)
  have HBwb3_3 := Lib.hid (HBwt_2.out.grown Gb3_3.out HBwt_2.out.size (fun q hq => (Ot_0.out.lt q hq).1))
  clear Sb3_3
  replace Ot_2_rows := Lib.hid (own_other Ot_2_rows.out Gb3_3.out (Apart.symm Dt_2_rows_t_0.out))
  clear Ot_0 Gb3_3
  have kt_0_0__58 : wb3_3.cell? ⟨w.heap.size, 0, none⟩ = some (.slice At_2_rows t_2_rows.length ct_2_rows) := Pb3_3.out.cells rfl 0 _ rfl
  have hR_ := ret_hid H
  simp only [Go.Proofs.Ytaepibmmpdfjcaa.PBlock.Block.mk.injEq] at hR_
  obtain rfl := hR_
  go_wp2_with fail
  (try simp only [Exit.inBlock, Exit.then])
  refine bodyPost_ret (v := .agg #[.slice At_2_rows t_2_rows.length ct_2_rows]) ?hr_ ?hd_ ?_
  case hd_ => rfl
  case hr_ => simp [results, Try.results27, kt_0_0__58, go_sem]
  exact ⟨At_2_rows, ct_2_rows, rfl, Ot_2_rows.out, HBwb3_3.out⟩
end Go.Proofs.Ytaepibmmpdfjcaa.GsDrawBlockText

/- strings.Join as a plain function; the contract of the program's. Condition: the slice reads as strings. -/
namespace Go.Proofs.Ytaepibmmpdfjcaa.GxStringsJoin
set_option linter.unusedVariables false
open Go.RowKit
open Go.Proofs.Ytaepibmmpdfjcaa.Rowed Go.Proofs.Ytaepibmmpdfjcaa.Turn Go.Proofs.Ytaepibmmpdfjcaa.GoM
def P (l : List ByteArray) (sep : ByteArray) : Option ByteArray :=
  if l.length ≤ 140737488355328 ∧ (Lib.join (l.map (·.data.toList)) sep.data.toList).length ≤ 140737488355328 then some ⟨(Lib.join (l.map (·.data.toList)) sep.data.toList).toArray⟩ else none
theorem C (l : List ByteArray) (sep : ByteArray) (A : Option Addr) (c : Nat) (w : World) (M : Hid (Cells w 1 A l.length (l.map Value.string))) (N : Hid (l.length ≤ 9223372036854775807)) (Q : Hid (Room A l.length c)) {r : ByteArray} (H : Hid (P l sep = some r)) :
    Calls Try.prog 69 #[.slice A l.length c, .string sep] w (Gives (.string r) w) := by
  have h : P l sep = some r := H
  unfold P at h
  by_cases hk : l.length ≤ 140737488355328 ∧ (Lib.join (l.map (·.data.toList)) sep.data.toList).length ≤ 140737488355328
  · rw [if_pos hk] at h
    obtain rfl := Option.some.inj h
    by_cases h0 : l.length = 0
    · obtain rfl : l = [] := List.eq_nil_of_length_eq_zero h0
      refine (Try.strings_Join_none A c sep w).mono ?_
      rintro e w' ⟨rfl, rfl⟩
      exact ⟨rfl, Below.refl _ _⟩
    · obtain ⟨b, o, x, rfl, _, hx⟩ := strs_at M.out (k := 0) (by omega)
      refine (Try.strings_Join b o c l sep w (fun j x hj => ?_) (cell_lt hx) hk.1 Q.out.1 hk.2).mono ?_
      · obtain ⟨b', o', x', e, hj', hx'⟩ := strs_at M.out (k := j) (List.getElem?_eq_some_iff.1 hj).1
        simp only [Option.some.injEq, Addr.mk.injEq] at e
        obtain ⟨rfl, rfl, _⟩ := e
        obtain rfl := Option.some.inj (hj.symm.trans hj')
        exact hx'
      · rintro e w' ⟨rfl, hb⟩
        exact ⟨rfl, hb⟩
  · rw [if_neg hk] at h; simp at h
end Go.Proofs.Ytaepibmmpdfjcaa.GxStringsJoin

/- loop.example/g01062/impl.BlockText as a plain function, and the contract of the program's: where the plain one has an answer, the program has it. Conditions: slices read as lists. -/
namespace Go.Proofs.Ytaepibmmpdfjcaa.GiBlockText
set_option linter.unusedVariables false
set_option linter.unusedSimpArgs false
open Go.RowKit
open Go.Proofs.Ytaepibmmpdfjcaa.Rowed Go.Proofs.Ytaepibmmpdfjcaa.Turn Go.Proofs.Ytaepibmmpdfjcaa.Aid Go.Proofs.Ytaepibmmpdfjcaa.GoP Go.Proofs.Ytaepibmmpdfjcaa.GoM

def P (b_rows : (List ByteArray)) : Option (ByteArray × Bool) :=
  Option.bind (Go.Proofs.Ytaepibmmpdfjcaa.GiIsBlock.P b_rows) fun (t_4 : Bool) =>
  letK (!t_4) fun (t_5 : Bool) =>
  iteK t_5
  (some ((⟨#[]⟩ : ByteArray), false))
  (Option.bind (Go.Proofs.Ytaepibmmpdfjcaa.GxStringsJoin.P b_rows (⟨#[47]⟩ : ByteArray)) fun (t_10 : ByteArray) =>
  some (t_10, true))

set_option maxRecDepth 100000 in
set_option maxHeartbeats 2000000 in
theorem C (b_rows : (List ByteArray)) (A0_0 : Option Addr) (c0_0 : Nat)  (w : World) (M0_0 : Hid (Cells w 1 A0_0 b_rows.length (b_rows.map Value.string))) (N0_0 : Hid (b_rows.length ≤ 9223372036854775807)) (Q0_0 : Hid (Room A0_0 b_rows.length c0_0))  {r0 : ByteArray} {r1 : Bool} (H : Hid (P b_rows = some (r0, r1))) :
    Calls Try.prog 28 #[.agg #[.slice A0_0 b_rows.length c0_0]] w (Gives (.tuple #[.string r0, .bool r1]) w) := by
  have HB := Lib.hid (Below.refl w.heap.size w)
  unfold P at H
  have N0_0o := N0_0.out
  go_enter Try.func28, Try.ntmps28
  obtain ⟨w_b_0, hw_b_0⟩ : ∃ x, w.alloc (.cells #[.slice A0_0 b_rows.length c0_0] 26) = x := ⟨_, rfl⟩
  have bw_b_0 : Below w.heap.size w w_b_0 := by rw [← hw_b_0]; exact (Below.refl _ _).alloc (Nat.le_refl _) _
  have HBw_b_0 := Lib.hid (Below.step HB.out bw_b_0)
  clear bw_b_0
  have kb_0_0 : w_b_0.cell? ⟨w.heap.size, 0, none⟩ = some (.slice A0_0 b_rows.length c0_0) := by rw [← hw_b_0]; exact box_new _ _ _ 0 _ rfl
  replace H := bind_hid H
  obtain ⟨t_4, qt_4, H⟩ := H
  go_wp2_with fail
  go_at_call 16
  refine (Go.Proofs.Ytaepibmmpdfjcaa.GiIsBlock.C (b_rows) A0_0 c0_0 _   (Lib.hid (Cells.below M0_0.out HBw_b_0.out)) N0_0 qt_4).mono ?_
  rintro e_t_4 wt_4 ⟨rfl, bt_4⟩
  have HBwt_4 := Lib.hid (Below.step HBw_b_0.out bt_4)
  replace kb_0_0 := cell_below bt_4 kb_0_0
  clear bt_4
  cases t_4 with
  | false =>
    replace H := let_hid H
    obtain ⟨t_5, ht_5, H⟩ := H
    obtain rfl : t_5 = true := ht_5.symm
    replace H := ite_t H
    cases ret_hid H
    go_wp2_with fail
    go_ret2
    exact ⟨rfl, HBwt_4.out⟩
  | true =>
    replace H := let_hid H
    obtain ⟨t_5, ht_5, H⟩ := H
    obtain rfl : t_5 = false := ht_5.symm
    replace H := ite_f H
    replace H := bind_hid H
    obtain ⟨t_10, qt_10, H⟩ := H
    go_wp2_with fail
    go_at_call 69
    refine (Go.Proofs.Ytaepibmmpdfjcaa.GxStringsJoin.C (b_rows) ((⟨#[47]⟩ : ByteArray)) A0_0 c0_0 _   (Lib.hid (Cells.below M0_0.out HBwt_4.out)) N0_0 Q0_0 qt_10).mono ?_
    rintro e_t_10 wt_10 ⟨rfl, bt_10⟩
    have HBwt_10 := Lib.hid (Below.step HBwt_4.out bt_10)
    replace kb_0_0 := cell_below bt_10 kb_0_0
    clear bt_10
    cases ret_hid H
    go_wp2_with fail
    go_ret2
    exact ⟨rfl, HBwt_10.out⟩
end Go.Proofs.Ytaepibmmpdfjcaa.GiBlockText

/- loop.example/g01062/spec.BlockText as a plain function, and the contract of the program's: where the plain one has an answer, the program has it. Conditions: slices read as lists. -/
namespace Go.Proofs.Ytaepibmmpdfjcaa.GsBlockText
set_option linter.unusedVariables false
set_option linter.unusedSimpArgs false
open Go.RowKit
open Go.Proofs.Ytaepibmmpdfjcaa.Rowed Go.Proofs.Ytaepibmmpdfjcaa.Turn Go.Proofs.Ytaepibmmpdfjcaa.Aid Go.Proofs.Ytaepibmmpdfjcaa.GoP Go.Proofs.Ytaepibmmpdfjcaa.GoM

def j0 (b_rows : (List ByteArray)) (nx0 : (ByteArray × Int) → Option (ByteArray × Bool)) (i_5l0 : Int) (s : ByteArray) : Option (ByteArray × Bool) :=
  Option.bind (idx b_rows i_5l0) fun (yt_24 : ByteArray) =>
  guardK (s.size + yt_24.size ≤ maxLen) <|
  letK (s ++ yt_24) fun (t_26 : ByteArray) =>
  letK (IntKind.i64.wrap (i_5l0 + 1)) fun (t_29 : Int) =>
  appK nx0 (t_26, t_29)

def l0 (b_rows : (List ByteArray)) (s : ByteArray × Int) (nx0 bk0 : ByteArray × Int → Option (ByteArray × Bool)) : Option (ByteArray × Bool) :=
  unp2 s fun s_4l0 i_5l0 =>
  letK (decide (i_5l0 < (b_rows.length : Int))) fun (t_14 : Bool) =>
  iteK t_14
  (letK (decide (0 < i_5l0)) fun (t_16 : Bool) =>
  iteK t_16
  (guardK (s_4l0.size + (⟨#[47]⟩ : ByteArray).size ≤ maxLen) <|
  letK (s_4l0 ++ (⟨#[47]⟩ : ByteArray)) fun (t_18 : ByteArray) =>
  j0 b_rows nx0 i_5l0 (t_18))
  (j0 b_rows nx0 i_5l0 (s_4l0)))
  (appK bk0 (s_4l0, i_5l0))

def e0  (s : ByteArray × Int) : Option (ByteArray × Bool) :=
  unp2 s fun s_4l0 i_5l0 =>
  some (s_4l0, true)

def P (fuel : Nat) (b_rows : (List ByteArray)) : Option (ByteArray × Bool) :=
  Option.bind (Go.Proofs.Ytaepibmmpdfjcaa.GsIsBlock.P fuel b_rows) fun (t_4 : Bool) =>
  letK (!t_4) fun (t_5 : Bool) =>
  iteK t_5
  (some ((⟨#[]⟩ : ByteArray), false))
  (loopK (l0 b_rows) fuel ((⟨#[]⟩ : ByteArray), 0) (e0 ))

set_option maxRecDepth 100000 in
set_option maxHeartbeats 2000000 in
theorem C (fuel : Nat) (b_rows : (List ByteArray)) (A0_0 : Option Addr) (c0_0 : Nat)  (w : World) (M0_0 : Hid (Cells w 1 A0_0 b_rows.length (b_rows.map Value.string))) (N0_0 : Hid (b_rows.length ≤ 9223372036854775807))  {r0 : ByteArray} {r1 : Bool} (H : Hid (P fuel b_rows = some (r0, r1))) :
    Calls Try.prog 29 #[.agg #[.slice A0_0 b_rows.length c0_0]] w (Gives (.tuple #[.string r0, .bool r1]) w) := by
  have HB := Lib.hid (Below.refl w.heap.size w)
  unfold P at H
  have N0_0o := N0_0.out
  go_enter Try.func29, Try.ntmps29
  obtain ⟨w_b_0, hw_b_0⟩ : ∃ x, w.alloc (.cells #[.slice A0_0 b_rows.length c0_0] 26) = x := ⟨_, rfl⟩
  have bw_b_0 : Below w.heap.size w w_b_0 := by rw [← hw_b_0]; exact (Below.refl _ _).alloc (Nat.le_refl _) _
  have HBw_b_0 := Lib.hid (Below.step HB.out bw_b_0)
  clear bw_b_0
  have kb_0_0 : w_b_0.cell? ⟨w.heap.size, 0, none⟩ = some (.slice A0_0 b_rows.length c0_0) := by rw [← hw_b_0]; exact box_new _ _ _ 0 _ rfl
  replace H := bind_hid H
  obtain ⟨t_4, qt_4, H⟩ := H
  go_wp2_with fail
  go_at_call 53
  refine (Go.Proofs.Ytaepibmmpdfjcaa.GsIsBlock.C fuel (b_rows) A0_0 c0_0 _   (Lib.hid (Cells.below M0_0.out HBw_b_0.out)) N0_0 qt_4).mono ?_
  rintro e_t_4 wt_4 ⟨rfl, bt_4⟩
  have HBwt_4 := Lib.hid (Below.step HBw_b_0.out bt_4)
  replace kb_0_0 := cell_below bt_4 kb_0_0
  clear bt_4
  cases t_4 with
  | false =>
    replace H := let_hid H
    obtain ⟨t_5, ht_5, H⟩ := H
    obtain rfl : t_5 = true := ht_5.symm
    replace H := ite_t H
    cases ret_hid H
    go_wp2_with fail
    go_ret2
    exact ⟨rfl, HBwt_4.out⟩
  | true =>
    replace H := let_hid H
    obtain ⟨t_5, ht_5, H⟩ := H
    obtain rfl : t_5 = false := ht_5.symm
    replace H := ite_f H
    go_wp2_with fail
    go_loopg [4, 5] (fuel) (fun m_ v4_ v5_ wr => ∃ (s_4l0 : ByteArray) (i_5l0 : Int), v4_ = .string s_4l0 ∧ v5_ = .int .i64 i_5l0 ∧ Hid (loopK (l0 b_rows) m_ (s_4l0, i_5l0) (e0 ) = some (r0, r1)) ∧ Hid (Below w.heap.size w wr) ∧ wr.cell? ⟨w.heap.size, 0, none⟩ = some (.slice A0_0 b_rows.length c0_0))
    case atStart => exact ⟨_, _, rfl, rfl, H, HBwt_4, kb_0_0⟩
    case round =>
      obtain ⟨s_4l0, i_5l0, rfl, rfl, H, HBwr0, kb_0_0⟩ := hrel
      rename World => wr0
      cases gk with
      | zero => exact (loop_zero H).elim
      | succ m0 =>
        replace H := loop_succ H
        unfold l0 at H
        replace H := unp2_hid H
        replace H := let_hid H
        obtain ⟨t_14, ht_14, H⟩ := H
        cases t_14 with
        | false =>
          replace H := ite_f H
          replace H := app_hid H
          unfold e0 at H
          replace H := unp2_hid H
          cases ret_hid H
          go_wp2_with fail
          go_ret2
          exact ⟨rfl, HBwr0.out⟩
        | true =>
          replace H := ite_t H
          replace H := let_hid H
          obtain ⟨t_16, ht_16, H⟩ := H
          cases t_16 with
          | false =>
            replace H := ite_f H
            unfold j0 at H
            replace H := idx_hid H
            obtain ⟨nt_24, yt_24, et_24, lt_24, gt_24, H⟩ := H
            subst et_24
            have nc_59 : nt_24 < b_rows.length := by have := of_decide_eq_true ht_14; omega
            have nc_60 : ¬ (0 < nt_24) := by have := of_decide_eq_false ht_16; omega
            obtain ⟨ab_t_24, ao_t_24, zt_24, At_24, z_t_24, ct_24_0⟩ := strs_at M0_0.out lt_24
            obtain rfl := Option.some.inj (gt_24.out.symm.trans z_t_24)
            subst At_24
            have ltt_24 := cell_lt ct_24_0
            replace ct_24_0 := cell_below HBwr0.out ct_24_0
            clear z_t_24
            have b0t_24 : (0 : Int) ≤ (nt_24 : Int) := by omega
            have b1t_24 : (nt_24 : Int) < ((b_rows.length : Nat) : Int) := by omega
            have b2t_24 : ((nt_24 : Int)).toNat = nt_24 := by omega
            replace H := guard_hid H
            obtain ⟨hl_t_26, H⟩ := H
            replace H := let_hid H
            obtain ⟨t_26, ht_26, H⟩ := H
            have ct_26 := cat_rule (P := Try.prog) ht_26 hl_t_26
            clear hl_t_26
            have hht_26 := Lib.hid ht_26
            clear ht_26
            replace H := let_hid H
            obtain ⟨t_29, ht_29, H⟩ := H
            replace H := app_hid H
            go_wp2_with fail
            go_roundg m0
            case measure => omega
            case rel => exact ⟨_, _, rfl, rfl, H, HBwr0, kb_0_0⟩
          | true =>
            replace H := ite_t H
            replace H := guard_hid H
            obtain ⟨hl_t_18, H⟩ := H
            replace H := let_hid H
            obtain ⟨t_18, ht_18, H⟩ := H
            have ct_18 := cat_rule (P := Try.prog) ht_18 hl_t_18
            clear hl_t_18
            have hht_18 := Lib.hid ht_18
            clear ht_18
            unfold j0 at H
            replace H := idx_hid H
            obtain ⟨nt_24, yt_24, et_24, lt_24, gt_24, H⟩ := H
            subst et_24
            have nc_61 : nt_24 < b_rows.length := by have := of_decide_eq_true ht_14; omega
            have nc_62 : 0 < nt_24 := by have := of_decide_eq_true ht_16; omega
            obtain ⟨ab_t_24, ao_t_24, zt_24, At_24, z_t_24, ct_24_0⟩ := strs_at M0_0.out lt_24
            obtain rfl := Option.some.inj (gt_24.out.symm.trans z_t_24)
            subst At_24
            have ltt_24 := cell_lt ct_24_0
            replace ct_24_0 := cell_below HBwr0.out ct_24_0
            clear z_t_24
            have b0t_24 : (0 : Int) ≤ (nt_24 : Int) := by omega
            have b1t_24 : (nt_24 : Int) < ((b_rows.length : Nat) : Int) := by omega
            have b2t_24 : ((nt_24 : Int)).toNat = nt_24 := by omega
            replace H := guard_hid H
            obtain ⟨hl_t_26, H⟩ := H
            replace H := let_hid H
            obtain ⟨t_26, ht_26, H⟩ := H
            have ct_26 := cat_rule (P := Try.prog) ht_26 hl_t_26
            clear hl_t_26
            have hht_26 := Lib.hid ht_26
            clear ht_26
            replace H := let_hid H
            obtain ⟨t_29, ht_29, H⟩ := H
            replace H := app_hid H
            go_wp2_with fail
            go_roundg m0
            case measure => omega
            case rel => exact ⟨_, _, rfl, rfl, H, HBwr0, kb_0_0⟩
end Go.Proofs.Ytaepibmmpdfjcaa.GsBlockText

