/- Texts on which the proofs of several laws stand, one behind the other (10 of 13). No condition of their own. -/
import Derived.Test.YtgimcnpkngpmiaaGreatDoorChecked
import Derived.Test.YtgimcnpkngpmiaaGreatDoorX12P1
import Derived.Test.YtgimcnpkngpmiaaGreatDoorX12P2
import Derived.Test.YtgimcnpkngpmiaaGreatDoorX12P3
import Derived.WalkKit
import Derived.WalkSpells
import Derived.WalkLawsBesides
import Derived.BigQuiet
import Derived.OwnWalk
import Derived.Deep.LoopGhost
import Derived.Deep.QuietTactic
import Derived.IntWalk
import Derived.Lib.QuietBelow
import Derived.Lib.ConvBytes
import Derived.Laws.BytesString
import Derived.Laws.IdiomStrings
import Derived.Laws.BytesArg
import Derived.Test.YtgimcnpkngpmiaaGreatDoorX12P4
import Derived.Lib.ItoaMem
import Derived.Lib.Hide
import Derived.Lib.ItoaLen
import Derived.Outline
import Derived.WalkSmall
import Derived.Test.YtgimcnpkngpmiaaGreatDoorX12P6
/- loop.example/g01062/spec.DrawIsPostmark as a plain function, and the contract of the program's: where the plain one has an answer, the program has it. Conditions: slices read as lists. -/
namespace Go.Proofs.YtgimcnpkngpmiaaGreatDoor.GsDrawIsPostmark
set_option linter.unusedVariables false
set_option linter.unusedSimpArgs false
open Go.RowKit
open Go.Proofs.YtgimcnpkngpmiaaGreatDoor.Rowed Go.Proofs.YtgimcnpkngpmiaaGreatDoor.Turn Go.Proofs.YtgimcnpkngpmiaaGreatDoor.Aid Go.Proofs.YtgimcnpkngpmiaaGreatDoor.GoP Go.Proofs.YtgimcnpkngpmiaaGreatDoor.GoM

def P (fuel : Nat) (tapes : List Int → Go.Proofs.YtgimcnpkngpmiaaGreatDoor.GoC.Tape) (code : (List Int)) : Option (Go.Proofs.YtgimcnpkngpmiaaGreatDoor.PPostmark.Postmark) :=
  letK (tapes code) fun (t_3 : Go.Proofs.YtgimcnpkngpmiaaGreatDoor.GoC.Tape) =>
  letK ([1, 42, 999]) fun (t_7 : (List Int)) =>
  bind2 (Go.Proofs.YtgimcnpkngpmiaaGreatDoor.GsL1CurAmong.P t_3 t_7) fun (t_8 : Int) (t_8_tp : Go.Proofs.YtgimcnpkngpmiaaGreatDoor.GoC.Tape) =>
  bind2 (Go.Proofs.YtgimcnpkngpmiaaGreatDoor.GsL1CurPostmark11.P fuel t_8_tp t_8) fun (t_9 : Go.Proofs.YtgimcnpkngpmiaaGreatDoor.PPostmark.Postmark) (t_9_tp : Go.Proofs.YtgimcnpkngpmiaaGreatDoor.GoC.Tape) =>
  unPostmark t_9 fun (t_9_id : Int) (t_9_town : ByteArray) (t_9_kind_ : Int) (t_9_first : Int) (t_9_last : Int) (t_9_lost : ByteArray) =>
  some (Go.Proofs.YtgimcnpkngpmiaaGreatDoor.PPostmark.Postmark.mk t_9_id t_9_town t_9_kind_ t_9_first t_9_last t_9_lost)

set_option maxRecDepth 100000 in
set_option maxHeartbeats 2000000 in
theorem C (fuel : Nat) (tapes : List Int → Go.Proofs.YtgimcnpkngpmiaaGreatDoor.GoC.Tape) (code : (List Int)) (A0 : Option Addr) (c0 : Nat)  (w : World) (HE : Hid (Go.Proofs.YtgimcnpkngpmiaaGreatDoor.GoC.Tells tapes)) (M0 : Hid (Cells w 1 A0 code.length (Go.Proofs.YtgimcnpkngpmiaaGreatDoor.GoC.u8s code))) (N0 : Hid (code.length ≤ 9223372036854775807)) (V0 : Hid (∀ z ∈ code, 0 ≤ z ∧ z ≤ 255))  {r : Go.Proofs.YtgimcnpkngpmiaaGreatDoor.PPostmark.Postmark} (H : Hid (P fuel tapes code = some r)) :
    Calls Tryz.prog 45 #[.slice A0 code.length c0] w (Gives ((Go.Proofs.YtgimcnpkngpmiaaGreatDoor.PPostmark.Postmark.val r)) w) := by
  have HB := Lib.hid (Below.refl w.heap.size w)
  unfold P at H
  have N0o := N0.out
  go_enter Tryz.func45, Tryz.ntmps45
  obtain ⟨w_t_0, hw_t_0⟩ : ∃ x, w.alloc (.cells #[.int .i64 0, .string (⟨#[]⟩ : ByteArray), .int .i64 0, .int .i64 0, .int .i64 0, .string (⟨#[]⟩ : ByteArray)] 34) = x := ⟨_, rfl⟩
  have bw_t_0 : Below w.heap.size w w_t_0 := by rw [← hw_t_0]; exact (Below.refl _ _).alloc (Nat.le_refl _) _
  have HBw_t_0 := Lib.hid (Below.step HB.out bw_t_0)
  clear bw_t_0
  have kt_0_0 : w_t_0.cell? ⟨w.heap.size, 0, none⟩ = some (.int .i64 0) := by rw [← hw_t_0]; exact box_new _ _ _ 0 _ rfl
  have kt_0_1 : w_t_0.cell? ⟨w.heap.size, 1, none⟩ = some (.string (⟨#[]⟩ : ByteArray)) := by rw [← hw_t_0]; exact box_new _ _ _ 1 _ rfl
  have kt_0_2 : w_t_0.cell? ⟨w.heap.size, 2, none⟩ = some (.int .i64 0) := by rw [← hw_t_0]; exact box_new _ _ _ 2 _ rfl
  have kt_0_3 : w_t_0.cell? ⟨w.heap.size, 3, none⟩ = some (.int .i64 0) := by rw [← hw_t_0]; exact box_new _ _ _ 3 _ rfl
  have kt_0_4 : w_t_0.cell? ⟨w.heap.size, 4, none⟩ = some (.int .i64 0) := by rw [← hw_t_0]; exact box_new _ _ _ 4 _ rfl
  have kt_0_5 : w_t_0.cell? ⟨w.heap.size, 5, none⟩ = some (.string (⟨#[]⟩ : ByteArray)) := by rw [← hw_t_0]; exact box_new _ _ _ 5 _ rfl
  have Ot_0 : Hid (w_t_0.ownsRow w.heap.size 34 6 (.slice (some ⟨w.heap.size, 0, none⟩) 1 1) 1 [.int .i64 0, .string (⟨#[]⟩ : ByteArray), .int .i64 0, .int .i64 0, .int .i64 0, .string (⟨#[]⟩ : ByteArray)]) := Lib.hid (by rw [← hw_t_0]; exact own_laid (n := 1) HB.out.size rfl rfl (by unfold maxLen; omega))
  replace H := let_hid H
  obtain ⟨t_3, ht_3, H⟩ := H
  obtain ⟨w_t_3, hw_t_3⟩ : ∃ x, w_t_0.alloc (.cells #[.slice A0 code.length c0, .int .i64 0, .int .u64 0] 49) = x := ⟨_, rfl⟩
  have bw_t_3 : Below w_t_0.heap.size w_t_0 w_t_3 := by rw [← hw_t_3]; exact (Below.refl _ _).alloc (Nat.le_refl _) _
  have Kt_3 : Hid (Go.Proofs.YtgimcnpkngpmiaaGreatDoor.GoC.CurIs w_t_3 w.heap.size w_t_0.heap.size A0 c0 t_3) := Lib.hid (by rw [← hw_t_3, ← ht_3]; exact Go.Proofs.YtgimcnpkngpmiaaGreatDoor.GoC.cur_new HBw_t_0.out.size (Cells.below M0.out HBw_t_0.out) (fun a_ ha_ h0_ => by subst ha_; exact Go.Proofs.YtgimcnpkngpmiaaGreatDoor.GoC.cells_lt M0.out (by unfold Go.Proofs.YtgimcnpkngpmiaaGreatDoor.GoC.u8s; rw [List.length_map]; exact h0_)) (HE.out.2.2 code V0.out N0.out))
  have hht_3 := Lib.hid ht_3
  clear ht_3
  have Dt_3_t_0 := Lib.hid (apart_box kt_0_0)
  have HBw_t_3 := Lib.hid (Below.step HBw_t_0.out bw_t_3)
  have kt_0_0__563 := cell_below bw_t_3 kt_0_0
  have kt_0_1__564 := cell_below bw_t_3 kt_0_1
  have kt_0_2__565 := cell_below bw_t_3 kt_0_2
  have kt_0_3__566 := cell_below bw_t_3 kt_0_3
  have kt_0_4__567 := cell_below bw_t_3 kt_0_4
  have kt_0_5__568 := cell_below bw_t_3 kt_0_5
  replace Ot_0 := Lib.hid (own_below Ot_0.out bw_t_3)
  clear bw_t_3
  replace H := let_hid H
  obtain ⟨t_7, ht_7, H⟩ := H
  obtain ⟨w_t_7, hw_t_7⟩ : ∃ x, w_t_3.alloc (.cells #[.int .i64 1, .int .i64 42, .int .i64 999] 3) = x := ⟨_, rfl⟩
  have bw_t_7 : Below w_t_3.heap.size w_t_3 w_t_7 := by rw [← hw_t_7]; exact (Below.refl _ _).alloc (Nat.le_refl _) _
  have hs_t_7 := HBw_t_3.out.size
  have nt_7 : t_7.length = 3 := by rw [← ht_7]; rfl
  have Ot_7 : Hid (w_t_7.ownsRow w.heap.size 3 1 (.slice (some ⟨w_t_3.heap.size, 0, none⟩) 3 3) 3 (Go.Proofs.YtgimcnpkngpmiaaGreatDoor.HelpInt.iv t_7)) := by
    rw [← hw_t_7, ← ht_7]
    have e_ : ([.int .i64 1, .int .i64 42, .int .i64 999] : List Value) = (Go.Proofs.YtgimcnpkngpmiaaGreatDoor.HelpInt.iv ([1, 42, 999] : List Int)) := rfl
    exact Lib.hid (own_laid (n := 3) hs_t_7 e_ rfl (by unfold maxLen; omega))
  clear hs_t_7
  have hht_7 := Lib.hid ht_7
  clear ht_7
  replace nt_7 := Lib.hid nt_7
  have Dt_7_t_3 := Lib.hid (Go.Proofs.YtgimcnpkngpmiaaGreatDoor.GoC.apart_cur Kt_3.out)
  have Dt_7_t_0 := Lib.hid (apart_box kt_0_0__563)
  have HBw_t_7 := Lib.hid (Below.step HBw_t_3.out bw_t_7)
  have kt_0_0__569 := cell_below bw_t_7 kt_0_0__563
  have kt_0_1__570 := cell_below bw_t_7 kt_0_1__564
  have kt_0_2__571 := cell_below bw_t_7 kt_0_2__565
  have kt_0_3__572 := cell_below bw_t_7 kt_0_3__566
  have kt_0_4__573 := cell_below bw_t_7 kt_0_4__567
  have kt_0_5__574 := cell_below bw_t_7 kt_0_5__568
  replace Kt_3 := Lib.hid (Go.Proofs.YtgimcnpkngpmiaaGreatDoor.GoC.cur_below Kt_3.out bw_t_7)
  replace Ot_0 := Lib.hid (own_below Ot_0.out bw_t_7)
  clear bw_t_7
  replace H := bind2_hid H
  obtain ⟨t_8, t_8_tp, qt_8, H⟩ := H
  go_wp2_with fail
  clear kt_0_0 kt_0_1 kt_0_2 kt_0_3 kt_0_4 kt_0_5 kt_0_0__563 kt_0_1__564 kt_0_2__565 kt_0_3__566 kt_0_4__567 kt_0_5__568
  have hc_ := nt_7.out
  have hv_ : (Value.slice (some ⟨w_t_3.heap.size, 0, none⟩) 3 3 : Value) = Value.slice (some ⟨w_t_3.heap.size, 0, none⟩) t_7.length 3 := by rw [hc_]
  try rw [hv_]
  replace Ot_7 := Lib.hid (own_len hc_ Ot_7.out)
  clear hc_ hv_
  go_wp2_with fail
  go_at_call 55
  refine (Go.Proofs.YtgimcnpkngpmiaaGreatDoor.GsL1CurAmong.C (t_3) (t_7) (some ⟨w_t_3.heap.size, 0, none⟩) 3 (w_t_0.heap.size) (A0) (c0) (w.heap.size) _   (Lib.hid (own_cells Ot_7.out)) (Lib.hid (own_max Ot_7.out)) Kt_3 (Lib.hid (fun _ => Dt_7_t_3.out)) qt_8).mono ?_
  rintro e_t_8 wt_8 ⟨rfl, kt_8, gt_8⟩
  have Kt_8 := Lib.hid kt_8
  have Gt_8 : Hid (w_t_7.grownBy wt_8 (Value.slice (some ⟨w_t_0.heap.size, 0, none⟩) 1 1).ownBlock) := Lib.hid gt_8
  clear kt_8 gt_8
  have HBwt_8 := Lib.hid (Go.Proofs.YtgimcnpkngpmiaaGreatDoor.GoC.below_cur HBw_t_7.out Gt_8.out HBw_t_7.out.size (Go.Proofs.YtgimcnpkngpmiaaGreatDoor.GoC.cur_lt Kt_3.out).1)
  replace kt_0_0__569 := cell_other kt_0_0__569 Gt_8.out Dt_3_t_0.out
  replace kt_0_1__570 := cell_other kt_0_1__570 Gt_8.out Dt_3_t_0.out
  replace kt_0_2__571 := cell_other kt_0_2__571 Gt_8.out Dt_3_t_0.out
  replace kt_0_3__572 := cell_other kt_0_3__572 Gt_8.out Dt_3_t_0.out
  replace kt_0_4__573 := cell_other kt_0_4__573 Gt_8.out Dt_3_t_0.out
  replace kt_0_5__574 := cell_other kt_0_5__574 Gt_8.out Dt_3_t_0.out
  replace Ot_0 := Lib.hid (own_other Ot_0.out Gt_8.out Dt_3_t_0.out)
  replace Ot_7 := Lib.hid (own_other Ot_7.out Gt_8.out (Apart.symm Dt_7_t_3.out))
  clear Kt_3 Gt_8
  replace H := bind2_hid H
  obtain ⟨t_9, t_9_tp, qt_9, H⟩ := H
  obtain ⟨t_9_id, t_9_town, t_9_kind_, t_9_first, t_9_last, t_9_lost⟩ := t_9
  replace H := unPostmark_hid H
  go_wp2_with fail
  go_at_call 53
  refine (Go.Proofs.YtgimcnpkngpmiaaGreatDoor.GsL1CurPostmark11.C fuel (t_8_tp) (t_8) (w_t_0.heap.size) (A0) (c0) (w.heap.size) _   Kt_8 qt_9).mono ?_
  rintro e_t_9 wt_9 ⟨rfl, kt_9, gt_9⟩
  unfold Go.Proofs.YtgimcnpkngpmiaaGreatDoor.PPostmark.Postmark.val
  have Kt_9 := Lib.hid kt_9
  have Gt_9 : Hid (wt_8.grownBy wt_9 (Value.slice (some ⟨w_t_0.heap.size, 0, none⟩) 1 1).ownBlock) := Lib.hid gt_9
  clear kt_9 gt_9
  have HBwt_9 := Lib.hid (Go.Proofs.YtgimcnpkngpmiaaGreatDoor.GoC.below_cur HBwt_8.out Gt_9.out HBwt_8.out.size (Go.Proofs.YtgimcnpkngpmiaaGreatDoor.GoC.cur_lt Kt_8.out).1)
  replace kt_0_0__569 := cell_other kt_0_0__569 Gt_9.out Dt_3_t_0.out
  replace kt_0_1__570 := cell_other kt_0_1__570 Gt_9.out Dt_3_t_0.out
  replace kt_0_2__571 := cell_other kt_0_2__571 Gt_9.out Dt_3_t_0.out
  replace kt_0_3__572 := cell_other kt_0_3__572 Gt_9.out Dt_3_t_0.out
  replace kt_0_4__573 := cell_other kt_0_4__573 Gt_9.out Dt_3_t_0.out
  replace kt_0_5__574 := cell_other kt_0_5__574 Gt_9.out Dt_3_t_0.out
  replace Ot_0 := Lib.hid (own_other Ot_0.out Gt_9.out Dt_3_t_0.out)
  replace Ot_7 := Lib.hid (own_other Ot_7.out Gt_9.out (Apart.symm Dt_7_t_3.out))
  clear Kt_8 Gt_9
  obtain ⟨wb10_10, hwb10_10⟩ : ∃ x, ((((((wt_9).setCell ⟨w.heap.size, 0, none⟩ (.int .i64 t_9_id)).setCell ⟨w.heap.size, 1, none⟩ (.string t_9_town)).setCell ⟨w.heap.size, 2, none⟩ (.int .i64 t_9_kind_)).setCell ⟨w.heap.size, 3, none⟩ (.int .i64 t_9_first)).setCell ⟨w.heap.size, 4, none⟩ (.int .i64 t_9_last)).setCell ⟨w.heap.size, 5, none⟩ (.string t_9_lost) = x := ⟨_, rfl⟩
  have z0b10_10 := Ot_0.out.frozenAt 0
  have z1b10_10 := Ot_0.out.frozenAt 1
  have z2b10_10 := Ot_0.out.frozenAt 2
  have z3b10_10 := Ot_0.out.frozenAt 3
  have z4b10_10 := Ot_0.out.frozenAt 4
  have z5b10_10 := Ot_0.out.frozenAt 5
  have Sb10_10 := Lib.hid (own_stores [(0, .int .i64 t_9_id), (1, .string t_9_town), (2, .int .i64 t_9_kind_), (3, .int .i64 t_9_first), (4, .int .i64 t_9_last), (5, .string t_9_lost)] Ot_0.out)
  have Pb10_10 : Hid (wb10_10.ownsRow w.heap.size 34 6 (.slice (some ⟨w.heap.size, 0, none⟩) 1 1) 1 [.int .i64 t_9_id, .string t_9_town, .int .i64 t_9_kind_, .int .i64 t_9_first, .int .i64 t_9_last, .string t_9_lost]) := Lib.hid (by rw [← hwb10_10]; exact Sb10_10.out.1)
  have Gb10_10 : Hid (wt_9.grownBy wb10_10 (Value.slice (some ⟨w.heap.size, 0, none⟩) 1 1).ownBlock) := Lib.hid (by rw [← hwb10_10]; exact Sb10_10.out.2)
  have HBwb10_10 := Lib.hid (HBwt_9.out.grown Gb10_10.out HBwt_9.out.size (fun q hq => (Ot_0.out.lt q hq).1))
  clear Sb10_10
  replace Ot_7 := Lib.hid (own_other Ot_7.out Gb10_10.out (Apart.symm Dt_7_t_0.out))
  replace Kt_9 := Lib.hid (Go.Proofs.YtgimcnpkngpmiaaGreatDoor.GoC.cur_other Kt_9.out Gb10_10.out (Apart.symm Dt_3_t_0.out) (Go.Proofs.YtgimcnpkngpmiaaGreatDoor.GoC.own_ge Ot_0.out))
  clear Ot_0 Gb10_10
  have kt_0_0__575 : wb10_10.cell? ⟨w.heap.size, 0, none⟩ = some (.int .i64 t_9_id) := Pb10_10.out.cells rfl 0 _ rfl
  have kt_0_1__576 : wb10_10.cell? ⟨w.heap.size, 1, none⟩ = some (.string t_9_town) := Pb10_10.out.cells rfl 1 _ rfl
  have kt_0_2__577 : wb10_10.cell? ⟨w.heap.size, 2, none⟩ = some (.int .i64 t_9_kind_) := Pb10_10.out.cells rfl 2 _ rfl
  have kt_0_3__578 : wb10_10.cell? ⟨w.heap.size, 3, none⟩ = some (.int .i64 t_9_first) := Pb10_10.out.cells rfl 3 _ rfl
  have kt_0_4__579 : wb10_10.cell? ⟨w.heap.size, 4, none⟩ = some (.int .i64 t_9_last) := Pb10_10.out.cells rfl 4 _ rfl
  have kt_0_5__580 : wb10_10.cell? ⟨w.heap.size, 5, none⟩ = some (.string t_9_lost) := Pb10_10.out.cells rfl 5 _ rfl
  cases ret_hid H
  go_wp2_with fail
  (try simp only [Exit.inBlock, Exit.then])
  refine bodyPost_ret (v := .agg #[.int .i64 t_9_id, .string t_9_town, .int .i64 t_9_kind_, .int .i64 t_9_first, .int .i64 t_9_last, .string t_9_lost]) ?hr_ ?hd_ ?_
  case hd_ => rfl
  case hr_ => simp [results, Tryz.results45, kt_0_0__575, kt_0_1__576, kt_0_2__577, kt_0_3__578, kt_0_4__579, kt_0_5__580, go_sem]
  exact ⟨rfl, HBwb10_10.out⟩
end Go.Proofs.YtgimcnpkngpmiaaGreatDoor.GsDrawIsPostmark

/- loop.example/g01062/spec.DrawPostmarkText as a plain function, and the contract of the program's: where the plain one has an answer, the program has it. Conditions: slices read as lists. -/
namespace Go.Proofs.YtgimcnpkngpmiaaGreatDoor.GsDrawPostmarkText
set_option linter.unusedVariables false
set_option linter.unusedSimpArgs false
open Go.RowKit
open Go.Proofs.YtgimcnpkngpmiaaGreatDoor.Rowed Go.Proofs.YtgimcnpkngpmiaaGreatDoor.Turn Go.Proofs.YtgimcnpkngpmiaaGreatDoor.Aid Go.Proofs.YtgimcnpkngpmiaaGreatDoor.GoP Go.Proofs.YtgimcnpkngpmiaaGreatDoor.GoM

def P (fuel : Nat) (tapes : List Int → Go.Proofs.YtgimcnpkngpmiaaGreatDoor.GoC.Tape) (code : (List Int)) : Option (Go.Proofs.YtgimcnpkngpmiaaGreatDoor.PPostmark.Postmark) :=
  Option.bind (Go.Proofs.YtgimcnpkngpmiaaGreatDoor.GsDrawIsPostmark.P fuel tapes code) fun (t_2 : Go.Proofs.YtgimcnpkngpmiaaGreatDoor.PPostmark.Postmark) =>
  unPostmark t_2 fun (t_2_id : Int) (t_2_town : ByteArray) (t_2_kind_ : Int) (t_2_first : Int) (t_2_last : Int) (t_2_lost : ByteArray) =>
  some (Go.Proofs.YtgimcnpkngpmiaaGreatDoor.PPostmark.Postmark.mk t_2_id t_2_town t_2_kind_ t_2_first t_2_last t_2_lost)

set_option maxRecDepth 100000 in
set_option maxHeartbeats 2000000 in
theorem C (fuel : Nat) (tapes : List Int → Go.Proofs.YtgimcnpkngpmiaaGreatDoor.GoC.Tape) (code : (List Int)) (A0 : Option Addr) (c0 : Nat)  (w : World) (HE : Hid (Go.Proofs.YtgimcnpkngpmiaaGreatDoor.GoC.Tells tapes)) (M0 : Hid (Cells w 1 A0 code.length (Go.Proofs.YtgimcnpkngpmiaaGreatDoor.GoC.u8s code))) (N0 : Hid (code.length ≤ 9223372036854775807)) (V0 : Hid (∀ z ∈ code, 0 ≤ z ∧ z ≤ 255))  {r : Go.Proofs.YtgimcnpkngpmiaaGreatDoor.PPostmark.Postmark} (H : Hid (P fuel tapes code = some r)) :
    Calls Tryz.prog 16 #[.slice A0 code.length c0] w (Gives ((Go.Proofs.YtgimcnpkngpmiaaGreatDoor.PPostmark.Postmark.val r)) w) := by
  have HB := Lib.hid (Below.refl w.heap.size w)
  unfold P at H
  have N0o := N0.out
  go_enter Tryz.func16, Tryz.ntmps16
  obtain ⟨w_t_0, hw_t_0⟩ : ∃ x, w.alloc (.cells #[.int .i64 0, .string (⟨#[]⟩ : ByteArray), .int .i64 0, .int .i64 0, .int .i64 0, .string (⟨#[]⟩ : ByteArray)] 34) = x := ⟨_, rfl⟩
  have bw_t_0 : Below w.heap.size w w_t_0 := by rw [← hw_t_0]; exact (Below.refl _ _).alloc (Nat.le_refl _) _
  have HBw_t_0 := Lib.hid (Below.step HB.out bw_t_0)
  clear bw_t_0
  have kt_0_0 : w_t_0.cell? ⟨w.heap.size, 0, none⟩ = some (.int .i64 0) := by rw [← hw_t_0]; exact box_new _ _ _ 0 _ rfl
  have kt_0_1 : w_t_0.cell? ⟨w.heap.size, 1, none⟩ = some (.string (⟨#[]⟩ : ByteArray)) := by rw [← hw_t_0]; exact box_new _ _ _ 1 _ rfl
  have kt_0_2 : w_t_0.cell? ⟨w.heap.size, 2, none⟩ = some (.int .i64 0) := by rw [← hw_t_0]; exact box_new _ _ _ 2 _ rfl
  have kt_0_3 : w_t_0.cell? ⟨w.heap.size, 3, none⟩ = some (.int .i64 0) := by rw [← hw_t_0]; exact box_new _ _ _ 3 _ rfl
  have kt_0_4 : w_t_0.cell? ⟨w.heap.size, 4, none⟩ = some (.int .i64 0) := by rw [← hw_t_0]; exact box_new _ _ _ 4 _ rfl
  have kt_0_5 : w_t_0.cell? ⟨w.heap.size, 5, none⟩ = some (.string (⟨#[]⟩ : ByteArray)) := by rw [← hw_t_0]; exact box_new _ _ _ 5 _ rfl
  have Ot_0 : Hid (w_t_0.ownsRow w.heap.size 34 6 (.slice (some ⟨w.heap.size, 0, none⟩) 1 1) 1 [.int .i64 0, .string (⟨#[]⟩ : ByteArray), .int .i64 0, .int .i64 0, .int .i64 0, .string (⟨#[]⟩ : ByteArray)]) := Lib.hid (by rw [← hw_t_0]; exact own_laid (n := 1) HB.out.size rfl rfl (by unfold maxLen; omega))
  replace H := bind_hid H
  obtain ⟨t_2, qt_2, H⟩ := H
  obtain ⟨t_2_id, t_2_town, t_2_kind_, t_2_first, t_2_last, t_2_lost⟩ := t_2
  replace H := unPostmark_hid H
  go_wp2_with fail
  go_at_call 45
  refine (Go.Proofs.YtgimcnpkngpmiaaGreatDoor.GsDrawIsPostmark.C fuel tapes (code) A0 c0 _  HE (Lib.hid (Cells.below M0.out HBw_t_0.out)) N0 V0 qt_2).mono ?_
  rintro e_t_2 wt_2 ⟨rfl, bt_2⟩
  unfold Go.Proofs.YtgimcnpkngpmiaaGreatDoor.PPostmark.Postmark.val
  have HBwt_2 := Lib.hid (Below.step HBw_t_0.out bt_2)
  replace kt_0_0 := cell_below bt_2 kt_0_0
  replace kt_0_1 := cell_below bt_2 kt_0_1
  replace kt_0_2 := cell_below bt_2 kt_0_2
  replace kt_0_3 := cell_below bt_2 kt_0_3
  replace kt_0_4 := cell_below bt_2 kt_0_4
  replace kt_0_5 := cell_below bt_2 kt_0_5
  replace Ot_0 := Lib.hid (own_below Ot_0.out bt_2)
  clear bt_2
  obtain ⟨wb3_3, hwb3_3⟩ : ∃ x, ((((((wt_2).setCell ⟨w.heap.size, 0, none⟩ (.int .i64 t_2_id)).setCell ⟨w.heap.size, 1, none⟩ (.string t_2_town)).setCell ⟨w.heap.size, 2, none⟩ (.int .i64 t_2_kind_)).setCell ⟨w.heap.size, 3, none⟩ (.int .i64 t_2_first)).setCell ⟨w.heap.size, 4, none⟩ (.int .i64 t_2_last)).setCell ⟨w.heap.size, 5, none⟩ (.string t_2_lost) = x := ⟨_, rfl⟩
  have z0b3_3 := Ot_0.out.frozenAt 0
  have z1b3_3 := Ot_0.out.frozenAt 1
  have z2b3_3 := Ot_0.out.frozenAt 2
  have z3b3_3 := Ot_0.out.frozenAt 3
  have z4b3_3 := Ot_0.out.frozenAt 4
  have z5b3_3 := Ot_0.out.frozenAt 5
  have Sb3_3 := Lib.hid (own_stores [(0, .int .i64 t_2_id), (1, .string t_2_town), (2, .int .i64 t_2_kind_), (3, .int .i64 t_2_first), (4, .int .i64 t_2_last), (5, .string t_2_lost)] Ot_0.out)
  have Pb3_3 : Hid (wb3_3.ownsRow w.heap.size 34 6 (.slice (some ⟨w.heap.size, 0, none⟩) 1 1) 1 [.int .i64 t_2_id, .string t_2_town, .int .i64 t_2_kind_, .int .i64 t_2_first, .int .i64 t_2_last, .string t_2_lost]) := Lib.hid (by rw [← hwb3_3]; exact Sb3_3.out.1)
  have Gb3_3 : Hid (wt_2.grownBy wb3_3 (Value.slice (some ⟨w.heap.size, 0, none⟩) 1 1).ownBlock) := Lib.hid (by rw [← hwb3_3]; exact Sb3_3.out.2)
  have HBwb3_3 := Lib.hid (HBwt_2.out.grown Gb3_3.out HBwt_2.out.size (fun q hq => (Ot_0.out.lt q hq).1))
  clear Sb3_3
  clear Ot_0 Gb3_3
  have kt_0_0__581 : wb3_3.cell? ⟨w.heap.size, 0, none⟩ = some (.int .i64 t_2_id) := Pb3_3.out.cells rfl 0 _ rfl
  have kt_0_1__582 : wb3_3.cell? ⟨w.heap.size, 1, none⟩ = some (.string t_2_town) := Pb3_3.out.cells rfl 1 _ rfl
  have kt_0_2__583 : wb3_3.cell? ⟨w.heap.size, 2, none⟩ = some (.int .i64 t_2_kind_) := Pb3_3.out.cells rfl 2 _ rfl
  have kt_0_3__584 : wb3_3.cell? ⟨w.heap.size, 3, none⟩ = some (.int .i64 t_2_first) := Pb3_3.out.cells rfl 3 _ rfl
  have kt_0_4__585 : wb3_3.cell? ⟨w.heap.size, 4, none⟩ = some (.int .i64 t_2_last) := Pb3_3.out.cells rfl 4 _ rfl
  have kt_0_5__586 : wb3_3.cell? ⟨w.heap.size, 5, none⟩ = some (.string t_2_lost) := Pb3_3.out.cells rfl 5 _ rfl
  cases ret_hid H
  go_wp2_with fail
  (try simp only [Exit.inBlock, Exit.then])
  refine bodyPost_ret (v := .agg #[.int .i64 t_2_id, .string t_2_town, .int .i64 t_2_kind_, .int .i64 t_2_first, .int .i64 t_2_last, .string t_2_lost]) ?hr_ ?hd_ ?_
  case hd_ => rfl
  case hr_ => simp [results, Tryz.results16, kt_0_0__581, kt_0_1__582, kt_0_2__583, kt_0_3__584, kt_0_4__585, kt_0_5__586, go_sem]
  exact ⟨rfl, HBwb3_3.out⟩
end Go.Proofs.YtgimcnpkngpmiaaGreatDoor.GsDrawPostmarkText

/- strconv.Itoa as a plain function; the contract of the program's. Condition: the library's table of powers of ten is as the library lays it. -/
namespace Go.Proofs.YtgimcnpkngpmiaaGreatDoor.GxStrconvItoa
set_option linter.unusedVariables false
open Go.RowKit
open Go.Proofs.YtgimcnpkngpmiaaGreatDoor.Turn Go.Proofs.YtgimcnpkngpmiaaGreatDoor.Tab
def P (n : Int) : Option ByteArray := if -9223372036854775808 ≤ n ∧ n ≤ 9223372036854775807 then some ⟨(Lib.itoa n).toArray⟩ else none
theorem C (n : Int) (w : World) (HT : Hid (Tab w)) {r : ByteArray} (H : Hid (P n = some r)) : Calls Tryz.prog 47 #[.int .i64 n] w (Gives (.string r) w) := by
  have h : P n = some r := H
  unfold P at h
  by_cases hk : -9223372036854775808 ≤ n ∧ n ≤ 9223372036854775807
  · rw [if_pos hk] at h
    obtain rfl := Option.some.inj h
    exact itoa_any n hk.1 hk.2 w HT
  · rw [if_neg hk] at h; simp at h
end Go.Proofs.YtgimcnpkngpmiaaGreatDoor.GxStrconvItoa

/- Rows of bytes that a conversion from a string lays (the row bears a mark behind its last cell), in words like those of other rows of one's own. No condition. -/
namespace Go.Proofs.YtgimcnpkngpmiaaGreatDoor.GoB
set_option linter.unusedVariables false
set_option linter.unusedSimpArgs false
open Go.RowKit
open Go.Proofs.YtgimcnpkngpmiaaGreatDoor.Rowed Go.Proofs.YtgimcnpkngpmiaaGreatDoor.Turn Go.Proofs.YtgimcnpkngpmiaaGreatDoor.GoM

def u8s (l : List Int) : List Value := l.map (fun z => Value.int .u8 z)
theorem u8s_len (l : List Int) : (u8s l).length = l.length := by simp [u8s]
theorem u8s_at (l : List Int) (k : Nat) : (u8s l)[k]? = (l[k]?).map (Value.int .u8) := by simp [u8s]
/-- a row of one's own that no mark covers -/
def ownsB (w : World) (base : Nat) (e : TypeId) (size : Nat) (v : Value) (n : Nat) (xs : List Value) : Prop :=
  xs.length = n * size ∧
  ((v = .slice none 0 0 ∧ n = 0) ∨
   ∃ g cap cur, v = .slice (some ⟨g, 0, none⟩) n cap ∧ base ≤ g ∧ (∃ fz, w.heap[g]? = some (.cells cur e fz) ∧ cur.size ≤ fz.1) ∧ n ≤ cap ∧ n ≤ 9223372036854775807 ∧ cur.size = cap * size ∧ cur.toList.take (n * size) = xs)
section
variable {w : World} {base : Nat} {e : TypeId} {size : Nat} {v : Value} {n : Nat} {xs : List Value}
theorem ownsB.lt (h : ownsB w base e size v n xs) : ∀ k, v.ownBlock = some k → base ≤ k ∧ k < w.heap.size := by
  intro k hk
  rcases h.2 with ⟨rfl, _⟩ | ⟨g, cap, cur, rfl, hb, ⟨fz, hg, _⟩, _⟩
  · simp [Value.ownBlock] at hk
  · simp [Value.ownBlock] at hk
    subst hk
    exact ⟨hb, (Array.getElem?_eq_some_iff.1 hg).1⟩
theorem ownsB.kept {w' : World} {row : Option Nat} (h : ownsB w base e size v n xs) (hg : w.grownBy w' row) (hne : v.ownBlock = none ∨ v.ownBlock ≠ row) : ownsB w' base e size v n xs := by
  refine ⟨h.1, ?_⟩
  rcases h.2 with hn | ⟨g, cap, cur, rfl, hb, ⟨fz, hgg, hz⟩, rest⟩
  · exact .inl hn
  · refine .inr ⟨g, cap, cur, rfl, hb, ⟨fz, ?_, hz⟩, rest⟩
    rw [hg.block g (Array.getElem?_eq_some_iff.1 hgg).1 (by simpa [Value.ownBlock] using hne)]
    exact hgg
theorem ownsB.cells (h : ownsB w base e size v n xs) {g : Nat} (hg : v.ownBlock = some g) : ∀ j u, xs[j]? = some u → w.cell? ((⟨g, 0, none⟩ : Addr).add j) = some u := by
  intro j u hu
  rcases h.2 with ⟨rfl, _⟩ | ⟨g', cap, cur, rfl, _, ⟨fz, hgg, _⟩, _, _, _, htake⟩
  · simp [Value.ownBlock] at hg
  · simp [Value.ownBlock] at hg
    subst hg
    rw [add_flat, Nat.zero_add, cell_of_row w g' j cur e fz hgg]
    rw [← htake, List.getElem?_take] at hu
    split at hu
    · simpa using hu
    · cases hu
theorem ownsB.frozenAt {g cap : Nat} (h : ownsB w base e size (.slice (some ⟨g, 0, none⟩) n cap) n xs) (j : Nat) (hj : j < n * size) : w.frozen? ⟨g, j, none⟩ = false := by
  rcases h.2 with ⟨h', _⟩ | ⟨g', cap', cur, h', _, ⟨fz, hg, hz⟩, hnc, _, hcs, _⟩
  · simp at h'
  · simp only [Value.slice.injEq, Option.some.injEq, Addr.mk.injEq, and_true, true_and] at h'
    obtain ⟨rfl, rfl⟩ := h'
    have : n * size ≤ cap * size := Nat.mul_le_mul_right size hnc
    obtain ⟨lo, hi⟩ := fz
    unfold World.frozen?
    rw [hg]
    simp only at hz ⊢
    simp
    omega
theorem ownsB.stored {g cap : Nat} (h : ownsB w base e size (.slice (some ⟨g, 0, none⟩) n cap) n xs) (j : Nat) (u : Value) :
    ownsB (w.setCell ⟨g, j, none⟩ u) base e size (.slice (some ⟨g, 0, none⟩) n cap) n (xs.set j u) ∧ w.grownBy (w.setCell ⟨g, j, none⟩ u) (some g) := by
  rcases h.2 with ⟨h', _⟩ | ⟨g', cap', cur, h', hb, ⟨fz, hg, hz⟩, hnc, hcm, hcs, htake⟩
  · simp at h'
  · simp only [Value.slice.injEq, Option.some.injEq, Addr.mk.injEq, and_true, true_and] at h'
    obtain ⟨rfl, rfl⟩ := h'
    refine ⟨⟨by simpa using h.1, .inr ⟨g, cap, cur.setIfInBounds j u, rfl, hb, ⟨fz, ?_, by simpa using hz⟩, hnc, hcm, by simpa using hcs, ?_⟩⟩,
      ⟨rfl, rfl, rfl, by simp, fun k _ hk => heap_setCell_other w ⟨g, j, none⟩ k u (fun e => hk (by simp [e]))⟩⟩
    · show (w.setCell ⟨g, j, none⟩ u).heap[g]? = _
      have hl := (Array.getElem?_eq_some_iff.1 hg).1
      simp [World.setCell, Array.getElem?_modify, hg]
    · rw [Array.toList_setIfInBounds, ← htake, List.take_set]
end
theorem own_below {w w' : World} {base n size : Nat} {v : Value} {e : TypeId} {xs : List Value} (h : ownsB w base e size v n xs) (hb : Below w.heap.size w w') : ownsB w' base e size v n xs :=
  h.kept (Aid.grown_of hb) (by cases v.ownBlock <;> simp)
theorem own_lt {w : World} {b T K n m c : Nat} {A : Option Addr} {xs : List Value} (h : ownsB w b T K (.slice A m c) n xs) (a : Addr) (ha : A = some a) : b ≤ a.block ∧ a.block < w.heap.size := by
  subst ha
  exact h.lt a.block rfl
theorem apart_fresh {w : World} {b T K n m c : Nat} {A : Option Addr} {xs : List Value} (h : ownsB w b T K (.slice A m c) n xs) : Apart (some ⟨w.heap.size, 0, none⟩) A := by
  intro a a' ha ha' e
  have := (own_lt h a' ha').2
  injection ha with ha
  subst ha
  simp at e
  omega
theorem apart_call {w w1 : World} {b T K n m c T' K' n' m' c' : Nat} {A B : Option Addr} {xs ys : List Value} (h1 : w1.ownsRow w.heap.size T K (.slice A m c) n xs) (h : ownsB w b T' K' (.slice B m' c') n' ys) : Apart A B := by
  intro a a' ha ha' e
  have := (own_lt h a' ha').2
  have := (GoM.own_lt h1 a ha).1
  omega
theorem own_other {w w' : World} {b T K n m c n' c' : Nat} {A B : Option Addr} {ys : List Value} (h : ownsB w b T K (.slice B m c) n ys) (hg : w.grownBy w' (Value.slice A n' c').ownBlock) (hD : Apart A B) : ownsB w' b T K (.slice B m c) n ys := by
  refine h.kept hg ?_
  cases B with
  | none => exact .inl rfl
  | some y =>
    refine .inr ?_
    cases A with
    | none => simp [Value.ownBlock]
    | some x => simp only [Value.ownBlock, ne_eq, Option.some.injEq]; exact fun e => hD x y rfl rfl e.symm
theorem apart_old {wr : World} {b T K n m c g : Nat} {A : Option Addr} {xs : List Value} (h : ownsB wr b T K (.slice A m c) n xs) (hg : g < b) : Apart A (some ⟨g, 0, none⟩) := by
  intro a a' ha ha' e
  have := (own_lt h a ha).1
  injection ha' with ha'
  subst ha'
  simp at e
  omega
theorem own_len {w : World} {b T K n m c : Nat} {A : Option Addr} {xs : List Value} (h : m = n) (hO : ownsB w b T K (.slice A n c) n xs) : ownsB w b T K (.slice A m c) m xs := by subst h; exact hO
theorem own_max {w : World} {b T K n c : Nat} {A : Option Addr} {xs : List Value} (h : ownsB w b T K (.slice A n c) n xs) : n ≤ 9223372036854775807 := by
  rcases h.2 with ⟨_, h0⟩ | ⟨g, cap, cur, hv, _, _, h1, h2, _⟩
  · omega
  · exact h2
theorem own_some {w : World} {b T K n c : Nat} {A : Option Addr} {xs : List Value} (h : ownsB w b T K (.slice A n c) n xs) (hn : 0 < n) : ∃ g, A = some ⟨g, 0, none⟩ := by
  rcases h.2 with ⟨_, h0⟩ | ⟨g, cap, cur, hv, _⟩
  · omega
  · injection hv with e1; exact ⟨g, e1⟩
theorem own_stores {b T K n c g : Nat} (ps : List (Nat × Value)) : ∀ {w : World} {xs : List Value}, ownsB w b T K (.slice (some ⟨g, 0, none⟩) n c) n xs →
    ownsB (ps.foldl (fun w p => w.setCell ⟨g, p.1, none⟩ p.2) w) b T K (.slice (some ⟨g, 0, none⟩) n c) n (ps.foldl (fun xs p => xs.set p.1 p.2) xs) ∧ w.grownBy (ps.foldl (fun w p => w.setCell ⟨g, p.1, none⟩ p.2) w) (some g) := by
  induction ps with
  | nil => intro w xs h; exact ⟨h, Aid.grown_refl _ _⟩
  | cons p ps ih =>
    intro w xs h
    have h1 := h.stored p.1 p.2
    have h2 := ih h1.1
    exact ⟨h2.1, Aid.grown_tr h1.2 h2.2⟩
theorem own_cells {w : World} {base n c size : Nat} {A : Option Addr} {e : TypeId} {xs : List Value} (h : ownsB w base e size (.slice A n c) n xs) : Cells w size A n xs := by
  rcases h.2 with ⟨hv, h0⟩ | ⟨g, cap, cur, hv, _⟩
  · subst h0
    have := h.1
    exact ⟨this, fun hn => by rw [Nat.zero_mul] at this; omega⟩
  · injection hv with e1 e2 e3
    subst e1
    exact ⟨h.1, fun _ => ⟨_, rfl, h.cells rfl⟩⟩
theorem u8_at {w : World} {A : Option Addr} {n k : Nat} {l : List Int} (h : Cells w 1 A n (u8s l)) (hk : k < n) : ∃ (b o : Nat) (x : Int), A = some ⟨b, o, none⟩ ∧ l[k]? = some x ∧ w.cell? ⟨b, o + k, none⟩ = some (.int .u8 x) := by
  have hl : k < l.length := by have := h.1; unfold u8s at this; rw [List.length_map] at this; omega
  obtain ⟨⟨b, o, sp⟩, e, hc⟩ := h.2 (by unfold u8s; rw [List.length_map]; omega)
  have h0 := hc 0 (.int .u8 l[0]) (by unfold u8s; rw [List.getElem?_map, List.getElem?_eq_getElem (show 0 < l.length by omega)]; rfl)
  obtain rfl : sp = none := cell_spot (b := b) (o := o) h0
  have hs := List.getElem?_eq_getElem hl
  have := hc k (.int .u8 l[k]) (by unfold u8s; rw [List.getElem?_map, hs]; rfl)
  rw [add_flat] at this
  exact ⟨b, o, l[k], e, hs, this⟩
/-- []byte(s) -/
theorem conv_new {P : Program} (base : Nat) (w : World) (src dst e : TypeId) (s : ByteArray) (hs : P.underlying src = some .string) (hd : P.underlying dst = some (.slice e)) (he : P.underlying e = some (.int .u8)) (hb : base ≤ w.heap.size) (hn : s.size ≤ 9223372036854775807) {l : List Int} (hl : s.toList.map (fun b => (b.toNat : Int)) = l) :
    ∃ w' c, (convert src dst (.string s)).run P w = .ok (.slice (some ⟨w.heap.size, 0, none⟩) l.length c) w' ∧ ownsB w' base e 1 (.slice (some ⟨w.heap.size, 0, none⟩) l.length c) l.length (u8s l) ∧ Below w.heap.size w w' := by
  subst hl
  have hsz : (s.toList.map (fun b => (b.toNat : Int))).length = s.size := by rw [List.length_map, size_list]
  rw [hsz]
  refine ⟨_, _, Lib.run_convert_string_bytes w src dst e s hs hd he, ⟨?_, .inr ⟨w.heap.size, _, Lib.bytesCells w e s, rfl, hb, ⟨_, Lib.bytesWorld_at_new w e s, Nat.le_refl _⟩, grownCap_ge _ _ _ _, hn, ?_, ?_⟩⟩, ?_⟩
  · rw [u8s_len, hsz, Nat.mul_one]
  · have := grownCap_ge w s.size 0 e
    have h2 : s.data.size = s.size := rfl
    simp only [Lib.bytesCells, Array.size_append, Array.size_map, Array.size_replicate, Nat.mul_one, h2]
    omega
  · rw [Nat.mul_one]
    have h2 : s.data.toList.length = s.size := rfl
    simp only [Lib.bytesCells, Array.toList_append, Array.toList_map, u8s, List.map_map]
    rw [List.take_append_of_le_length (by rw [List.length_map, h2]; exact Nat.le_refl _), List.take_of_length_le (by rw [List.length_map, h2]; exact Nat.le_refl _), Lib.toList_data]
    rfl
  · exact ⟨rfl, rfl, rfl, by rw [Lib.bytesWorld_size]; omega, fun k hk => Lib.bytesWorld_at_old w e s k hk⟩
/-- string(b) -/
def strK (l : List Int) : ByteArray := ⟨(l.map (fun z => UInt8.ofNat z.toNat)).toArray⟩
theorem fold_push (l : List Int) : ∀ r : ByteArray, l.foldl (fun r n => r.push (UInt8.ofNat n.toNat)) r = ⟨r.data ++ (l.map (fun z => UInt8.ofNat z.toNat)).toArray⟩ := by
  induction l with
  | nil => intro r; simp
  | cons x l ih => intro r; rw [List.foldl_cons, ih]; simp [ByteArray.push]
theorem conv_back {P : Program} {w : World} {src dst e : TypeId} {b n c : Nat} {A : Option Addr} {l : List Int} {s : ByteArray} (hs : P.underlying src = some (.slice e)) (he : P.underlying e = some (.int .u8)) (hd : P.underlying dst = some .string)
    (h : ownsB w b e 1 (.slice A n c) n (u8s l)) (hl : strK l = s) : (convert src dst (.slice A n c)).run P w = .ok (.string s) w := by
  subst hl
  have hn : l.length = n := by have := h.1; rw [u8s_len, Nat.mul_one] at this; exact this
  rcases h.2 with ⟨hv, h0⟩ | ⟨g, cap, cur, hv, _⟩
  · injection hv with e1 e2 e3
    subst e1 e2 e3
    have : l = [] := List.length_eq_zero_iff.1 hn
    subst this
    rw [run_convert_bytes_string w src dst e _ 0 0 hs he hd]
    simp [Conv.bytesToString, strK]
    rfl
  · injection hv with e1 e2 e3
    subst e1 e3
    rw [run_convert_bytes_string w src dst e _ n c hs he hd]
    have hload := run_loadCells_list (P := P) w ⟨g, 0, none⟩ (l.map (Value.int .u8)) (fun j v hj => h.cells rfl j v hj)
    rw [List.length_map, hn] at hload
    rw [run_bytesToString w ⟨g, 0, none⟩ n c l hload, fold_push]
    have he0 : ByteArray.empty.data = #[] := rfl
    rw [he0, Array.empty_append]; rfl
end Go.Proofs.YtgimcnpkngpmiaaGreatDoor.GoB

/- loop.example/g01062/impl.shownBy as a plain function, and the contract of the program's: where the plain one has an answer, the program has it. Conditions: slices read as lists. -/
namespace Go.Proofs.YtgimcnpkngpmiaaGreatDoor.GiShownBy
set_option linter.unusedVariables false
set_option linter.unusedSimpArgs false
open Go.RowKit
open Go.Proofs.YtgimcnpkngpmiaaGreatDoor.Rowed Go.Proofs.YtgimcnpkngpmiaaGreatDoor.Turn Go.Proofs.YtgimcnpkngpmiaaGreatDoor.Aid Go.Proofs.YtgimcnpkngpmiaaGreatDoor.GoP Go.Proofs.YtgimcnpkngpmiaaGreatDoor.GoM Go.Proofs.YtgimcnpkngpmiaaGreatDoor.GoB

def l0 (p_lost : ByteArray) (k0 : Nat) (s : (List Int)) (nx0 bk0 : (List Int) → Option (ByteArray)) : Option (ByteArray) :=
  letK s fun shown_3l0 =>
  Option.bind (idx p_lost.toList (k0 : Int)) fun (yt_15 : UInt8) =>
  letK ((yt_15.toNat : Int)) fun (t_15 : Int) =>
  letK (t_15 == 120) fun (t_16 : Bool) =>
  iteK t_16
  (Option.bind (idx shown_3l0 (k0 : Int)) fun (yt_19 : Int) =>
  letK (shown_3l0.set k0 63) fun (l20_20 : (List Int)) =>
  appK nx0 (l20_20))
  (appK nx0 (shown_3l0))

def e0  (s : (List Int)) : Option (ByteArray) :=
  letK s fun shown_3l0 =>
  letK (Go.Proofs.YtgimcnpkngpmiaaGreatDoor.GoB.strK shown_3l0) fun (t_24 : ByteArray) =>
  some t_24

def P (p : Go.Proofs.YtgimcnpkngpmiaaGreatDoor.PPostmark.Postmark) : Option (ByteArray) :=
  unPostmark p fun (p_id : Int) (p_town : ByteArray) (p_kind_ : Int) (p_first : Int) (p_last : Int) (p_lost : ByteArray) =>
  guardK (p_town.size ≤ 1099511627776) <|
  letK (p_town.toList.map (fun b_ => (b_.toNat : Int))) fun (t_4 : (List Int)) =>
  cntK (l0 p_lost) (t_4.length) 0 (t_4) (e0 )

set_option maxRecDepth 100000 in
set_option maxHeartbeats 2000000 in
theorem C (p : Go.Proofs.YtgimcnpkngpmiaaGreatDoor.PPostmark.Postmark)   (w : World)   {r : ByteArray} (H : Hid (P p = some r)) :
    Calls Tryz.prog 48 #[p.val] w (Gives (.string r) w) := by
  have HB := Lib.hid (Below.refl w.heap.size w)
  unfold P at H
  obtain ⟨p_id, p_town, p_kind_, p_first, p_last, p_lost⟩ := p
  replace H := unPostmark_hid H
  unfold Go.Proofs.YtgimcnpkngpmiaaGreatDoor.PPostmark.Postmark.val
  go_enter Tryz.func48, Tryz.ntmps48
  obtain ⟨w_p_0, hw_p_0⟩ : ∃ x, w.alloc (.cells #[.int .i64 p_id, .string p_town, .int .i64 p_kind_, .int .i64 p_first, .int .i64 p_last, .string p_lost] 34) = x := ⟨_, rfl⟩
  have bw_p_0 : Below w.heap.size w w_p_0 := by rw [← hw_p_0]; exact (Below.refl _ _).alloc (Nat.le_refl _) _
  have HBw_p_0 := Lib.hid (Below.step HB.out bw_p_0)
  clear bw_p_0
  have kp_0_0 : w_p_0.cell? ⟨w.heap.size, 0, none⟩ = some (.int .i64 p_id) := by rw [← hw_p_0]; exact box_new _ _ _ 0 _ rfl
  have kp_0_1 : w_p_0.cell? ⟨w.heap.size, 1, none⟩ = some (.string p_town) := by rw [← hw_p_0]; exact box_new _ _ _ 1 _ rfl
  have kp_0_2 : w_p_0.cell? ⟨w.heap.size, 2, none⟩ = some (.int .i64 p_kind_) := by rw [← hw_p_0]; exact box_new _ _ _ 2 _ rfl
  have kp_0_3 : w_p_0.cell? ⟨w.heap.size, 3, none⟩ = some (.int .i64 p_first) := by rw [← hw_p_0]; exact box_new _ _ _ 3 _ rfl
  have kp_0_4 : w_p_0.cell? ⟨w.heap.size, 4, none⟩ = some (.int .i64 p_last) := by rw [← hw_p_0]; exact box_new _ _ _ 4 _ rfl
  have kp_0_5 : w_p_0.cell? ⟨w.heap.size, 5, none⟩ = some (.string p_lost) := by rw [← hw_p_0]; exact box_new _ _ _ 5 _ rfl
  replace H := guard_hid H
  obtain ⟨hnt_4, H⟩ := H
  replace H := let_hid H
  obtain ⟨t_4, ht_4, H⟩ := H
  have Dt_4_p_0 := Lib.hid (apart_box kp_0_0)
  obtain ⟨wt_4, ct_4, rt_4, ot_4, bt_4⟩ := Go.Proofs.YtgimcnpkngpmiaaGreatDoor.GoB.conv_new (P := Tryz.prog) (w.heap.size) w_p_0 9 22 5 p_town Tryz.underlying9 Tryz.underlying22 Tryz.underlying5 HBw_p_0.out.size (by omega) ht_4
  have Ot_4 := Lib.hid ot_4
  clear ot_4
  have hht_4 := Lib.hid ht_4
  clear ht_4
  have HBwt_4 := Lib.hid (Below.step HBw_p_0.out bt_4)
  have kp_0_0__587 := cell_below bt_4 kp_0_0
  have kp_0_1__588 := cell_below bt_4 kp_0_1
  have kp_0_2__589 := cell_below bt_4 kp_0_2
  have kp_0_3__590 := cell_below bt_4 kp_0_3
  have kp_0_4__591 := cell_below bt_4 kp_0_4
  have kp_0_5__592 := cell_below bt_4 kp_0_5
  clear bt_4
  go_wp2_with fail
  clear kp_0_0 kp_0_1 kp_0_2 kp_0_3 kp_0_4 kp_0_5 rt_4
  have hb_0 : t_4.length ≤ 9223372036854775807 := own_max Ot_4.out
  go_wp2_with fail
  go_loopg [10] (t_4.length) (fun m_ v10_ wr => ∃ (k0 : Nat) (shown_3l0 : (List Int)), k0 + m_ = t_4.length ∧ v10_ = .int .i64 (k0 : Int) ∧ Hid (cntK (l0 p_lost) m_ k0 (shown_3l0) (e0 ) = some r) ∧ Hid (Below w.heap.size w wr) ∧ wr.cell? ⟨w.heap.size, 0, none⟩ = some (.int .i64 p_id) ∧ wr.cell? ⟨w.heap.size, 1, none⟩ = some (.string p_town) ∧ wr.cell? ⟨w.heap.size, 2, none⟩ = some (.int .i64 p_kind_) ∧ wr.cell? ⟨w.heap.size, 3, none⟩ = some (.int .i64 p_first) ∧ wr.cell? ⟨w.heap.size, 4, none⟩ = some (.int .i64 p_last) ∧ wr.cell? ⟨w.heap.size, 5, none⟩ = some (.string p_lost) ∧ Hid (Go.Proofs.YtgimcnpkngpmiaaGreatDoor.GoB.ownsB wr w.heap.size 5 1 (.slice (some ⟨w_p_0.heap.size, 0, none⟩) t_4.length ct_4) t_4.length (Go.Proofs.YtgimcnpkngpmiaaGreatDoor.GoB.u8s shown_3l0)) ∧ Hid (shown_3l0.length = t_4.length) ∧ Hid (Apart (some ⟨w_p_0.heap.size, 0, none⟩) (some ⟨w.heap.size, 0, none⟩)))
  case atStart => exact ⟨0, _, by omega, rfl, H, HBwt_4, kp_0_0__587, kp_0_1__588, kp_0_2__589, kp_0_3__590, kp_0_4__591, kp_0_5__592, Ot_4, Lib.hid (rfl), Lib.hid Dt_4_p_0.out⟩
  case round =>
    obtain ⟨k0, shown_3l0, hkm0, rfl, H, HBwr0, kp_0_0__587, kp_0_1__588, kp_0_2__589, kp_0_3__590, kp_0_4__591, kp_0_5__592, Oshown_3l0, hnshown_3l0, Dshown_3l0_p_0⟩ := hrel
    rename World => wr0
    cases gk with
    | zero =>
      obtain rfl : k0 = t_4.length := by omega
      have hc0 : decide (((t_4.length : Nat) : Int) < ((t_4.length : Nat) : Int)) = false := by simp
      replace H := cnt_zero H
      unfold e0 at H
      replace H := let_hid H
      obtain ⟨_, rfl, H⟩ := H
      replace H := let_hid H
      obtain ⟨t_24, ht_24, H⟩ := H
      have rt_24 := Go.Proofs.YtgimcnpkngpmiaaGreatDoor.GoB.conv_back (P := Tryz.prog) Tryz.underlying22 Tryz.underlying5 Tryz.underlying9 Oshown_3l0.out ht_24
      have hht_24 := Lib.hid ht_24
      clear ht_24
      obtain rfl := ret_hid H
      go_wp2_with fail
      go_ret
      exact ⟨rfl, HBwr0.out⟩
    | succ m0 =>
      have hlt0 : k0 < t_4.length := by omega
      have hc0 : decide ((k0 : Int) < ((t_4.length : Nat) : Int)) = true := by simp; omega
      replace H := cnt_succ H
      unfold l0 at H
      replace H := let_hid H
      obtain ⟨_, rfl, H⟩ := H
      replace H := idx_hid H
      obtain ⟨nt_15, yt_15, et_15, lt_15, gt_15, H⟩ := H
      obtain rfl : k0 = nt_15 := by omega
      clear et_15
      have rt_15 := byte_rule lt_15 gt_15.out
      have b0t_15 : (0 : Int) ≤ (k0 : Int) := by omega
      have b1t_15 : (k0 : Int) < (p_lost.size : Int) := by have := size_list p_lost; omega
      have b2t_15 : ((k0 : Int)).toNat = k0 := by omega
      have b3t_15 : k0 < p_lost.size := by have := size_list p_lost; omega
      replace H := let_hid H
      obtain ⟨t_15, ht_15, H⟩ := H
      replace H := let_hid H
      obtain ⟨t_16, ht_16, H⟩ := H
      cases t_16 with
      | false =>
        replace H := ite_f H
        replace H := app_hid H
        go_wp2_with fail
        go_roundg m0
        case measure => omega
        case rel => exact ⟨k0 + 1, _, by omega, by go_num, H, HBwr0, kp_0_0__587, kp_0_1__588, kp_0_2__589, kp_0_3__590, kp_0_4__591, kp_0_5__592, Oshown_3l0, Lib.hid (hnshown_3l0.out), Lib.hid Dshown_3l0_p_0.out⟩
      | true =>
        replace H := ite_t H
        replace H := idx_hid H
        obtain ⟨nt_19, yt_19, et_19, lt_19, gt_19, H⟩ := H
        obtain rfl : k0 = nt_19 := by omega
        clear et_19
        have hqt_19 := hnshown_3l0.out
        obtain ⟨ab_t_19, ao_t_19, zt_19, At_19, z_t_19, ct_19_0⟩ := Go.Proofs.YtgimcnpkngpmiaaGreatDoor.GoB.u8_at (own_cells Oshown_3l0.out) (k := k0) (by omega)
        obtain rfl := Option.some.inj (gt_19.out.symm.trans z_t_19)
        simp only [Option.some.injEq, Addr.mk.injEq] at At_19
        obtain ⟨rfl, rfl, _⟩ := At_19
        clear z_t_19
        simp only [Nat.zero_add] at ct_19_0
        have b0t_19 : (0 : Int) ≤ (k0 : Int) := by omega
        have b1t_19 : (k0 : Int) < ((t_4.length : Nat) : Int) := by omega
        have b2t_19 : ((k0 : Int)).toNat = k0 := by omega
        clear hqt_19
        replace H := let_hid H
        obtain ⟨l20_20, hl20_20, H⟩ := H
        try simp only [Int.toNat_natCast] at hl20_20
        obtain ⟨wl20_20, hwl20_20⟩ : ∃ x, (wr0).setCell ⟨w_p_0.heap.size, k0, none⟩ (.int .u8 63) = x := ⟨_, rfl⟩
        have z0l20_20 := Oshown_3l0.out.frozenAt (k0) (by have hz_ := lt_19; have hy_ := hnshown_3l0.out; omega)
        have Sl20_20 := Lib.hid (own_stores [(k0, .int .u8 63)] Oshown_3l0.out)
        have nl20_20 : Hid (l20_20.length = t_4.length) := Lib.hid (by rw [← hl20_20, List.length_set]; exact hnshown_3l0.out)
        have Pl20_20 : Hid (Go.Proofs.YtgimcnpkngpmiaaGreatDoor.GoB.ownsB wl20_20 w.heap.size 5 1 (.slice (some ⟨w_p_0.heap.size, 0, none⟩) t_4.length ct_4) t_4.length (Go.Proofs.YtgimcnpkngpmiaaGreatDoor.GoB.u8s l20_20)) := Lib.hid (by have e_ : ([(k0, .int .u8 63)] : List (Nat × Value)).foldl (fun xs p => xs.set p.1 p.2) (Go.Proofs.YtgimcnpkngpmiaaGreatDoor.GoB.u8s shown_3l0) = (Go.Proofs.YtgimcnpkngpmiaaGreatDoor.GoB.u8s l20_20) := (by rw [← hl20_20]; first | done | simp [Go.Proofs.YtgimcnpkngpmiaaGreatDoor.GoB.u8s, List.map_set]); rw [← hwl20_20, ← e_]; exact Sl20_20.out.1)
        have Gl20_20 : Hid (wr0.grownBy wl20_20 (Value.slice (some ⟨w_p_0.heap.size, 0, none⟩) t_4.length ct_4).ownBlock) := Lib.hid (by rw [← hwl20_20]; exact Sl20_20.out.2)
        have HBwl20_20 := Lib.hid (HBwr0.out.grown Gl20_20.out HBwr0.out.size (fun q hq => (Oshown_3l0.out.lt q hq).1))
        have hhl20_20 := Lib.hid hl20_20
        clear hl20_20 Sl20_20
        have kp_0_0__593 := cell_other kp_0_0__587 Gl20_20.out Dshown_3l0_p_0.out
        have kp_0_1__594 := cell_other kp_0_1__588 Gl20_20.out Dshown_3l0_p_0.out
        have kp_0_2__595 := cell_other kp_0_2__589 Gl20_20.out Dshown_3l0_p_0.out
        have kp_0_3__596 := cell_other kp_0_3__590 Gl20_20.out Dshown_3l0_p_0.out
        have kp_0_4__597 := cell_other kp_0_4__591 Gl20_20.out Dshown_3l0_p_0.out
        have kp_0_5__598 := cell_other kp_0_5__592 Gl20_20.out Dshown_3l0_p_0.out
        clear Oshown_3l0 Gl20_20
        replace H := app_hid H
        go_wp2_with fail
        clear z0l20_20 kp_0_0__587 kp_0_1__588 kp_0_2__589 kp_0_3__590 kp_0_4__591 kp_0_5__592 ct_19_0
        go_roundg m0
        case measure => omega
        case rel => exact ⟨k0 + 1, _, by omega, by go_num, H, HBwl20_20, kp_0_0__593, kp_0_1__594, kp_0_2__595, kp_0_3__596, kp_0_4__597, kp_0_5__598, Pl20_20, Lib.hid (nl20_20.out), Lib.hid Dshown_3l0_p_0.out⟩
end Go.Proofs.YtgimcnpkngpmiaaGreatDoor.GiShownBy

/- loop.example/g01062/impl.PostmarkText as a plain function, and the contract of the program's: where the plain one has an answer, the program has it. Conditions: slices read as lists. -/
namespace Go.Proofs.YtgimcnpkngpmiaaGreatDoor.GiPostmarkText
set_option linter.unusedVariables false
set_option linter.unusedSimpArgs false
open Go.RowKit
open Go.Proofs.YtgimcnpkngpmiaaGreatDoor.Rowed Go.Proofs.YtgimcnpkngpmiaaGreatDoor.Turn Go.Proofs.YtgimcnpkngpmiaaGreatDoor.Aid Go.Proofs.YtgimcnpkngpmiaaGreatDoor.GoP Go.Proofs.YtgimcnpkngpmiaaGreatDoor.GoM Go.Proofs.YtgimcnpkngpmiaaGreatDoor.Tab

def P (p : Go.Proofs.YtgimcnpkngpmiaaGreatDoor.PPostmark.Postmark) : Option (ByteArray × Bool) :=
  unPostmark p fun (p_id : Int) (p_town : ByteArray) (p_kind_ : Int) (p_first : Int) (p_last : Int) (p_lost : ByteArray) =>
  Option.bind (Go.Proofs.YtgimcnpkngpmiaaGreatDoor.GiIsPostmark.P (Go.Proofs.YtgimcnpkngpmiaaGreatDoor.PPostmark.Postmark.mk p_id p_town p_kind_ p_first p_last p_lost)) fun (t_4 : Bool) =>
  letK (!t_4) fun (t_5 : Bool) =>
  iteK t_5
  (some ((⟨#[]⟩ : ByteArray), false))
  (Option.bind (Go.Proofs.YtgimcnpkngpmiaaGreatDoor.GxStrconvItoa.P p_id) fun (t_10 : ByteArray) =>
  guardK ((⟨#[112]⟩ : ByteArray).size + t_10.size ≤ maxLen) <|
  letK ((⟨#[112]⟩ : ByteArray) ++ t_10) fun (t_11 : ByteArray) =>
  guardK (t_11.size + (⟨#[32]⟩ : ByteArray).size ≤ maxLen) <|
  letK (t_11 ++ (⟨#[32]⟩ : ByteArray)) fun (t_12 : ByteArray) =>
  Option.bind (Go.Proofs.YtgimcnpkngpmiaaGreatDoor.GiShownBy.P (Go.Proofs.YtgimcnpkngpmiaaGreatDoor.PPostmark.Postmark.mk p_id p_town p_kind_ p_first p_last p_lost)) fun (t_14 : ByteArray) =>
  guardK (t_12.size + t_14.size ≤ maxLen) <|
  letK (t_12 ++ t_14) fun (t_15 : ByteArray) =>
  guardK (t_15.size + (⟨#[32, 107]⟩ : ByteArray).size ≤ maxLen) <|
  letK (t_15 ++ (⟨#[32, 107]⟩ : ByteArray)) fun (t_16 : ByteArray) =>
  Option.bind (Go.Proofs.YtgimcnpkngpmiaaGreatDoor.GxStrconvItoa.P p_kind_) fun (t_19 : ByteArray) =>
  guardK (t_16.size + t_19.size ≤ maxLen) <|
  letK (t_16 ++ t_19) fun (t_20 : ByteArray) =>
  guardK (t_20.size + (⟨#[32]⟩ : ByteArray).size ≤ maxLen) <|
  letK (t_20 ++ (⟨#[32]⟩ : ByteArray)) fun (t_21 : ByteArray) =>
  Option.bind (Go.Proofs.YtgimcnpkngpmiaaGreatDoor.GxStrconvItoa.P p_first) fun (t_24 : ByteArray) =>
  guardK (t_21.size + t_24.size ≤ maxLen) <|
  letK (t_21 ++ t_24) fun (t_25 : ByteArray) =>
  guardK (t_25.size + (⟨#[45]⟩ : ByteArray).size ≤ maxLen) <|
  letK (t_25 ++ (⟨#[45]⟩ : ByteArray)) fun (t_26 : ByteArray) =>
  Option.bind (Go.Proofs.YtgimcnpkngpmiaaGreatDoor.GxStrconvItoa.P p_last) fun (t_29 : ByteArray) =>
  guardK (t_26.size + t_29.size ≤ maxLen) <|
  letK (t_26 ++ t_29) fun (t_30 : ByteArray) =>
  some (t_30, true))

set_option maxRecDepth 100000 in
set_option maxHeartbeats 2000000 in
theorem C (p : Go.Proofs.YtgimcnpkngpmiaaGreatDoor.PPostmark.Postmark)   (w : World) (HT : Hid (Tab w))   {r0 : ByteArray} {r1 : Bool} (H : Hid (P p = some (r0, r1))) :
    Calls Tryz.prog 17 #[p.val] w (Gives (.tuple #[.string r0, .bool r1]) w) := by
  have HB := Lib.hid (Below.refl w.heap.size w)
  unfold P at H
  obtain ⟨p_id, p_town, p_kind_, p_first, p_last, p_lost⟩ := p
  replace H := unPostmark_hid H
  unfold Go.Proofs.YtgimcnpkngpmiaaGreatDoor.PPostmark.Postmark.val
  go_enter Tryz.func17, Tryz.ntmps17
  obtain ⟨w_p_0, hw_p_0⟩ : ∃ x, w.alloc (.cells #[.int .i64 p_id, .string p_town, .int .i64 p_kind_, .int .i64 p_first, .int .i64 p_last, .string p_lost] 34) = x := ⟨_, rfl⟩
  have bw_p_0 : Below w.heap.size w w_p_0 := by rw [← hw_p_0]; exact (Below.refl _ _).alloc (Nat.le_refl _) _
  have HBw_p_0 := Lib.hid (Below.step HB.out bw_p_0)
  clear bw_p_0
  have kp_0_0 : w_p_0.cell? ⟨w.heap.size, 0, none⟩ = some (.int .i64 p_id) := by rw [← hw_p_0]; exact box_new _ _ _ 0 _ rfl
  have kp_0_1 : w_p_0.cell? ⟨w.heap.size, 1, none⟩ = some (.string p_town) := by rw [← hw_p_0]; exact box_new _ _ _ 1 _ rfl
  have kp_0_2 : w_p_0.cell? ⟨w.heap.size, 2, none⟩ = some (.int .i64 p_kind_) := by rw [← hw_p_0]; exact box_new _ _ _ 2 _ rfl
  have kp_0_3 : w_p_0.cell? ⟨w.heap.size, 3, none⟩ = some (.int .i64 p_first) := by rw [← hw_p_0]; exact box_new _ _ _ 3 _ rfl
  have kp_0_4 : w_p_0.cell? ⟨w.heap.size, 4, none⟩ = some (.int .i64 p_last) := by rw [← hw_p_0]; exact box_new _ _ _ 4 _ rfl
  have kp_0_5 : w_p_0.cell? ⟨w.heap.size, 5, none⟩ = some (.string p_lost) := by rw [← hw_p_0]; exact box_new _ _ _ 5 _ rfl
  replace H := bind_hid H
  obtain ⟨t_4, qt_4, H⟩ := H
  go_wp2_with fail
  go_at_call 46
  refine (Go.Proofs.YtgimcnpkngpmiaaGreatDoor.GiIsPostmark.C ((Go.Proofs.YtgimcnpkngpmiaaGreatDoor.PPostmark.Postmark.mk p_id p_town p_kind_ p_first p_last p_lost))  _    qt_4).mono ?_
  rintro e_t_4 wt_4 ⟨rfl, bt_4⟩
  have HBwt_4 := Lib.hid (Below.step HBw_p_0.out bt_4)
  replace kp_0_0 := cell_below bt_4 kp_0_0
  replace kp_0_1 := cell_below bt_4 kp_0_1
  replace kp_0_2 := cell_below bt_4 kp_0_2
  replace kp_0_3 := cell_below bt_4 kp_0_3
  replace kp_0_4 := cell_below bt_4 kp_0_4
  replace kp_0_5 := cell_below bt_4 kp_0_5
  clear bt_4
  cases t_4 with
  | false =>
    replace H := let_hid H
    obtain ⟨t_5, ht_5, H⟩ := H
    obtain rfl : t_5 = true := ht_5.symm
    replace H := ite_t H
    cases ret_hid H
    go_wp2_with fail
    go_ret2
    exact ⟨rfl, HBwt_4.out⟩
  | true =>
    replace H := let_hid H
    obtain ⟨t_5, ht_5, H⟩ := H
    obtain rfl : t_5 = false := ht_5.symm
    replace H := ite_f H
    go_wp2_with fail
    have Hkp_0_0 := Lib.hid kp_0_0
    replace kp_0_0 := cell_regrown kp_0_0
    have Hkp_0_1 := Lib.hid kp_0_1
    replace kp_0_1 := cell_regrown kp_0_1
    have Hkp_0_2 := Lib.hid kp_0_2
    replace kp_0_2 := cell_regrown kp_0_2
    have Hkp_0_3 := Lib.hid kp_0_3
    replace kp_0_3 := cell_regrown kp_0_3
    have Hkp_0_4 := Lib.hid kp_0_4
    replace kp_0_4 := cell_regrown kp_0_4
    have Hkp_0_5 := Lib.hid kp_0_5
    replace kp_0_5 := cell_regrown kp_0_5
    replace H := bind_hid H
    obtain ⟨t_10, qt_10, H⟩ := H
    have nt_10 : ∀ d os, Calls Tryz.prog 47 #[.int .i64 p_id] (Go.Sort.grow (redrawn wt_4 d) os) fun e w'' => e = .returned (.string t_10) ∧ ∃ p : Regrown, w'' = Go.Sort.grow (redrawn wt_4 p.d) p.os := fun d os => Calls.regrown_of (Go.Proofs.YtgimcnpkngpmiaaGreatDoor.GxStrconvItoa.C (p_id)  _ (tab_below (below_regrown _ _ _) (tab_below HBwt_4.out HT))   qt_10)
    replace H := guard_hid H
    obtain ⟨hl_t_11, H⟩ := H
    replace H := let_hid H
    obtain ⟨t_11, ht_11, H⟩ := H
    have ct_11 := cat_rule (P := Tryz.prog) ht_11 hl_t_11
    clear hl_t_11
    have hht_11 := Lib.hid ht_11
    clear ht_11
    replace H := guard_hid H
    obtain ⟨hl_t_12, H⟩ := H
    replace H := let_hid H
    obtain ⟨t_12, ht_12, H⟩ := H
    have ct_12 := cat_rule (P := Tryz.prog) ht_12 hl_t_12
    clear hl_t_12
    have hht_12 := Lib.hid ht_12
    clear ht_12
    replace H := bind_hid H
    obtain ⟨t_14, qt_14, H⟩ := H
    have nt_14 : ∀ d os, Calls Tryz.prog 48 #[.agg #[.int .i64 p_id, .string p_town, .int .i64 p_kind_, .int .i64 p_first, .int .i64 p_last, .string p_lost]] (Go.Sort.grow (redrawn wt_4 d) os) fun e w'' => e = .returned (.string t_14) ∧ ∃ p : Regrown, w'' = Go.Sort.grow (redrawn wt_4 p.d) p.os := fun d os => Calls.regrown_of (Go.Proofs.YtgimcnpkngpmiaaGreatDoor.GiShownBy.C ((Go.Proofs.YtgimcnpkngpmiaaGreatDoor.PPostmark.Postmark.mk p_id p_town p_kind_ p_first p_last p_lost))  _    qt_14)
    replace H := guard_hid H
    obtain ⟨hl_t_15, H⟩ := H
    replace H := let_hid H
    obtain ⟨t_15, ht_15, H⟩ := H
    have ct_15 := cat_rule (P := Tryz.prog) ht_15 hl_t_15
    clear hl_t_15
    have hht_15 := Lib.hid ht_15
    clear ht_15
    replace H := guard_hid H
    obtain ⟨hl_t_16, H⟩ := H
    replace H := let_hid H
    obtain ⟨t_16, ht_16, H⟩ := H
    have ct_16 := cat_rule (P := Tryz.prog) ht_16 hl_t_16
    clear hl_t_16
    have hht_16 := Lib.hid ht_16
    clear ht_16
    replace H := bind_hid H
    obtain ⟨t_19, qt_19, H⟩ := H
    have nt_19 : ∀ d os, Calls Tryz.prog 47 #[.int .i64 p_kind_] (Go.Sort.grow (redrawn wt_4 d) os) fun e w'' => e = .returned (.string t_19) ∧ ∃ p : Regrown, w'' = Go.Sort.grow (redrawn wt_4 p.d) p.os := fun d os => Calls.regrown_of (Go.Proofs.YtgimcnpkngpmiaaGreatDoor.GxStrconvItoa.C (p_kind_)  _ (tab_below (below_regrown _ _ _) (tab_below HBwt_4.out HT))   qt_19)
    replace H := guard_hid H
    obtain ⟨hl_t_20, H⟩ := H
    replace H := let_hid H
    obtain ⟨t_20, ht_20, H⟩ := H
    have ct_20 := cat_rule (P := Tryz.prog) ht_20 hl_t_20
    clear hl_t_20
    have hht_20 := Lib.hid ht_20
    clear ht_20
    replace H := guard_hid H
    obtain ⟨hl_t_21, H⟩ := H
    replace H := let_hid H
    obtain ⟨t_21, ht_21, H⟩ := H
    have ct_21 := cat_rule (P := Tryz.prog) ht_21 hl_t_21
    clear hl_t_21
    have hht_21 := Lib.hid ht_21
    clear ht_21
    replace H := bind_hid H
    obtain ⟨t_24, qt_24, H⟩ := H
    have nt_24 : ∀ d os, Calls Tryz.prog 47 #[.int .i64 p_first] (Go.Sort.grow (redrawn wt_4 d) os) fun e w'' => e = .returned (.string t_24) ∧ ∃ p : Regrown, w'' = Go.Sort.grow (redrawn wt_4 p.d) p.os := fun d os => Calls.regrown_of (Go.Proofs.YtgimcnpkngpmiaaGreatDoor.GxStrconvItoa.C (p_first)  _ (tab_below (below_regrown _ _ _) (tab_below HBwt_4.out HT))   qt_24)
    replace H := guard_hid H
    obtain ⟨hl_t_25, H⟩ := H
    replace H := let_hid H
    obtain ⟨t_25, ht_25, H⟩ := H
    have ct_25 := cat_rule (P := Tryz.prog) ht_25 hl_t_25
    clear hl_t_25
    have hht_25 := Lib.hid ht_25
    clear ht_25
    replace H := guard_hid H
    obtain ⟨hl_t_26, H⟩ := H
    replace H := let_hid H
    obtain ⟨t_26, ht_26, H⟩ := H
    have ct_26 := cat_rule (P := Tryz.prog) ht_26 hl_t_26
    clear hl_t_26
    have hht_26 := Lib.hid ht_26
    clear ht_26
    replace H := bind_hid H
    obtain ⟨t_29, qt_29, H⟩ := H
    have nt_29 : ∀ d os, Calls Tryz.prog 47 #[.int .i64 p_last] (Go.Sort.grow (redrawn wt_4 d) os) fun e w'' => e = .returned (.string t_29) ∧ ∃ p : Regrown, w'' = Go.Sort.grow (redrawn wt_4 p.d) p.os := fun d os => Calls.regrown_of (Go.Proofs.YtgimcnpkngpmiaaGreatDoor.GxStrconvItoa.C (p_last)  _ (tab_below (below_regrown _ _ _) (tab_below HBwt_4.out HT))   qt_29)
    replace H := guard_hid H
    obtain ⟨hl_t_30, H⟩ := H
    replace H := let_hid H
    obtain ⟨t_30, ht_30, H⟩ := H
    have ct_30 := cat_rule (P := Tryz.prog) ht_30 hl_t_30
    clear hl_t_30
    have hht_30 := Lib.hid ht_30
    clear ht_30
    refine wp_region_quiet_below (by kernel_rfl) (by kernel_rfl) ?_
    repeat (go_big_quiet_step (first | (go_at_call 47; with_reducible exact nt_10 _ _) | (go_at_call 47; with_reducible exact nt_19 _ _) | (go_at_call 47; with_reducible exact nt_24 _ _) | (go_at_call 47; with_reducible exact nt_29 _ _) | (go_at_call 47; exact nt_10 _ _) | (go_at_call 48; exact nt_14 _ _) | (go_at_call 47; exact nt_19 _ _) | (go_at_call 47; exact nt_24 _ _) | (go_at_call 47; exact nt_29 _ _)))
    refine wpQuiet_nil ?_
    intro Y3 hY3
    replace hY3 := below_class hY3
    clear nt_10 nt_14 nt_19 nt_24 nt_29
    replace kp_0_0 := Hkp_0_0.out
    clear Hkp_0_0
    replace kp_0_1 := Hkp_0_1.out
    clear Hkp_0_1
    replace kp_0_2 := Hkp_0_2.out
    clear Hkp_0_2
    replace kp_0_3 := Hkp_0_3.out
    clear Hkp_0_3
    replace kp_0_4 := Hkp_0_4.out
    clear Hkp_0_4
    replace kp_0_5 := Hkp_0_5.out
    clear Hkp_0_5
    have HBY3 := Lib.hid (Below.step HBwt_4.out hY3)
    replace kp_0_0 := cell_below hY3 kp_0_0
    replace kp_0_1 := cell_below hY3 kp_0_1
    replace kp_0_2 := cell_below hY3 kp_0_2
    replace kp_0_3 := cell_below hY3 kp_0_3
    replace kp_0_4 := cell_below hY3 kp_0_4
    replace kp_0_5 := cell_below hY3 kp_0_5
    clear hY3
    cases ret_hid H
    go_wp2_with fail
    go_ret2
    exact ⟨rfl, HBY3.out⟩
end Go.Proofs.YtgimcnpkngpmiaaGreatDoor.GiPostmarkText

/- The contracts of spec.l1In and spec.l1Num: whether a number lies within bounds, and its decimal numeral. Condition: the number is an int, from -2^62 on for l1Num. -/
namespace Go.Proofs.YtgimcnpkngpmiaaGreatDoor.Num
open Go.RowKit

theorem digits10 (n : Int) (_h0 : 0 ≤ n) (h : n < 10) : (ByteArray.mk #[48, 49, 50, 51, 52, 53, 54, 55, 56, 57]).extract n.toNat (n + 1).toNat = ByteArray.mk #[UInt8.ofNat (48 + n.toNat)] := by
  obtain rfl | rfl | rfl | rfl | rfl | rfl | rfl | rfl | rfl | rfl : n = 0 ∨ n = 1 ∨ n = 2 ∨ n = 3 ∨ n = 4 ∨ n = 5 ∨ n = 6 ∨ n = 7 ∨ n = 8 ∨ n = 9 := by omega
  all_goals rfl

theorem decDigits_step (n : Int) (_h0 : 0 ≤ n) (h : ¬ n < 10) : Lib.decDigits n.toNat = Lib.decDigits (n / 10).toNat ++ [UInt8.ofNat (48 + (n % 10).toNat)] := by
  rw [Lib.decDigits, dif_neg (by omega)]
  have e1 : n.toNat / 10 = (n / 10).toNat := by omega
  have e2 : n.toNat % 10 = (n % 10).toNat := by omega
  rw [e1, e2]

theorem add_digit (n : Int) (h0 : 0 ≤ n) (h : ¬ n < 10) (hb : n ≤ 4611686018427387904) (W : World) :
    (Op.stringOp .add ⟨(Lib.decDigits (n / 10).toNat).toArray⟩ ((ByteArray.mk #[48, 49, 50, 51, 52, 53, 54, 55, 56, 57]).extract (n % 10).toNat (n % 10 + 1).toNat)).run Tryz.prog W
      = .ok (.string ⟨(Lib.decDigits n.toNat).toArray⟩) W := by
  have hl : Lib.nDigits (n / 10).toNat ≤ 20 := Lib.nDigits_le20 _ (by omega)
  rw [digits10 (n % 10) (by omega) (by omega)]
  rw [run_string_add_sum]
  · rw [decDigits_step n h0 h]
    congr 2
  · have e1 : (ByteArray.mk (Lib.decDigits (n / 10).toNat).toArray).size = Lib.nDigits (n / 10).toNat := by
      rw [← Lib.decDigits_length]; rfl
    rw [e1]
    show Lib.nDigits (n / 10).toNat + 1 ≤ _
    omega

set_option maxHeartbeats 800000 in
theorem l1Num_pos (k : Nat) : ∀ (n : Int) (w : World), n < k → 0 ≤ n → n ≤ 4611686018427387904 →
    Calls Tryz.prog 50 #[.int .i64 n] w fun e w' => e = .returned (.string ⟨(Lib.decDigits n.toNat).toArray⟩) ∧ ∃ m, w' = w.drewN m := by
  induction k with
  | zero => intro n w hk h0 _; omega
  | succ k ih =>
    intro n w hk h0 hb
    by_cases h10 : n < 10
    · have HD := Lib.hid (digits10 n h0 h10)
      go_enter Tryz.func50, Tryz.ntmps50
      go_wp2_with fail
      go_ret
      refine ⟨?_, 0, rfl⟩
      rw [Lib.decDigits_one (by omega)]
      simp only [HD.out]
      rfl
    · have hadd := add_digit n h0 h10 hb
      go_enter Tryz.func50, Tryz.ntmps50
      go_wp2_with fail
      have q1 : IntKind.i64.wrap (n.tdiv 10) = n / 10 := by rw [Int.tdiv_eq_ediv_of_nonneg h0]; exact IntWalk.i64_in _ (by omega)
      have q2 : n.tmod 10 = n % 10 := Int.tmod_eq_emod_of_nonneg h0
      have q3 : IntKind.i64.wrap (n % 10) = n % 10 := IntWalk.i64_in _ (by omega)
      have q4 : IntKind.i64.wrap (n % 10 + 1) = n % 10 + 1 := IntWalk.i64_in _ (by omega)
      have b1 : 0 ≤ n % 10 := by omega
      have b2 : n % 10 ≤ n % 10 + 1 := by omega
      have b3 : n % 10 + 1 ≤ 10 := by omega
      have b4 : 0 ≤ n % 10 + 1 := by omega
      have L1 : n / 10 < (k : Int) := by omega
      have L2 : 0 ≤ n / 10 := by omega
      have L3 : n / 10 ≤ 4611686018427387904 := by omega
      go_quiet ((go_at_call 50; exact Calls.quiet_of (ih (n / 10) _ L1 L2 L3)))
      go_wp2_with fail
      go_ret
      exact ⟨rfl, _, rfl⟩

theorem add_minus (n : Int) (h : n < 0) (hb : -4611686018427387904 ≤ n) (W : World) :
    (Op.stringOp .add ⟨#[45]⟩ ⟨(Lib.decDigits (-n).toNat).toArray⟩).run Tryz.prog W = .ok (.string ⟨(Lib.itoa n).toArray⟩) W := by
  have hl : Lib.nDigits (-n).toNat ≤ 20 := Lib.nDigits_le20 _ (by omega)
  have e1 : (ByteArray.mk (Lib.decDigits (-n).toNat).toArray).size = Lib.nDigits (-n).toNat := by
    rw [← Lib.decDigits_length]; rfl
  have e2 : (-n).toNat = n.natAbs := by omega
  rw [run_string_add_sum]
  · unfold Lib.itoa
    rw [if_pos h, e2]
    congr 2
  · rw [e1]
    show 1 + _ ≤ _
    omega

/-- spec.l1Num, for every number that is not too far out -/
theorem l1Num_any (n : Int) (w : World) (h1 : -4611686018427387904 ≤ n) (h2 : n ≤ 4611686018427387904) :
    Calls Tryz.prog 50 #[.int .i64 n] w fun e w' => e = .returned (.string ⟨(Lib.itoa n).toArray⟩) ∧ ∃ m, w' = w.drewN m := by
  by_cases h : n < 0
  · have hadd := add_minus n h h1
    have L1 : -n < ((-n).toNat + 1 : Nat) := by omega
    go_enter Tryz.func50, Tryz.ntmps50
    go_wp2_with (go_at_call 50; refine (l1Num_pos ((-n).toNat + 1) (-n) _ L1 (by omega) (by omega)).mono ?_; rintro e w' ⟨rfl, m, rfl⟩)
    go_ret
    exact ⟨rfl, _, rfl⟩
  · refine (l1Num_pos (n.toNat + 1) n w (by omega) (by omega) h2).mono ?_
    rintro e w' ⟨rfl, m, rfl⟩
    refine ⟨?_, m, rfl⟩
    unfold Lib.itoa
    rw [if_neg h]

end Go.Proofs.YtgimcnpkngpmiaaGreatDoor.Num

/- spec.l1Num as a plain function, for numbers that are not too far out; the contract of the program's. No condition. -/
namespace Go.Proofs.YtgimcnpkngpmiaaGreatDoor.GsL1Num
set_option linter.unusedVariables false
open Go.RowKit
open Go.Proofs.YtgimcnpkngpmiaaGreatDoor.Turn
def P (n : Int) : Option ByteArray := if -4611686018427387904 ≤ n ∧ n ≤ 4611686018427387904 then some ⟨(Lib.itoa n).toArray⟩ else none
theorem C (n : Int) (w : World) {r : ByteArray} (H : Hid (P n = some r)) : Calls Tryz.prog 50 #[.int .i64 n] w (Gives (.string r) w) := by
  have h : P n = some r := H
  unfold P at h
  by_cases hk : -4611686018427387904 ≤ n ∧ n ≤ 4611686018427387904
  · rw [if_pos hk] at h
    obtain rfl := Option.some.inj h
    refine (Go.Proofs.YtgimcnpkngpmiaaGreatDoor.Num.l1Num_any n w hk.1 hk.2).mono ?_
    rintro e w' ⟨rfl, m, rfl⟩
    exact ⟨rfl, Go.below_drewN (Below.refl _ _) m⟩
  · rw [if_neg hk] at h; simp at h
end Go.Proofs.YtgimcnpkngpmiaaGreatDoor.GsL1Num

/- loop.example/g01062/spec.l11Shown as a plain function, and the contract of the program's: where the plain one has an answer, the program has it. Conditions: slices read as lists. -/
namespace Go.Proofs.YtgimcnpkngpmiaaGreatDoor.GsL11Shown
set_option linter.unusedVariables false
set_option linter.unusedSimpArgs false
open Go.RowKit
open Go.Proofs.YtgimcnpkngpmiaaGreatDoor.Rowed Go.Proofs.YtgimcnpkngpmiaaGreatDoor.Turn Go.Proofs.YtgimcnpkngpmiaaGreatDoor.Aid Go.Proofs.YtgimcnpkngpmiaaGreatDoor.GoP Go.Proofs.YtgimcnpkngpmiaaGreatDoor.GoM

def l0 (p_town : ByteArray) (p_lost : ByteArray) (s : ByteArray × Int) (nx0 bk0 : ByteArray × Int → Option (ByteArray)) : Option (ByteArray) :=
  unp2 s fun s_3l0 i_4l0 =>
  letK (decide (i_4l0 < (p_town.size : Int))) fun (t_8 : Bool) =>
  iteK t_8
  (Option.bind (idx p_lost.toList i_4l0) fun (yt_12 : UInt8) =>
  letK ((yt_12.toNat : Int)) fun (t_12 : Int) =>
  letK (t_12 == 120) fun (t_13 : Bool) =>
  iteK t_13
  (guardK (s_3l0.size + (⟨#[63]⟩ : ByteArray).size ≤ maxLen) <|
  letK (s_3l0 ++ (⟨#[63]⟩ : ByteArray)) fun (t_15 : ByteArray) =>
  letK (IntKind.i64.wrap (i_4l0 + 1)) fun (t_27 : Int) =>
  appK nx0 (t_15, t_27))
  (letK (IntKind.i64.wrap (i_4l0 + 1)) fun (t_22 : Int) =>
  guardK ((0 : Int) ≤ i_4l0 ∧ (i_4l0 : Int) ≤ t_22 ∧ (t_22 : Int) ≤ (p_town.size : Int)) <|
  letK (ByteArray.extract p_town (Int.toNat i_4l0) (Int.toNat t_22)) fun (t_23 : ByteArray) =>
  guardK (s_3l0.size + t_23.size ≤ maxLen) <|
  letK (s_3l0 ++ t_23) fun (t_24 : ByteArray) =>
  letK (IntKind.i64.wrap (i_4l0 + 1)) fun (t_27 : Int) =>
  appK nx0 (t_24, t_27)))
  (appK bk0 (s_3l0, i_4l0))

def e0  (s : ByteArray × Int) : Option (ByteArray) :=
  unp2 s fun s_3l0 i_4l0 =>
  some s_3l0

def P (fuel : Nat) (p : Go.Proofs.YtgimcnpkngpmiaaGreatDoor.PPostmark.Postmark) : Option (ByteArray) :=
  unPostmark p fun (p_id : Int) (p_town : ByteArray) (p_kind_ : Int) (p_first : Int) (p_last : Int) (p_lost : ByteArray) =>
  loopK (l0 p_town p_lost) fuel ((⟨#[]⟩ : ByteArray), 0) (e0 )

set_option maxRecDepth 100000 in
set_option maxHeartbeats 2000000 in
theorem C (fuel : Nat) (p : Go.Proofs.YtgimcnpkngpmiaaGreatDoor.PPostmark.Postmark)   (w : World)   {r : ByteArray} (H : Hid (P fuel p = some r)) :
    Calls Tryz.prog 51 #[p.val] w (Gives (.string r) w) := by
  have HB := Lib.hid (Below.refl w.heap.size w)
  unfold P at H
  obtain ⟨p_id, p_town, p_kind_, p_first, p_last, p_lost⟩ := p
  replace H := unPostmark_hid H
  unfold Go.Proofs.YtgimcnpkngpmiaaGreatDoor.PPostmark.Postmark.val
  go_enter Tryz.func51, Tryz.ntmps51
  obtain ⟨w_p_0, hw_p_0⟩ : ∃ x, w.alloc (.cells #[.int .i64 p_id, .string p_town, .int .i64 p_kind_, .int .i64 p_first, .int .i64 p_last, .string p_lost] 34) = x := ⟨_, rfl⟩
  have bw_p_0 : Below w.heap.size w w_p_0 := by rw [← hw_p_0]; exact (Below.refl _ _).alloc (Nat.le_refl _) _
  have HBw_p_0 := Lib.hid (Below.step HB.out bw_p_0)
  clear bw_p_0
  have kp_0_0 : w_p_0.cell? ⟨w.heap.size, 0, none⟩ = some (.int .i64 p_id) := by rw [← hw_p_0]; exact box_new _ _ _ 0 _ rfl
  have kp_0_1 : w_p_0.cell? ⟨w.heap.size, 1, none⟩ = some (.string p_town) := by rw [← hw_p_0]; exact box_new _ _ _ 1 _ rfl
  have kp_0_2 : w_p_0.cell? ⟨w.heap.size, 2, none⟩ = some (.int .i64 p_kind_) := by rw [← hw_p_0]; exact box_new _ _ _ 2 _ rfl
  have kp_0_3 : w_p_0.cell? ⟨w.heap.size, 3, none⟩ = some (.int .i64 p_first) := by rw [← hw_p_0]; exact box_new _ _ _ 3 _ rfl
  have kp_0_4 : w_p_0.cell? ⟨w.heap.size, 4, none⟩ = some (.int .i64 p_last) := by rw [← hw_p_0]; exact box_new _ _ _ 4 _ rfl
  have kp_0_5 : w_p_0.cell? ⟨w.heap.size, 5, none⟩ = some (.string p_lost) := by rw [← hw_p_0]; exact box_new _ _ _ 5 _ rfl
  go_wp2_with fail
  go_loopg [3, 4] (fuel) (fun m_ v3_ v4_ wr => ∃ (s_3l0 : ByteArray) (i_4l0 : Int), v3_ = .string s_3l0 ∧ v4_ = .int .i64 i_4l0 ∧ Hid (loopK (l0 p_town p_lost) m_ (s_3l0, i_4l0) (e0 ) = some r) ∧ Hid (Below w.heap.size w wr) ∧ wr.cell? ⟨w.heap.size, 0, none⟩ = some (.int .i64 p_id) ∧ wr.cell? ⟨w.heap.size, 1, none⟩ = some (.string p_town) ∧ wr.cell? ⟨w.heap.size, 2, none⟩ = some (.int .i64 p_kind_) ∧ wr.cell? ⟨w.heap.size, 3, none⟩ = some (.int .i64 p_first) ∧ wr.cell? ⟨w.heap.size, 4, none⟩ = some (.int .i64 p_last) ∧ wr.cell? ⟨w.heap.size, 5, none⟩ = some (.string p_lost))
  case atStart => exact ⟨_, _, rfl, rfl, H, HBw_p_0, kp_0_0, kp_0_1, kp_0_2, kp_0_3, kp_0_4, kp_0_5⟩
  case round =>
    obtain ⟨s_3l0, i_4l0, rfl, rfl, H, HBwr0, kp_0_0, kp_0_1, kp_0_2, kp_0_3, kp_0_4, kp_0_5⟩ := hrel
    rename World => wr0
    cases gk with
    | zero => exact (loop_zero H).elim
    | succ m0 =>
      replace H := loop_succ H
      unfold l0 at H
      replace H := unp2_hid H
      replace H := let_hid H
      obtain ⟨t_8, ht_8, H⟩ := H
      cases t_8 with
      | false =>
        replace H := ite_f H
        replace H := app_hid H
        unfold e0 at H
        replace H := unp2_hid H
        obtain rfl := ret_hid H
        go_wp2_with fail
        go_ret
        exact ⟨rfl, HBwr0.out⟩
      | true =>
        replace H := ite_t H
        replace H := idx_hid H
        obtain ⟨nt_12, yt_12, et_12, lt_12, gt_12, H⟩ := H
        subst et_12
        have nc_599 : nt_12 < p_town.size := by have := of_decide_eq_true ht_8; omega
        have rt_12 := byte_rule lt_12 gt_12.out
        have b0t_12 : (0 : Int) ≤ (nt_12 : Int) := by omega
        have b1t_12 : (nt_12 : Int) < (p_lost.size : Int) := by have := size_list p_lost; omega
        have b2t_12 : ((nt_12 : Int)).toNat = nt_12 := by omega
        have b3t_12 : nt_12 < p_lost.size := by have := size_list p_lost; omega
        replace H := let_hid H
        obtain ⟨t_12, ht_12, H⟩ := H
        replace H := let_hid H
        obtain ⟨t_13, ht_13, H⟩ := H
        cases t_13 with
        | false =>
          replace H := ite_f H
          replace H := let_hid H
          obtain ⟨t_22, ht_22, H⟩ := H
          replace H := guard_hid H
          obtain ⟨hl_t_23, H⟩ := H
          replace H := let_hid H
          obtain ⟨t_23, ht_23, H⟩ := H
          have ct_23 := slice_both (P := Tryz.prog) (t := 9) (k := .i64) (k' := .i64) Tryz.underlying9 ht_23 hl_t_23
          clear hl_t_23
          have hht_23 := Lib.hid ht_23
          clear ht_23
          replace H := guard_hid H
          obtain ⟨hl_t_24, H⟩ := H
          replace H := let_hid H
          obtain ⟨t_24, ht_24, H⟩ := H
          have ct_24 := cat_rule (P := Tryz.prog) ht_24 hl_t_24
          clear hl_t_24
          have hht_24 := Lib.hid ht_24
          clear ht_24
          replace H := let_hid H
          obtain ⟨t_27, ht_27, H⟩ := H
          obtain rfl := ht_22.symm.trans ht_27
          replace H := app_hid H
          go_wp2_with fail
          go_roundg m0
          case measure => omega
          case rel => exact ⟨_, _, rfl, rfl, H, HBwr0, kp_0_0, kp_0_1, kp_0_2, kp_0_3, kp_0_4, kp_0_5⟩
        | true =>
          replace H := ite_t H
          replace H := guard_hid H
          obtain ⟨hl_t_15, H⟩ := H
          replace H := let_hid H
          obtain ⟨t_15, ht_15, H⟩ := H
          have ct_15 := cat_rule (P := Tryz.prog) ht_15 hl_t_15
          clear hl_t_15
          have hht_15 := Lib.hid ht_15
          clear ht_15
          replace H := let_hid H
          obtain ⟨t_27, ht_27, H⟩ := H
          replace H := app_hid H
          go_wp2_with fail
          go_roundg m0
          case measure => omega
          case rel => exact ⟨_, _, rfl, rfl, H, HBwr0, kp_0_0, kp_0_1, kp_0_2, kp_0_3, kp_0_4, kp_0_5⟩
end Go.Proofs.YtgimcnpkngpmiaaGreatDoor.GsL11Shown

/- loop.example/g01062/spec.PostmarkText as a plain function, and the contract of the program's: where the plain one has an answer, the program has it. Conditions: slices read as lists. -/
namespace Go.Proofs.YtgimcnpkngpmiaaGreatDoor.GsPostmarkText
set_option linter.unusedVariables false
set_option linter.unusedSimpArgs false
open Go.RowKit
open Go.Proofs.YtgimcnpkngpmiaaGreatDoor.Rowed Go.Proofs.YtgimcnpkngpmiaaGreatDoor.Turn Go.Proofs.YtgimcnpkngpmiaaGreatDoor.Aid Go.Proofs.YtgimcnpkngpmiaaGreatDoor.GoP Go.Proofs.YtgimcnpkngpmiaaGreatDoor.GoM

def P (fuel : Nat) (p : Go.Proofs.YtgimcnpkngpmiaaGreatDoor.PPostmark.Postmark) : Option (ByteArray × Bool) :=
  unPostmark p fun (p_id : Int) (p_town : ByteArray) (p_kind_ : Int) (p_first : Int) (p_last : Int) (p_lost : ByteArray) =>
  Option.bind (Go.Proofs.YtgimcnpkngpmiaaGreatDoor.GsL11One.P fuel (Go.Proofs.YtgimcnpkngpmiaaGreatDoor.PPostmark.Postmark.mk p_id p_town p_kind_ p_first p_last p_lost)) fun (t_4 : Bool) =>
  letK (!t_4) fun (t_5 : Bool) =>
  iteK t_5
  (some ((⟨#[]⟩ : ByteArray), false))
  (Option.bind (Go.Proofs.YtgimcnpkngpmiaaGreatDoor.GsL1Num.P p_id) fun (t_10 : ByteArray) =>
  guardK ((⟨#[112]⟩ : ByteArray).size + t_10.size ≤ maxLen) <|
  letK ((⟨#[112]⟩ : ByteArray) ++ t_10) fun (t_11 : ByteArray) =>
  guardK (t_11.size + (⟨#[32]⟩ : ByteArray).size ≤ maxLen) <|
  letK (t_11 ++ (⟨#[32]⟩ : ByteArray)) fun (t_12 : ByteArray) =>
  Option.bind (Go.Proofs.YtgimcnpkngpmiaaGreatDoor.GsL11Shown.P fuel (Go.Proofs.YtgimcnpkngpmiaaGreatDoor.PPostmark.Postmark.mk p_id p_town p_kind_ p_first p_last p_lost)) fun (t_14 : ByteArray) =>
  guardK (t_12.size + t_14.size ≤ maxLen) <|
  letK (t_12 ++ t_14) fun (t_15 : ByteArray) =>
  guardK (t_15.size + (⟨#[32, 107]⟩ : ByteArray).size ≤ maxLen) <|
  letK (t_15 ++ (⟨#[32, 107]⟩ : ByteArray)) fun (t_16 : ByteArray) =>
  Option.bind (Go.Proofs.YtgimcnpkngpmiaaGreatDoor.GsL1Num.P p_kind_) fun (t_19 : ByteArray) =>
  guardK (t_16.size + t_19.size ≤ maxLen) <|
  letK (t_16 ++ t_19) fun (t_20 : ByteArray) =>
  guardK (t_20.size + (⟨#[32]⟩ : ByteArray).size ≤ maxLen) <|
  letK (t_20 ++ (⟨#[32]⟩ : ByteArray)) fun (t_21 : ByteArray) =>
  Option.bind (Go.Proofs.YtgimcnpkngpmiaaGreatDoor.GsL1Num.P p_first) fun (t_24 : ByteArray) =>
  guardK (t_21.size + t_24.size ≤ maxLen) <|
  letK (t_21 ++ t_24) fun (t_25 : ByteArray) =>
  guardK (t_25.size + (⟨#[45]⟩ : ByteArray).size ≤ maxLen) <|
  letK (t_25 ++ (⟨#[45]⟩ : ByteArray)) fun (t_26 : ByteArray) =>
  Option.bind (Go.Proofs.YtgimcnpkngpmiaaGreatDoor.GsL1Num.P p_last) fun (t_29 : ByteArray) =>
  guardK (t_26.size + t_29.size ≤ maxLen) <|
  letK (t_26 ++ t_29) fun (t_30 : ByteArray) =>
  some (t_30, true))

set_option maxRecDepth 100000 in
set_option maxHeartbeats 2000000 in
theorem C (fuel : Nat) (p : Go.Proofs.YtgimcnpkngpmiaaGreatDoor.PPostmark.Postmark)   (w : World)   {r0 : ByteArray} {r1 : Bool} (H : Hid (P fuel p = some (r0, r1))) :
    Calls Tryz.prog 18 #[p.val] w (Gives (.tuple #[.string r0, .bool r1]) w) := by
  have HB := Lib.hid (Below.refl w.heap.size w)
  unfold P at H
  obtain ⟨p_id, p_town, p_kind_, p_first, p_last, p_lost⟩ := p
  replace H := unPostmark_hid H
  unfold Go.Proofs.YtgimcnpkngpmiaaGreatDoor.PPostmark.Postmark.val
  go_enter Tryz.func18, Tryz.ntmps18
  obtain ⟨w_p_0, hw_p_0⟩ : ∃ x, w.alloc (.cells #[.int .i64 p_id, .string p_town, .int .i64 p_kind_, .int .i64 p_first, .int .i64 p_last, .string p_lost] 34) = x := ⟨_, rfl⟩
  have bw_p_0 : Below w.heap.size w w_p_0 := by rw [← hw_p_0]; exact (Below.refl _ _).alloc (Nat.le_refl _) _
  have HBw_p_0 := Lib.hid (Below.step HB.out bw_p_0)
  clear bw_p_0
  have kp_0_0 : w_p_0.cell? ⟨w.heap.size, 0, none⟩ = some (.int .i64 p_id) := by rw [← hw_p_0]; exact box_new _ _ _ 0 _ rfl
  have kp_0_1 : w_p_0.cell? ⟨w.heap.size, 1, none⟩ = some (.string p_town) := by rw [← hw_p_0]; exact box_new _ _ _ 1 _ rfl
  have kp_0_2 : w_p_0.cell? ⟨w.heap.size, 2, none⟩ = some (.int .i64 p_kind_) := by rw [← hw_p_0]; exact box_new _ _ _ 2 _ rfl
  have kp_0_3 : w_p_0.cell? ⟨w.heap.size, 3, none⟩ = some (.int .i64 p_first) := by rw [← hw_p_0]; exact box_new _ _ _ 3 _ rfl
  have kp_0_4 : w_p_0.cell? ⟨w.heap.size, 4, none⟩ = some (.int .i64 p_last) := by rw [← hw_p_0]; exact box_new _ _ _ 4 _ rfl
  have kp_0_5 : w_p_0.cell? ⟨w.heap.size, 5, none⟩ = some (.string p_lost) := by rw [← hw_p_0]; exact box_new _ _ _ 5 _ rfl
  replace H := bind_hid H
  obtain ⟨t_4, qt_4, H⟩ := H
  go_wp2_with fail
  go_at_call 49
  refine (Go.Proofs.YtgimcnpkngpmiaaGreatDoor.GsL11One.C fuel ((Go.Proofs.YtgimcnpkngpmiaaGreatDoor.PPostmark.Postmark.mk p_id p_town p_kind_ p_first p_last p_lost))  _    qt_4).mono ?_
  rintro e_t_4 wt_4 ⟨rfl, bt_4⟩
  have HBwt_4 := Lib.hid (Below.step HBw_p_0.out bt_4)
  replace kp_0_0 := cell_below bt_4 kp_0_0
  replace kp_0_1 := cell_below bt_4 kp_0_1
  replace kp_0_2 := cell_below bt_4 kp_0_2
  replace kp_0_3 := cell_below bt_4 kp_0_3
  replace kp_0_4 := cell_below bt_4 kp_0_4
  replace kp_0_5 := cell_below bt_4 kp_0_5
  clear bt_4
  cases t_4 with
  | false =>
    replace H := let_hid H
    obtain ⟨t_5, ht_5, H⟩ := H
    obtain rfl : t_5 = true := ht_5.symm
    replace H := ite_t H
    cases ret_hid H
    go_wp2_with fail
    go_ret2
    exact ⟨rfl, HBwt_4.out⟩
  | true =>
    replace H := let_hid H
    obtain ⟨t_5, ht_5, H⟩ := H
    obtain rfl : t_5 = false := ht_5.symm
    replace H := ite_f H
    go_wp2_with fail
    have Hkp_0_0 := Lib.hid kp_0_0
    replace kp_0_0 := cell_regrown kp_0_0
    have Hkp_0_1 := Lib.hid kp_0_1
    replace kp_0_1 := cell_regrown kp_0_1
    have Hkp_0_2 := Lib.hid kp_0_2
    replace kp_0_2 := cell_regrown kp_0_2
    have Hkp_0_3 := Lib.hid kp_0_3
    replace kp_0_3 := cell_regrown kp_0_3
    have Hkp_0_4 := Lib.hid kp_0_4
    replace kp_0_4 := cell_regrown kp_0_4
    have Hkp_0_5 := Lib.hid kp_0_5
    replace kp_0_5 := cell_regrown kp_0_5
    replace H := bind_hid H
    obtain ⟨t_10, qt_10, H⟩ := H
    have nt_10 : ∀ d os, Calls Tryz.prog 50 #[.int .i64 p_id] (Go.Sort.grow (redrawn wt_4 d) os) fun e w'' => e = .returned (.string t_10) ∧ ∃ p : Regrown, w'' = Go.Sort.grow (redrawn wt_4 p.d) p.os := fun d os => Calls.regrown_of (Go.Proofs.YtgimcnpkngpmiaaGreatDoor.GsL1Num.C (p_id)  _    qt_10)
    replace H := guard_hid H
    obtain ⟨hl_t_11, H⟩ := H
    replace H := let_hid H
    obtain ⟨t_11, ht_11, H⟩ := H
    have ct_11 := cat_rule (P := Tryz.prog) ht_11 hl_t_11
    clear hl_t_11
    have hht_11 := Lib.hid ht_11
    clear ht_11
    replace H := guard_hid H
    obtain ⟨hl_t_12, H⟩ := H
    replace H := let_hid H
    obtain ⟨t_12, ht_12, H⟩ := H
    have ct_12 := cat_rule (P := Tryz.prog) ht_12 hl_t_12
    clear hl_t_12
    have hht_12 := Lib.hid ht_12
    clear ht_12
    replace H := bind_hid H
    obtain ⟨t_14, qt_14, H⟩ := H
    have nt_14 : ∀ d os, Calls Tryz.prog 51 #[.agg #[.int .i64 p_id, .string p_town, .int .i64 p_kind_, .int .i64 p_first, .int .i64 p_last, .string p_lost]] (Go.Sort.grow (redrawn wt_4 d) os) fun e w'' => e = .returned (.string t_14) ∧ ∃ p : Regrown, w'' = Go.Sort.grow (redrawn wt_4 p.d) p.os := fun d os => Calls.regrown_of (Go.Proofs.YtgimcnpkngpmiaaGreatDoor.GsL11Shown.C fuel ((Go.Proofs.YtgimcnpkngpmiaaGreatDoor.PPostmark.Postmark.mk p_id p_town p_kind_ p_first p_last p_lost))  _    qt_14)
    replace H := guard_hid H
    obtain ⟨hl_t_15, H⟩ := H
    replace H := let_hid H
    obtain ⟨t_15, ht_15, H⟩ := H
    have ct_15 := cat_rule (P := Tryz.prog) ht_15 hl_t_15
    clear hl_t_15
    have hht_15 := Lib.hid ht_15
    clear ht_15
    replace H := guard_hid H
    obtain ⟨hl_t_16, H⟩ := H
    replace H := let_hid H
    obtain ⟨t_16, ht_16, H⟩ := H
    have ct_16 := cat_rule (P := Tryz.prog) ht_16 hl_t_16
    clear hl_t_16
    have hht_16 := Lib.hid ht_16
    clear ht_16
    replace H := bind_hid H
    obtain ⟨t_19, qt_19, H⟩ := H
    have nt_19 : ∀ d os, Calls Tryz.prog 50 #[.int .i64 p_kind_] (Go.Sort.grow (redrawn wt_4 d) os) fun e w'' => e = .returned (.string t_19) ∧ ∃ p : Regrown, w'' = Go.Sort.grow (redrawn wt_4 p.d) p.os := fun d os => Calls.regrown_of (Go.Proofs.YtgimcnpkngpmiaaGreatDoor.GsL1Num.C (p_kind_)  _    qt_19)
    replace H := guard_hid H
    obtain ⟨hl_t_20, H⟩ := H
    replace H := let_hid H
    obtain ⟨t_20, ht_20, H⟩ := H
    have ct_20 := cat_rule (P := Tryz.prog) ht_20 hl_t_20
    clear hl_t_20
    have hht_20 := Lib.hid ht_20
    clear ht_20
    replace H := guard_hid H
    obtain ⟨hl_t_21, H⟩ := H
    replace H := let_hid H
    obtain ⟨t_21, ht_21, H⟩ := H
    have ct_21 := cat_rule (P := Tryz.prog) ht_21 hl_t_21
    clear hl_t_21
    have hht_21 := Lib.hid ht_21
    clear ht_21
    replace H := bind_hid H
    obtain ⟨t_24, qt_24, H⟩ := H
    have nt_24 : ∀ d os, Calls Tryz.prog 50 #[.int .i64 p_first] (Go.Sort.grow (redrawn wt_4 d) os) fun e w'' => e = .returned (.string t_24) ∧ ∃ p : Regrown, w'' = Go.Sort.grow (redrawn wt_4 p.d) p.os := fun d os => Calls.regrown_of (Go.Proofs.YtgimcnpkngpmiaaGreatDoor.GsL1Num.C (p_first)  _    qt_24)
    replace H := guard_hid H
    obtain ⟨hl_t_25, H⟩ := H
    replace H := let_hid H
    obtain ⟨t_25, ht_25, H⟩ := H
    have ct_25 := cat_rule (P := Tryz.prog) ht_25 hl_t_25
    clear hl_t_25
    have hht_25 := Lib.hid ht_25
    clear ht_25
    replace H := guard_hid H
    obtain ⟨hl_t_26, H⟩ := H
    replace H := let_hid H
    obtain ⟨t_26, ht_26, H⟩ := H
    have ct_26 := cat_rule (P := Tryz.prog) ht_26 hl_t_26
    clear hl_t_26
    have hht_26 := Lib.hid ht_26
    clear ht_26
    replace H := bind_hid H
    obtain ⟨t_29, qt_29, H⟩ := H
    have nt_29 : ∀ d os, Calls Tryz.prog 50 #[.int .i64 p_last] (Go.Sort.grow (redrawn wt_4 d) os) fun e w'' => e = .returned (.string t_29) ∧ ∃ p : Regrown, w'' = Go.Sort.grow (redrawn wt_4 p.d) p.os := fun d os => Calls.regrown_of (Go.Proofs.YtgimcnpkngpmiaaGreatDoor.GsL1Num.C (p_last)  _    qt_29)
    replace H := guard_hid H
    obtain ⟨hl_t_30, H⟩ := H
    replace H := let_hid H
    obtain ⟨t_30, ht_30, H⟩ := H
    have ct_30 := cat_rule (P := Tryz.prog) ht_30 hl_t_30
    clear hl_t_30
    have hht_30 := Lib.hid ht_30
    clear ht_30
    refine wp_region_quiet_below (by kernel_rfl) (by kernel_rfl) ?_
    repeat (go_big_quiet_step (first | (go_at_call 50; with_reducible exact nt_10 _ _) | (go_at_call 50; with_reducible exact nt_19 _ _) | (go_at_call 50; with_reducible exact nt_24 _ _) | (go_at_call 50; with_reducible exact nt_29 _ _) | (go_at_call 50; exact nt_10 _ _) | (go_at_call 51; exact nt_14 _ _) | (go_at_call 50; exact nt_19 _ _) | (go_at_call 50; exact nt_24 _ _) | (go_at_call 50; exact nt_29 _ _)))
    refine wpQuiet_nil ?_
    intro Y3 hY3
    replace hY3 := below_class hY3
    clear nt_10 nt_14 nt_19 nt_24 nt_29
    replace kp_0_0 := Hkp_0_0.out
    clear Hkp_0_0
    replace kp_0_1 := Hkp_0_1.out
    clear Hkp_0_1
    replace kp_0_2 := Hkp_0_2.out
    clear Hkp_0_2
    replace kp_0_3 := Hkp_0_3.out
    clear Hkp_0_3
    replace kp_0_4 := Hkp_0_4.out
    clear Hkp_0_4
    replace kp_0_5 := Hkp_0_5.out
    clear Hkp_0_5
    have HBY3 := Lib.hid (Below.step HBwt_4.out hY3)
    replace kp_0_0 := cell_below hY3 kp_0_0
    replace kp_0_1 := cell_below hY3 kp_0_1
    replace kp_0_2 := cell_below hY3 kp_0_2
    replace kp_0_3 := cell_below hY3 kp_0_3
    replace kp_0_4 := cell_below hY3 kp_0_4
    replace kp_0_5 := cell_below hY3 kp_0_5
    clear hY3
    cases ret_hid H
    go_wp2_with fail
    go_ret2
    exact ⟨rfl, HBY3.out⟩
end Go.Proofs.YtgimcnpkngpmiaaGreatDoor.GsPostmarkText

/- loop.example/g01062/laws.rTexts as a plain function, and the contract of the program's: where the plain one has an answer, the program has it. Conditions: slices read as lists. -/
namespace Go.Proofs.YtgimcnpkngpmiaaGreatDoor.GlRTexts
set_option linter.unusedVariables false
set_option linter.unusedSimpArgs false
open Go.RowKit
open Go.Proofs.YtgimcnpkngpmiaaGreatDoor.Rowed Go.Proofs.YtgimcnpkngpmiaaGreatDoor.Turn Go.Proofs.YtgimcnpkngpmiaaGreatDoor.Aid Go.Proofs.YtgimcnpkngpmiaaGreatDoor.GoP Go.Proofs.YtgimcnpkngpmiaaGreatDoor.GoM

def l0 (a : (List ByteArray)) (b : (List ByteArray)) (k0 : Nat) (s : Unit) (nx0 bk0 : Unit → Option (Bool)) : Option (Bool) :=
  
  Option.bind (idx a (k0 : Int)) fun (yt_14 : ByteArray) =>
  Option.bind (idx b (k0 : Int)) fun (yt_18 : ByteArray) =>
  letK (!(yt_14.toList == yt_18.toList)) fun (t_20 : Bool) =>
  iteK t_20
  (some false)
  (appK nx0 ())

def e0  (s : Unit) : Option (Bool) :=
  
  some true

def P (a : (List ByteArray)) (b : (List ByteArray)) : Option (Bool) :=
  letK ((a.length : Int) != (b.length : Int)) fun (t_5 : Bool) =>
  iteK t_5
  (some false)
  (cntK (l0 a b) (a.length) 0 () (e0 ))

set_option maxRecDepth 100000 in
set_option maxHeartbeats 2000000 in
theorem C (a : (List ByteArray)) (b : (List ByteArray)) (A0 : Option Addr) (c0 : Nat) (A1 : Option Addr) (c1 : Nat)  (w : World) (M0 : Hid (Cells w 1 A0 a.length (a.map Value.string))) (N0 : Hid (a.length ≤ 9223372036854775807)) (M1 : Hid (Cells w 1 A1 b.length (b.map Value.string))) (N1 : Hid (b.length ≤ 9223372036854775807))  {r : Bool} (H : Hid (P a b = some r)) :
    Calls Tryz.prog 19 #[.slice A0 a.length c0, .slice A1 b.length c1] w (Gives (.bool r) w) := by
  have HB := Lib.hid (Below.refl w.heap.size w)
  unfold P at H
  have N0o := N0.out
  have N1o := N1.out
  go_enter Tryz.func19, Tryz.ntmps19
  replace H := let_hid H
  obtain ⟨t_5, ht_5, H⟩ := H
  cases t_5 with
  | false =>
    have Hht_5 : Hid (a.length = b.length) := Lib.hid (by have := bne_eq_false_iff_eq.1 ht_5; omega)
    have nht_5 : (a.length == b.length) = true := beq_iff_eq.2 Hht_5.out
    replace H := ite_f H
    go_wp2_with fail
    go_loopg [5] (a.length) (fun m_ v5_ wr => ∃ (k0 : Nat) , k0 + m_ = a.length ∧ v5_ = .int .i64 (k0 : Int) ∧ Hid (cntK (l0 a b) m_ k0 () (e0 ) = some r) ∧ Hid (Below w.heap.size w wr))
    case atStart => exact ⟨0, by omega, rfl, H, HB⟩
    case round =>
      obtain ⟨k0, hkm0, rfl, H, HBwr0⟩ := hrel
      rename World => wr0
      cases gk with
      | zero =>
        obtain rfl : k0 = a.length := by omega
        have hc0 : decide (((a.length : Nat) : Int) < ((a.length : Nat) : Int)) = false := by simp
        replace H := cnt_zero H
        unfold e0 at H
        obtain rfl := ret_hid H
        go_wp2_with fail
        go_ret
        exact ⟨rfl, HBwr0.out⟩
      | succ m0 =>
        have hlt0 : k0 < a.length := by omega
        have hc0 : decide ((k0 : Int) < ((a.length : Nat) : Int)) = true := by simp; omega
        replace H := cnt_succ H
        unfold l0 at H
        go_wp2_with fail
        replace H := idx_hid H
        obtain ⟨nt_14, yt_14, et_14, lt_14, gt_14, H⟩ := H
        obtain rfl : k0 = nt_14 := by omega
        clear et_14
        obtain ⟨ab_t_14, ao_t_14, zt_14, At_14, z_t_14, ct_14_0⟩ := strs_at M0.out lt_14
        obtain rfl := Option.some.inj (gt_14.out.symm.trans z_t_14)
        subst At_14
        have ltt_14 := cell_lt ct_14_0
        replace ct_14_0 := cell_below HBwr0.out ct_14_0
        clear z_t_14
        have b0t_14 : (0 : Int) ≤ (k0 : Int) := by omega
        have b1t_14 : (k0 : Int) < ((a.length : Nat) : Int) := by omega
        have b2t_14 : ((k0 : Int)).toNat = k0 := by omega
        have Hct_14_0 := Lib.hid ct_14_0
        replace ct_14_0 := cell_regrown ct_14_0
        replace H := idx_hid H
        obtain ⟨nt_18, yt_18, et_18, lt_18, gt_18, H⟩ := H
        obtain rfl : k0 = nt_18 := by omega
        clear et_18
        obtain ⟨ab_t_18, ao_t_18, zt_18, At_18, z_t_18, ct_18_0⟩ := strs_at M1.out lt_18
        obtain rfl := Option.some.inj (gt_18.out.symm.trans z_t_18)
        subst At_18
        have ltt_18 := cell_lt ct_18_0
        replace ct_18_0 := cell_below HBwr0.out ct_18_0
        clear z_t_18
        have b0t_18 : (0 : Int) ≤ (k0 : Int) := by omega
        have b1t_18 : (k0 : Int) < ((b.length : Nat) : Int) := by omega
        have b2t_18 : ((k0 : Int)).toNat = k0 := by omega
        have Hct_18_0 := Lib.hid ct_18_0
        replace ct_18_0 := cell_regrown ct_18_0
        replace H := let_hid H
        obtain ⟨t_20, ht_20, H⟩ := H
        refine wp_region_quiet_below (by kernel_rfl) (by kernel_rfl) ?_
        repeat (go_big_quiet_step (fail))
        refine wpQuiet_nil ?_
        intro Y6 hY6
        replace hY6 := below_class hY6
        replace ct_14_0 := Hct_14_0.out
        clear Hct_14_0
        replace ct_18_0 := Hct_18_0.out
        clear Hct_18_0
        have HBY6 := Lib.hid (Below.step HBwr0.out hY6)
        replace ct_14_0 := cell_below hY6 ct_14_0
        replace ct_18_0 := cell_below hY6 ct_18_0
        clear hY6
        cases t_20 with
        | false =>
          replace H := ite_f H
          replace H := app_hid H
          go_wp2_with fail
          go_roundg m0
          case measure => omega
          case rel => exact ⟨k0 + 1, by omega, by go_num, H, HBY6⟩
        | true =>
          replace H := ite_t H
          obtain rfl := ret_hid H
          go_wp2_with fail
          go_ret
          exact ⟨rfl, HBY6.out⟩
  | true =>
    have nht_5 : ¬ (a.length = b.length) := by have := bne_iff_ne.1 ht_5; omega
    replace H := ite_t H
    obtain rfl := ret_hid H
    go_wp2_with fail
    go_ret
    exact ⟨rfl, HB.out⟩
end Go.Proofs.YtgimcnpkngpmiaaGreatDoor.GlRTexts

