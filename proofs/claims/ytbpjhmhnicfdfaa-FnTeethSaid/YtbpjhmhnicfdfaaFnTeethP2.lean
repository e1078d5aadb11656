/- The texts on which the proof of FnTeeth stands, one behind the other (2 of 3). No condition of their own. -/
import Derived.Test.YtbpjhmhnicfdfaaChecked
import Derived.Test.YtbpjhmhnicfdfaaFnTeethP1
import Derived.WalkKit
import Derived.WalkSpells
import Derived.WalkLawsBesides
import Derived.BigQuiet
import Derived.OwnWalk
import Derived.Deep.LoopGhost
import Derived.Deep.QuietTactic
import Derived.IntWalk
import Derived.Lib.QuietBelow
import Derived.Deep.RegionHeld3
/- loop.example/g01062/spec.DrawIsPair as a plain function, and the contract of the program's: where the plain one has an answer, the program has it. Conditions: slices read as lists. -/
namespace Go.Proofs.Ytbpjhmhnicfdfaa.GsDrawIsPair
set_option linter.unusedVariables false
set_option linter.unusedSimpArgs false
open Go.RowKit
open Go.Proofs.Ytbpjhmhnicfdfaa.Rowed Go.Proofs.Ytbpjhmhnicfdfaa.Turn Go.Proofs.Ytbpjhmhnicfdfaa.Aid Go.Proofs.Ytbpjhmhnicfdfaa.GoP Go.Proofs.Ytbpjhmhnicfdfaa.GoM

def j0 (t_8 : (List Int)) (s : (List Int) × Go.Proofs.Ytbpjhmhnicfdfaa.GoC.Tape) : Option ((List Int) × (List Int) × Int) :=
  unp2 s fun b_7j0 t_5_c0j0 =>
  letK ([0, 1, 5, 10, 50, (-1), 51]) fun (t_47 : (List Int)) =>
  bind2 (Go.Proofs.Ytbpjhmhnicfdfaa.GsL1CurPick.P t_5_c0j0 24) fun (t_49 : Int) (t_49_tp : Go.Proofs.Ytbpjhmhnicfdfaa.GoC.Tape) =>
  letK (IntKind.i64.wrap (Int.tdiv t_49 11)) fun (t_50 : Int) =>
  letK (IntKind.i64.wrap (5 + t_50)) fun (t_51 : Int) =>
  guardK ((0 : Int) ≤ t_51 ∧ (t_51 : Int) ≤ (t_47.length : Int)) <|
  letK (List.take (Int.toNat t_51) t_47) fun (t_52 : (List Int)) =>
  bind2 (Go.Proofs.Ytbpjhmhnicfdfaa.GsL1CurAmong.P t_49_tp t_52) fun (t_53 : Int) (t_53_tp : Go.Proofs.Ytbpjhmhnicfdfaa.GoC.Tape) =>
  some (t_8, b_7j0, t_53)

def l0 (t_8 : (List Int)) (t_20 : Int) (k0 : Nat) (s : (List Int) × Go.Proofs.Ytbpjhmhnicfdfaa.GoC.Tape) (nx0 bk0 : (List Int) × Go.Proofs.Ytbpjhmhnicfdfaa.GoC.Tape → Option ((List Int) × (List Int) × Int)) : Option ((List Int) × (List Int) × Int) :=
  unp2 s fun b_7l0 t_5_c0l0 =>
  Option.bind (idx t_8 (k0 : Int)) fun (yt_30 : Int) =>
  letK (IntKind.i64.wrap (yt_30 + t_20)) fun (t_33 : Int) =>
  letK ([0, 0, 0, 1, 9]) fun (t_35 : (List Int)) =>
  bind2 (Go.Proofs.Ytbpjhmhnicfdfaa.GsL1CurAmong.P t_5_c0l0 t_35) fun (t_36 : Int) (t_36_tp : Go.Proofs.Ytbpjhmhnicfdfaa.GoC.Tape) =>
  letK (IntKind.i64.wrap (t_33 + t_36)) fun (t_37 : Int) =>
  guardK (b_7l0.length ≤ 1099511627776) <|
  letK (b_7l0 ++ [t_37]) fun (t_39 : (List Int)) =>
  appK nx0 (t_39, t_36_tp)

def e0 (code : (List Int)) (fuel : Nat) (tapes : List Int → Go.Proofs.Ytbpjhmhnicfdfaa.GoC.Tape) (t_5 : Go.Proofs.Ytbpjhmhnicfdfaa.GoC.Tape) (t_8 : (List Int)) (t_8_tp : Go.Proofs.Ytbpjhmhnicfdfaa.GoC.Tape) (t_11 : (List Int)) (t_11_tp : Go.Proofs.Ytbpjhmhnicfdfaa.GoC.Tape) (t_14 : Bool) (t_14_tp : Go.Proofs.Ytbpjhmhnicfdfaa.GoC.Tape) (t_15 : Bool) (t_19 : (List Int)) (t_20 : Int) (t_20_tp : Go.Proofs.Ytbpjhmhnicfdfaa.GoC.Tape) (s : (List Int) × Go.Proofs.Ytbpjhmhnicfdfaa.GoC.Tape) : Option ((List Int) × (List Int) × Int) :=
  unp2 s fun b_7l0 t_5_c0l0 =>
  j0 t_8 (b_7l0, t_5_c0l0)

def P (fuel : Nat) (tapes : List Int → Go.Proofs.Ytbpjhmhnicfdfaa.GoC.Tape) (code : (List Int)) : Option ((List Int) × (List Int) × Int) :=
  letK (tapes code) fun (t_5 : Go.Proofs.Ytbpjhmhnicfdfaa.GoC.Tape) =>
  bind2 (Go.Proofs.Ytbpjhmhnicfdfaa.GsL1CurHoles5.P fuel t_5) fun (t_8 : (List Int)) (t_8_tp : Go.Proofs.Ytbpjhmhnicfdfaa.GoC.Tape) =>
  bind2 (Go.Proofs.Ytbpjhmhnicfdfaa.GsL1CurHoles5.P fuel t_8_tp) fun (t_11 : (List Int)) (t_11_tp : Go.Proofs.Ytbpjhmhnicfdfaa.GoC.Tape) =>
  bind2 (Go.Proofs.Ytbpjhmhnicfdfaa.GsL1CurOne.P t_11_tp 3) fun (t_14 : Bool) (t_14_tp : Go.Proofs.Ytbpjhmhnicfdfaa.GoC.Tape) =>
  letK (!t_14) fun (t_15 : Bool) =>
  iteK t_15
  (letK ([0, 7, 300]) fun (t_19 : (List Int)) =>
  bind2 (Go.Proofs.Ytbpjhmhnicfdfaa.GsL1CurAmong.P t_14_tp t_19) fun (t_20 : Int) (t_20_tp : Go.Proofs.Ytbpjhmhnicfdfaa.GoC.Tape) =>
  cntK (l0 t_8 t_20) (t_8.length) 0 (([] : List Int), t_20_tp) (e0 code fuel tapes t_5 t_8 t_8_tp t_11 t_11_tp t_14 t_14_tp t_15 t_19 t_20 t_20_tp))
  (j0 t_8 (t_11, t_14_tp))

set_option maxRecDepth 100000 in
set_option maxHeartbeats 2000000 in
theorem C (fuel : Nat) (tapes : List Int → Go.Proofs.Ytbpjhmhnicfdfaa.GoC.Tape) (code : (List Int)) (A0 : Option Addr) (c0 : Nat)  (w : World) (HE : Hid (Go.Proofs.Ytbpjhmhnicfdfaa.GoC.Tells tapes)) (M0 : Hid (Cells w 1 A0 code.length (Go.Proofs.Ytbpjhmhnicfdfaa.GoC.u8s code))) (N0 : Hid (code.length ≤ 9223372036854775807)) (V0 : Hid (∀ z ∈ code, 0 ≤ z ∧ z ≤ 255))  {r0 : (List Int)} {r1 : (List Int)} {r2 : Int} (H : Hid (P fuel tapes code = some (r0, r1, r2))) :
    Calls Try.prog 12 #[.slice A0 code.length c0] w (fun e w' => ∃ A_r0 c_r0 A_r1 c_r1, e = .returned (.tuple #[.slice A_r0 r0.length c_r0, .slice A_r1 r1.length c_r1, .int .i64 r2]) ∧ w'.ownsRow w.heap.size 3 1 (.slice A_r0 r0.length c_r0) r0.length (Go.Proofs.Ytbpjhmhnicfdfaa.HelpInt.iv r0) ∧ w'.ownsRow w.heap.size 3 1 (.slice A_r1 r1.length c_r1) r1.length (Go.Proofs.Ytbpjhmhnicfdfaa.HelpInt.iv r1) ∧ Apart A_r0 A_r1 ∧ Below w.heap.size w w') := by
  have HB := Lib.hid (Below.refl w.heap.size w)
  unfold P at H
  have N0o := N0.out
  obtain ⟨i0_3, hi_3, hz0_3, hz1_3, hz2_3⟩ := Aid.info_parts (P := Try.prog) (T := 3) (z := .int .i64 0) (s := 1) (b := 8) (by kernel_rfl)
  go_enter Try.func12, Try.ntmps12
  replace H := let_hid H
  obtain ⟨t_5, ht_5, H⟩ := H
  obtain ⟨w_t_5, hw_t_5⟩ : ∃ x, w.alloc (.cells #[.slice A0 code.length c0, .int .i64 0, .int .u64 0] 46) = x := ⟨_, rfl⟩
  have bw_t_5 : Below w.heap.size w w_t_5 := by rw [← hw_t_5]; exact (Below.refl _ _).alloc (Nat.le_refl _) _
  have Kt_5 : Hid (Go.Proofs.Ytbpjhmhnicfdfaa.GoC.CurIs w_t_5 w.heap.size w.heap.size A0 c0 t_5) := Lib.hid (by rw [← hw_t_5, ← ht_5]; exact Go.Proofs.Ytbpjhmhnicfdfaa.GoC.cur_new HB.out.size (Cells.below M0.out HB.out) (fun a_ ha_ h0_ => by subst ha_; exact Go.Proofs.Ytbpjhmhnicfdfaa.GoC.cells_lt M0.out (by unfold Go.Proofs.Ytbpjhmhnicfdfaa.GoC.u8s; rw [List.length_map]; exact h0_)) (HE.out.2.2 code V0.out N0.out))
  have hht_5 := Lib.hid ht_5
  clear ht_5
  have HBw_t_5 := Lib.hid (Below.step HB.out bw_t_5)
  clear bw_t_5
  replace H := bind2_hid H
  obtain ⟨t_8, t_8_tp, qt_8, H⟩ := H
  go_wp2_with fail
  go_at_call 30
  refine (Go.Proofs.Ytbpjhmhnicfdfaa.GsL1CurHoles5.C fuel (t_5) (w.heap.size) (A0) (c0) (w.heap.size) _   Kt_5 qt_8).mono ?_
  rintro e_t_8 wt_8 ⟨At_8, ct_8, rfl, ot_8, kt_8, gt_8⟩
  have Dt_8_t_5 := Lib.hid (Go.Proofs.Ytbpjhmhnicfdfaa.GoC.apart_callcur ot_8 Kt_5.out)
  have Ot_8 := Lib.hid (own_lower ot_8 HBw_t_5.out.size)
  clear ot_8
  have Kt_8 := Lib.hid kt_8
  have Gt_8 : Hid (w_t_5.grownBy wt_8 (Value.slice (some ⟨w.heap.size, 0, none⟩) 1 1).ownBlock) := Lib.hid gt_8
  clear kt_8 gt_8
  have HBwt_8 := Lib.hid (Go.Proofs.Ytbpjhmhnicfdfaa.GoC.below_cur HBw_t_5.out Gt_8.out HBw_t_5.out.size (Go.Proofs.Ytbpjhmhnicfdfaa.GoC.cur_lt Kt_5.out).1)
  clear Kt_5 Gt_8
  replace H := bind2_hid H
  obtain ⟨t_11, t_11_tp, qt_11, H⟩ := H
  go_wp2_with fail
  go_at_call 30
  refine (Go.Proofs.Ytbpjhmhnicfdfaa.GsL1CurHoles5.C fuel (t_8_tp) (w.heap.size) (A0) (c0) (w.heap.size) _   Kt_8 qt_11).mono ?_
  rintro e_t_11 wt_11 ⟨At_11, ct_11, rfl, ot_11, kt_11, gt_11⟩
  have Dt_11_t_8 := Lib.hid (apart_call ot_11 Ot_8.out)
  have Dt_11_t_5 := Lib.hid (Go.Proofs.Ytbpjhmhnicfdfaa.GoC.apart_callcur ot_11 Kt_8.out)
  have Ot_11 := Lib.hid (own_lower ot_11 HBwt_8.out.size)
  clear ot_11
  have Kt_11 := Lib.hid kt_11
  have Gt_11 : Hid (wt_8.grownBy wt_11 (Value.slice (some ⟨w.heap.size, 0, none⟩) 1 1).ownBlock) := Lib.hid gt_11
  clear kt_11 gt_11
  have HBwt_11 := Lib.hid (Go.Proofs.Ytbpjhmhnicfdfaa.GoC.below_cur HBwt_8.out Gt_11.out HBwt_8.out.size (Go.Proofs.Ytbpjhmhnicfdfaa.GoC.cur_lt Kt_8.out).1)
  replace Ot_8 := Lib.hid (own_other Ot_8.out Gt_11.out (Apart.symm Dt_8_t_5.out))
  clear Kt_8 Gt_11
  replace H := bind2_hid H
  obtain ⟨t_14, t_14_tp, qt_14, H⟩ := H
  go_wp2_with fail
  go_at_call 41
  refine (Go.Proofs.Ytbpjhmhnicfdfaa.GsL1CurOne.C (t_11_tp) (3) (w.heap.size) (A0) (c0) (w.heap.size) _   Kt_11 qt_14).mono ?_
  rintro e_t_14 wt_14 ⟨rfl, kt_14, gt_14⟩
  have Kt_14 := Lib.hid kt_14
  have Gt_14 : Hid (wt_11.grownBy wt_14 (Value.slice (some ⟨w.heap.size, 0, none⟩) 1 1).ownBlock) := Lib.hid gt_14
  clear kt_14 gt_14
  have HBwt_14 := Lib.hid (Go.Proofs.Ytbpjhmhnicfdfaa.GoC.below_cur HBwt_11.out Gt_14.out HBwt_11.out.size (Go.Proofs.Ytbpjhmhnicfdfaa.GoC.cur_lt Kt_11.out).1)
  replace Ot_8 := Lib.hid (own_other Ot_8.out Gt_14.out (Apart.symm Dt_8_t_5.out))
  replace Ot_11 := Lib.hid (own_other Ot_11.out Gt_14.out (Apart.symm Dt_11_t_5.out))
  clear Kt_11 Gt_14
  cases t_14 with
  | false =>
    replace H := let_hid H
    obtain ⟨t_15, ht_15, H⟩ := H
    obtain rfl : t_15 = true := ht_15.symm
    replace H := ite_t H
    obtain ⟨w_t_16, hw_t_16⟩ : ∃ x, wt_14.alloc (.cells #[] 3) = x := ⟨_, rfl⟩
    have bw_t_16 : Below wt_14.heap.size wt_14 w_t_16 := by rw [← hw_t_16]; exact (Below.refl _ _).alloc (Nat.le_refl _) _
    have Ot_16 : Hid (w_t_16.ownsRow w.heap.size 3 1 (.slice (some ⟨wt_14.heap.size, 0, none⟩) 0 0) 0 []) := Lib.hid (by rw [← hw_t_16]; exact own_empty HBwt_14.out.size)
    have Dt_16_t_8 := Lib.hid (apart_fresh Ot_8.out)
    have Dt_16_t_11 := Lib.hid (apart_fresh Ot_11.out)
    have Dt_16_t_5 := Lib.hid (Go.Proofs.Ytbpjhmhnicfdfaa.GoC.apart_cur Kt_14.out)
    have HBw_t_16 := Lib.hid (Below.step HBwt_14.out bw_t_16)
    replace Ot_8 := Lib.hid (own_below Ot_8.out bw_t_16)
    replace Ot_11 := Lib.hid (own_below Ot_11.out bw_t_16)
    replace Kt_14 := Lib.hid (Go.Proofs.Ytbpjhmhnicfdfaa.GoC.cur_below Kt_14.out bw_t_16)
    clear bw_t_16
    replace H := let_hid H
    obtain ⟨t_19, ht_19, H⟩ := H
    obtain ⟨w_t_19, hw_t_19⟩ : ∃ x, w_t_16.alloc (.cells #[.int .i64 0, .int .i64 7, .int .i64 300] 3) = x := ⟨_, rfl⟩
    have bw_t_19 : Below w_t_16.heap.size w_t_16 w_t_19 := by rw [← hw_t_19]; exact (Below.refl _ _).alloc (Nat.le_refl _) _
    have hs_t_19 := HBw_t_16.out.size
    have nt_19 : t_19.length = 3 := by rw [← ht_19]; rfl
    have Ot_19 : Hid (w_t_19.ownsRow w.heap.size 3 1 (.slice (some ⟨w_t_16.heap.size, 0, none⟩) 3 3) 3 (Go.Proofs.Ytbpjhmhnicfdfaa.HelpInt.iv t_19)) := by
      rw [← hw_t_19, ← ht_19]
      have e_ : ([.int .i64 0, .int .i64 7, .int .i64 300] : List Value) = (Go.Proofs.Ytbpjhmhnicfdfaa.HelpInt.iv ([0, 7, 300] : List Int)) := rfl
      exact Lib.hid (own_laid (n := 3) hs_t_19 e_ rfl (by unfold maxLen; omega))
    clear hs_t_19
    have hht_19 := Lib.hid ht_19
    clear ht_19
    replace nt_19 := Lib.hid nt_19
    have Dt_19_t_8 := Lib.hid (apart_fresh Ot_8.out)
    have Dt_19_t_11 := Lib.hid (apart_fresh Ot_11.out)
    have Dt_19_t_16 := Lib.hid (apart_fresh Ot_16.out)
    have Dt_19_t_5 := Lib.hid (Go.Proofs.Ytbpjhmhnicfdfaa.GoC.apart_cur Kt_14.out)
    have HBw_t_19 := Lib.hid (Below.step HBw_t_16.out bw_t_19)
    replace Ot_8 := Lib.hid (own_below Ot_8.out bw_t_19)
    replace Ot_11 := Lib.hid (own_below Ot_11.out bw_t_19)
    replace Ot_16 := Lib.hid (own_below Ot_16.out bw_t_19)
    replace Kt_14 := Lib.hid (Go.Proofs.Ytbpjhmhnicfdfaa.GoC.cur_below Kt_14.out bw_t_19)
    clear bw_t_19
    replace H := bind2_hid H
    obtain ⟨t_20, t_20_tp, qt_20, H⟩ := H
    go_wp2_with fail
    have hc_ := nt_19.out
    have hv_ : (Value.slice (some ⟨w_t_16.heap.size, 0, none⟩) 3 3 : Value) = Value.slice (some ⟨w_t_16.heap.size, 0, none⟩) t_19.length 3 := by rw [hc_]
    try rw [hv_]
    replace Ot_19 := Lib.hid (own_len hc_ Ot_19.out)
    clear hc_ hv_
    go_wp2_with fail
    go_at_call 42
    refine (Go.Proofs.Ytbpjhmhnicfdfaa.GsL1CurAmong.C (t_14_tp) (t_19) (some ⟨w_t_16.heap.size, 0, none⟩) 3 (w.heap.size) (A0) (c0) (w.heap.size) _   (Lib.hid (own_cells Ot_19.out)) (Lib.hid (own_max Ot_19.out)) Kt_14 (Lib.hid (fun _ => Dt_19_t_5.out)) qt_20).mono ?_
    rintro e_t_20 wt_20 ⟨rfl, kt_20, gt_20⟩
    have Kt_20 := Lib.hid kt_20
    have Gt_20 : Hid (w_t_19.grownBy wt_20 (Value.slice (some ⟨w.heap.size, 0, none⟩) 1 1).ownBlock) := Lib.hid gt_20
    clear kt_20 gt_20
    have HBwt_20 := Lib.hid (Go.Proofs.Ytbpjhmhnicfdfaa.GoC.below_cur HBw_t_19.out Gt_20.out HBw_t_19.out.size (Go.Proofs.Ytbpjhmhnicfdfaa.GoC.cur_lt Kt_14.out).1)
    replace Ot_8 := Lib.hid (own_other Ot_8.out Gt_20.out (Apart.symm Dt_8_t_5.out))
    replace Ot_11 := Lib.hid (own_other Ot_11.out Gt_20.out (Apart.symm Dt_11_t_5.out))
    replace Ot_16 := Lib.hid (own_other Ot_16.out Gt_20.out (Apart.symm Dt_16_t_5.out))
    replace Ot_19 := Lib.hid (own_other Ot_19.out Gt_20.out (Apart.symm Dt_19_t_5.out))
    clear Kt_14 Gt_20
    have hb_0 : t_8.length ≤ 9223372036854775807 := own_max Ot_8.out
    go_wp2_with fail
    go_loopg [9, 7] (t_8.length) (fun m_ v9_ v7_ wr => ∃ (k0 : Nat) (b_7l0 : (List Int)) (t_5_c0l0 : Go.Proofs.Ytbpjhmhnicfdfaa.GoC.Tape) (Ab_7l0 : Option Addr) (cb_7l0 : Nat), k0 + m_ = t_8.length ∧ v9_ = .int .i64 (k0 : Int) ∧ v7_ = .slice Ab_7l0 b_7l0.length cb_7l0 ∧ Hid (cntK (l0 t_8 t_20) m_ k0 (b_7l0, t_5_c0l0) (e0 code fuel tapes t_5 t_8 t_8_tp t_11 t_11_tp false t_14_tp true t_19 t_20 t_20_tp) = some (r0, r1, r2)) ∧ Hid (Below w.heap.size w wr) ∧ Hid (wr.ownsRow w.heap.size 3 1 (.slice Ab_7l0 b_7l0.length cb_7l0) b_7l0.length (Go.Proofs.Ytbpjhmhnicfdfaa.HelpInt.iv b_7l0)) ∧ Hid (wr.ownsRow w.heap.size 3 1 (.slice At_8 t_8.length ct_8) t_8.length (Go.Proofs.Ytbpjhmhnicfdfaa.HelpInt.iv t_8)) ∧ Hid (wr.ownsRow w.heap.size 3 1 (.slice At_11 t_11.length ct_11) t_11.length (Go.Proofs.Ytbpjhmhnicfdfaa.HelpInt.iv t_11)) ∧ Hid (wr.ownsRow w.heap.size 3 1 (.slice (some ⟨w_t_16.heap.size, 0, none⟩) t_19.length 3) t_19.length (Go.Proofs.Ytbpjhmhnicfdfaa.HelpInt.iv t_19)) ∧ Hid (Apart Ab_7l0 At_8) ∧ Hid (Apart Ab_7l0 At_11) ∧ Hid (Apart Ab_7l0 (some ⟨w_t_16.heap.size, 0, none⟩)) ∧ Hid (Apart Ab_7l0 (some ⟨w.heap.size, 0, none⟩)) ∧ Hid (Go.Proofs.Ytbpjhmhnicfdfaa.GoC.CurIs wr w.heap.size (w.heap.size) A0 c0 t_5_c0l0))
    case atStart => exact ⟨0, _, _, _, _, by omega, rfl, rfl, H, HBwt_20, Ot_16, Ot_8, Ot_11, Ot_19, Lib.hid Dt_16_t_8.out, Lib.hid Dt_16_t_11.out, Lib.hid (Apart.symm Dt_19_t_16.out), Lib.hid Dt_16_t_5.out, Kt_20⟩
    case round =>
      obtain ⟨k0, b_7l0, t_5_c0l0, Ab_7l0, cb_7l0, hkm0, rfl, rfl, H, HBwr0, Ob_7l0, Ot_8, Ot_11, Ot_19, Db_7l0_t_8, Db_7l0_t_11, Db_7l0_t_19, Db_7l0_t_5, Kl0_0⟩ := hrel
      rename World => wr0
      cases gk with
      | zero =>
        obtain rfl : k0 = t_8.length := by omega
        have hc0 : decide (((t_8.length : Nat) : Int) < ((t_8.length : Nat) : Int)) = false := by simp
        replace H := cnt_zero H
        unfold e0 at H
        replace H := unp2_hid H
        unfold j0 at H
        replace H := unp2_hid H
        replace H := let_hid H
        obtain ⟨t_47, ht_47, H⟩ := H
        obtain ⟨w_t_47, hw_t_47⟩ : ∃ x, wr0.alloc (.cells #[.int .i64 0, .int .i64 1, .int .i64 5, .int .i64 10, .int .i64 50, .int .i64 (-1), .int .i64 51] 3) = x := ⟨_, rfl⟩
        have bw_t_47 : Below wr0.heap.size wr0 w_t_47 := by rw [← hw_t_47]; exact (Below.refl _ _).alloc (Nat.le_refl _) _
        have hs_t_47 := HBwr0.out.size
        have nt_47 : t_47.length = 7 := by rw [← ht_47]; rfl
        have Ot_47 : Hid (w_t_47.ownsRow w.heap.size 3 1 (.slice (some ⟨wr0.heap.size, 0, none⟩) 7 7) 7 (Go.Proofs.Ytbpjhmhnicfdfaa.HelpInt.iv t_47)) := by
          rw [← hw_t_47, ← ht_47]
          have e_ : ([.int .i64 0, .int .i64 1, .int .i64 5, .int .i64 10, .int .i64 50, .int .i64 (-1), .int .i64 51] : List Value) = (Go.Proofs.Ytbpjhmhnicfdfaa.HelpInt.iv ([0, 1, 5, 10, 50, (-1), 51] : List Int)) := rfl
          exact Lib.hid (own_laid (n := 7) hs_t_47 e_ rfl (by unfold maxLen; omega))
        clear hs_t_47
        have hht_47 := Lib.hid ht_47
        clear ht_47
        replace nt_47 := Lib.hid nt_47
        have Dt_47_t_8 := Lib.hid (apart_fresh Ot_8.out)
        have Dt_47_t_11 := Lib.hid (apart_fresh Ot_11.out)
        have Dt_47_t_19 := Lib.hid (apart_fresh Ot_19.out)
        have Dt_47_b_7l0 := Lib.hid (apart_fresh Ob_7l0.out)
        have Dt_47_t_5 := Lib.hid (Go.Proofs.Ytbpjhmhnicfdfaa.GoC.apart_cur Kl0_0.out)
        have HBw_t_47 := Lib.hid (Below.step HBwr0.out bw_t_47)
        replace Ot_8 := Lib.hid (own_below Ot_8.out bw_t_47)
        replace Ot_11 := Lib.hid (own_below Ot_11.out bw_t_47)
        replace Ot_19 := Lib.hid (own_below Ot_19.out bw_t_47)
        replace Ob_7l0 := Lib.hid (own_below Ob_7l0.out bw_t_47)
        replace Kl0_0 := Lib.hid (Go.Proofs.Ytbpjhmhnicfdfaa.GoC.cur_below Kl0_0.out bw_t_47)
        clear bw_t_47
        replace H := bind2_hid H
        obtain ⟨t_49, t_49_tp, qt_49, H⟩ := H
        go_wp2_with fail
        go_at_call 43
        refine (Go.Proofs.Ytbpjhmhnicfdfaa.GsL1CurPick.C (t_5_c0l0) (24) (w.heap.size) (A0) (c0) (w.heap.size) _   Kl0_0 qt_49).mono ?_
        rintro e_t_49 wt_49 ⟨rfl, kt_49, gt_49⟩
        have Kt_49 := Lib.hid kt_49
        have Gt_49 : Hid (w_t_47.grownBy wt_49 (Value.slice (some ⟨w.heap.size, 0, none⟩) 1 1).ownBlock) := Lib.hid gt_49
        clear kt_49 gt_49
        have HBwt_49 := Lib.hid (Go.Proofs.Ytbpjhmhnicfdfaa.GoC.below_cur HBw_t_47.out Gt_49.out HBw_t_47.out.size (Go.Proofs.Ytbpjhmhnicfdfaa.GoC.cur_lt Kl0_0.out).1)
        replace Ot_8 := Lib.hid (own_other Ot_8.out Gt_49.out (Apart.symm Dt_8_t_5.out))
        replace Ot_11 := Lib.hid (own_other Ot_11.out Gt_49.out (Apart.symm Dt_11_t_5.out))
        replace Ot_19 := Lib.hid (own_other Ot_19.out Gt_49.out (Apart.symm Dt_19_t_5.out))
        replace Ob_7l0 := Lib.hid (own_other Ob_7l0.out Gt_49.out (Apart.symm Db_7l0_t_5.out))
        replace Ot_47 := Lib.hid (own_other Ot_47.out Gt_49.out (Apart.symm Dt_47_t_5.out))
        clear Kl0_0 Gt_49
        replace H := let_hid H
        obtain ⟨t_50, ht_50, H⟩ := H
        replace H := let_hid H
        obtain ⟨t_51, ht_51, H⟩ := H
        replace H := guard_hid H
        obtain ⟨hl_t_52, H⟩ := H
        replace H := let_hid H
        obtain ⟨t_52, ht_52, H⟩ := H
        have dt_52 : ((Go.Proofs.Ytbpjhmhnicfdfaa.HelpInt.iv t_47)).take (Int.toNat t_51 * 1) = (Go.Proofs.Ytbpjhmhnicfdfaa.HelpInt.iv t_52) := by
          rw [← ht_52]
          simp [Go.Proofs.Ytbpjhmhnicfdfaa.HelpInt.iv, List.map_take]
        have nt_52 : Int.toNat t_51 = t_52.length := by rw [← ht_52, List.length_take]; have h_ := nt_47.out; omega
        replace hl_t_52 : (0 : Int) ≤ t_51 ∧ (t_51 : Int) ≤ ((7 : Nat) : Int) := by have h_ := nt_47.out; omega
        obtain ⟨rt_52, Ot_52⟩ := slice_head (P := Try.prog) (t := 24) (e := 3) (k := .i64) (by kernel_rfl) (by kernel_rfl) hi_3 hz1_3 Ot_47.out hl_t_52 nt_52 dt_52
        replace Ot_52 := Lib.hid Ot_52
        clear dt_52 nt_52 hl_t_52
        have hht_52 := Lib.hid ht_52
        clear ht_52
        replace H := bind2_hid H
        obtain ⟨t_53, t_53_tp, qt_53, H⟩ := H
        go_wp2_with fail
        go_at_call 42
        refine (Go.Proofs.Ytbpjhmhnicfdfaa.GsL1CurAmong.C (t_49_tp) (t_52) (some ⟨wr0.heap.size, 0, none⟩) 7 (w.heap.size) (A0) (c0) (w.heap.size) _   (Lib.hid (own_cells Ot_52.out)) (Lib.hid (own_max Ot_52.out)) Kt_49 (Lib.hid (fun _ => Dt_47_t_5.out)) qt_53).mono ?_
        rintro e_t_53 wt_53 ⟨rfl, kt_53, gt_53⟩
        have Kt_53 := Lib.hid kt_53
        have Gt_53 : Hid (wt_49.grownBy wt_53 (Value.slice (some ⟨w.heap.size, 0, none⟩) 1 1).ownBlock) := Lib.hid gt_53
        clear kt_53 gt_53
        have HBwt_53 := Lib.hid (Go.Proofs.Ytbpjhmhnicfdfaa.GoC.below_cur HBwt_49.out Gt_53.out HBwt_49.out.size (Go.Proofs.Ytbpjhmhnicfdfaa.GoC.cur_lt Kt_49.out).1)
        replace Ot_8 := Lib.hid (own_other Ot_8.out Gt_53.out (Apart.symm Dt_8_t_5.out))
        replace Ot_11 := Lib.hid (own_other Ot_11.out Gt_53.out (Apart.symm Dt_11_t_5.out))
        replace Ot_19 := Lib.hid (own_other Ot_19.out Gt_53.out (Apart.symm Dt_19_t_5.out))
        replace Ob_7l0 := Lib.hid (own_other Ob_7l0.out Gt_53.out (Apart.symm Db_7l0_t_5.out))
        replace Ot_52 := Lib.hid (own_other Ot_52.out Gt_53.out (Apart.symm Dt_47_t_5.out))
        clear Kt_49 Gt_53
        cases ret_hid H
        go_wp2_with fail
        go_ret3
        exact ⟨At_8, ct_8, Ab_7l0, cb_7l0, rfl, Ot_8.out, Ob_7l0.out, (Apart.symm Db_7l0_t_8.out), HBwt_53.out⟩
      | succ m0 =>
        have hlt0 : k0 < t_8.length := by omega
        have hc0 : decide ((k0 : Int) < ((t_8.length : Nat) : Int)) = true := by simp; omega
        replace H := cnt_succ H
        unfold l0 at H
        replace H := unp2_hid H
        go_wp2_with fail
        have bd10 : Below wr0.heap.size wr0 wr0.drew := (Below.refl _ _).drew
        have HBwr0.drew := Lib.hid (Below.step HBwr0.out bd10)
        replace Ot_8 := Lib.hid (own_below Ot_8.out bd10)
        replace Ot_11 := Lib.hid (own_below Ot_11.out bd10)
        replace Ot_19 := Lib.hid (own_below Ot_19.out bd10)
        replace Ob_7l0 := Lib.hid (own_below Ob_7l0.out bd10)
        replace Kl0_0 := Lib.hid (Go.Proofs.Ytbpjhmhnicfdfaa.GoC.cur_below Kl0_0.out bd10)
        clear bd10
        replace H := idx_hid H
        obtain ⟨nt_30, yt_30, et_30, lt_30, gt_30, H⟩ := H
        obtain rfl : k0 = nt_30 := by omega
        clear et_30
        obtain ⟨qt_30, Qt_30⟩ := own_some Ot_8.out (by omega)
        subst Qt_30
        obtain ⟨ab_t_30, ao_t_30, zt_30, At_30, z_t_30, ct_30_0⟩ := Go.Proofs.Ytbpjhmhnicfdfaa.HelpInt.Ints.at_ (own_cells Ot_8.out) (k := k0) (by omega)
        obtain rfl := Option.some.inj (gt_30.out.symm.trans z_t_30)
        simp only [Option.some.injEq, Addr.mk.injEq] at At_30
        obtain ⟨rfl, rfl, _⟩ := At_30
        clear z_t_30
        simp only [Nat.zero_add] at ct_30_0
        have b0t_30 : (0 : Int) ≤ (k0 : Int) := by omega
        have b1t_30 : (k0 : Int) < ((t_8.length : Nat) : Int) := by omega
        have b2t_30 : ((k0 : Int)).toNat = k0 := by omega
        replace H := let_hid H
        obtain ⟨t_33, ht_33, H⟩ := H
        replace H := let_hid H
        obtain ⟨t_35, ht_35, H⟩ := H
        obtain ⟨w_t_35, hw_t_35⟩ : ∃ x, wr0.drew.alloc (.cells #[.int .i64 0, .int .i64 0, .int .i64 0, .int .i64 1, .int .i64 9] 3) = x := ⟨_, rfl⟩
        have bw_t_35 : Below wr0.drew.heap.size wr0.drew w_t_35 := by rw [← hw_t_35]; exact (Below.refl _ _).alloc (Nat.le_refl _) _
        have hs_t_35 := HBwr0.drew.out.size
        have nt_35 : t_35.length = 5 := by rw [← ht_35]; rfl
        have Ot_35 : Hid (w_t_35.ownsRow w.heap.size 3 1 (.slice (some ⟨wr0.drew.heap.size, 0, none⟩) 5 5) 5 (Go.Proofs.Ytbpjhmhnicfdfaa.HelpInt.iv t_35)) := by
          rw [← hw_t_35, ← ht_35]
          have e_ : ([.int .i64 0, .int .i64 0, .int .i64 0, .int .i64 1, .int .i64 9] : List Value) = (Go.Proofs.Ytbpjhmhnicfdfaa.HelpInt.iv ([0, 0, 0, 1, 9] : List Int)) := rfl
          exact Lib.hid (own_laid (n := 5) hs_t_35 e_ rfl (by unfold maxLen; omega))
        clear hs_t_35
        have hht_35 := Lib.hid ht_35
        clear ht_35
        replace nt_35 := Lib.hid nt_35
        have Dt_35_t_8 := Lib.hid (apart_fresh Ot_8.out)
        have Dt_35_t_11 := Lib.hid (apart_fresh Ot_11.out)
        have Dt_35_t_19 := Lib.hid (apart_fresh Ot_19.out)
        have Dt_35_b_7l0 := Lib.hid (apart_fresh Ob_7l0.out)
        have Dt_35_t_5 := Lib.hid (Go.Proofs.Ytbpjhmhnicfdfaa.GoC.apart_cur Kl0_0.out)
        have HBw_t_35 := Lib.hid (Below.step HBwr0.drew.out bw_t_35)
        have ct_30_0__7 := cell_below bw_t_35 ct_30_0
        replace Ot_8 := Lib.hid (own_below Ot_8.out bw_t_35)
        replace Ot_11 := Lib.hid (own_below Ot_11.out bw_t_35)
        replace Ot_19 := Lib.hid (own_below Ot_19.out bw_t_35)
        replace Ob_7l0 := Lib.hid (own_below Ob_7l0.out bw_t_35)
        replace Kl0_0 := Lib.hid (Go.Proofs.Ytbpjhmhnicfdfaa.GoC.cur_below Kl0_0.out bw_t_35)
        clear bw_t_35
        replace H := bind2_hid H
        obtain ⟨t_36, t_36_tp, qt_36, H⟩ := H
        replace H := let_hid H
        obtain ⟨t_37, ht_37, H⟩ := H
        replace H := guard_hid H
        obtain ⟨hlt_39, H⟩ := H
        replace H := let_hid H
        obtain ⟨t_39, ht_39, H⟩ := H
        have hht_39 := Lib.hid ht_39
        clear ht_39
        go_region_held3 (fun w' => w'.cell? ⟨qt_30, k0, none⟩ = some (.int .i64 yt_30)) (first | exact ct_30_0 | exact ct_30_0__7 | exact ct_30_0__8)
            (first
              | (have hc0_ := nt_35.out
                 have Oct_36_1 := Lib.hid (own_len hc0_ Ot_35.out)
                 have con_ := Go.Proofs.Ytbpjhmhnicfdfaa.GsL1CurAmong.C (t_5_c0l0) (t_35) (some ⟨wr0.drew.heap.size, 0, none⟩) 5 (w.heap.size) (A0) (c0) (w.heap.size) _   (Lib.hid (own_cells Oct_36_1.out)) (Lib.hid (own_max Oct_36_1.out)) Kl0_0 (Lib.hid (fun _ => Dt_35_t_5.out)) qt_36
                 rw [hc0_] at con_
                 clear hc0_ Oct_36_1
                 go_at_call 42
                 refine con_.mono ?_
                 rintro e_t_36 wt_36 ⟨rfl, kt_36, gt_36⟩
                 have Kt_36 := Lib.hid kt_36
                 have Gt_36 : Hid (w_t_35.grownBy wt_36 (Value.slice (some ⟨w.heap.size, 0, none⟩) 1 1).ownBlock) := Lib.hid gt_36
                 clear kt_36 gt_36
                 have HBwt_36 := Lib.hid (Go.Proofs.Ytbpjhmhnicfdfaa.GoC.below_cur HBw_t_35.out Gt_36.out HBw_t_35.out.size (Go.Proofs.Ytbpjhmhnicfdfaa.GoC.cur_lt Kl0_0.out).1)
                 replace ct_30_0__7 := cell_other ct_30_0__7 Gt_36.out (Apart.symm Dt_8_t_5.out)
                 replace Ot_8 := Lib.hid (own_other Ot_8.out Gt_36.out (Apart.symm Dt_8_t_5.out))
                 replace Ot_11 := Lib.hid (own_other Ot_11.out Gt_36.out (Apart.symm Dt_11_t_5.out))
                 replace Ot_19 := Lib.hid (own_other Ot_19.out Gt_36.out (Apart.symm Dt_19_t_5.out))
                 replace Ob_7l0 := Lib.hid (own_other Ob_7l0.out Gt_36.out (Apart.symm Db_7l0_t_5.out))
                 replace Ot_35 := Lib.hid (own_other Ot_35.out Gt_36.out (Apart.symm Dt_35_t_5.out))
                 clear ct_30_0
                 clear Kl0_0 Gt_36
                 clear qt_36
                 obtain ⟨w_t_38, hw_t_38⟩ : ∃ x, wt_36.alloc (.cells #[.int .i64 t_37] 3) = x := ⟨_, rfl⟩
                 have bw_t_38 : Below wt_36.heap.size wt_36 w_t_38 := by rw [← hw_t_38]; exact (Below.refl _ _).alloc (Nat.le_refl _) _
                 have HBw_t_38 := Lib.hid (Below.step HBwt_36.out bw_t_38)
                 have ct_30_0__8 := cell_below bw_t_38 ct_30_0__7
                 replace Ot_8 := Lib.hid (own_below Ot_8.out bw_t_38)
                 replace Ot_11 := Lib.hid (own_below Ot_11.out bw_t_38)
                 replace Ot_19 := Lib.hid (own_below Ot_19.out bw_t_38)
                 replace Ob_7l0 := Lib.hid (own_below Ob_7l0.out bw_t_38)
                 replace Ot_35 := Lib.hid (own_below Ot_35.out bw_t_38)
                 replace Kt_36 := Lib.hid (Go.Proofs.Ytbpjhmhnicfdfaa.GoC.cur_below Kt_36.out bw_t_38)
                 clear bw_t_38)
              | (have hst_39 := HBw_t_38.out.size
                 have h1t_39 : b_7l0.length + 1 ≤ maxLen := by unfold maxLen; omega
                 have h2t_39 : (b_7l0.length + 1) * 8 ≤ 140737488355328 := by omega
                 have h3t_39 := news_new hw_t_38
                 refine Go.Proofs.Ytbpjhmhnicfdfaa.GoH.step_append_own (w := w_t_38) rfl (.tmp 30) (.tmp 41) 24 rfl w.heap.size 3 i0_3 (.int .i64 0) 1 8 Try.underlying24 hi_3 hz0_3 hz1_3 hz2_3 rfl (by decide) Ab_7l0 cb_7l0 b_7l0.length _ rfl Ob_7l0.out ⟨wt_36.heap.size, 0, none⟩ 1 [.int .i64 t_37] rfl rfl h3t_39 (one_cells rfl) h1t_39 h2t_39 hst_39 ?_
                 intro vt_39 wt_39 ot_39 gt_39 yt_39
                 obtain ⟨qt_39, ct_39, rfl, pt_39⟩ := own_push hht_39.out (Go.Proofs.Ytbpjhmhnicfdfaa.HelpInt.iv_snoc _ _) rfl ot_39
                 have Pt_39 := Lib.hid pt_39
                 have Yt_39 := Lib.hid yt_39
                 have Gt_39 := Lib.hid gt_39
                 clear ot_39 gt_39 pt_39 yt_39
                 have HBwt_39 := Lib.hid (HBw_t_38.out.grown Gt_39.out hst_39 (fun q hq => (Ob_7l0.out.lt q hq).1))
                 clear hst_39
                 have Dt_39_t_8 : Hid (Apart (some ⟨qt_39, 0, none⟩) _) := Lib.hid (apart_app Db_7l0_t_8.out (fun a_ ha_ => (own_lt Ot_8.out a_ ha_).2) Yt_39.out)
                 have Dt_39_t_11 : Hid (Apart (some ⟨qt_39, 0, none⟩) _) := Lib.hid (apart_app Db_7l0_t_11.out (fun a_ ha_ => (own_lt Ot_11.out a_ ha_).2) Yt_39.out)
                 have Dt_39_t_19 : Hid (Apart (some ⟨qt_39, 0, none⟩) _) := Lib.hid (apart_app Db_7l0_t_19.out (fun a_ ha_ => (own_lt Ot_19.out a_ ha_).2) Yt_39.out)
                 have Dt_39_t_5 : Hid (Apart (some ⟨qt_39, 0, none⟩) _) := Lib.hid (apart_app Db_7l0_t_5.out (fun a_ ha_ => by cases ha_; exact (Go.Proofs.Ytbpjhmhnicfdfaa.GoC.cur_lt Kt_36.out).2) Yt_39.out)
                 have Dt_39_t_35 : Hid (Apart (some ⟨qt_39, 0, none⟩) _) := Lib.hid (apart_app (Apart.symm Dt_35_b_7l0.out) (fun a_ ha_ => (own_lt Ot_35.out a_ ha_).2) Yt_39.out)
                 replace ct_30_0__8 := cell_other ct_30_0__8 Gt_39.out Db_7l0_t_8.out
                 replace Ot_8 := Lib.hid (own_other Ot_8.out Gt_39.out Db_7l0_t_8.out)
                 replace Ot_11 := Lib.hid (own_other Ot_11.out Gt_39.out Db_7l0_t_11.out)
                 replace Ot_19 := Lib.hid (own_other Ot_19.out Gt_39.out Db_7l0_t_19.out)
                 replace Ot_35 := Lib.hid (own_other Ot_35.out Gt_39.out (Apart.symm Dt_35_b_7l0.out))
                 replace Kt_36 := Lib.hid (Go.Proofs.Ytbpjhmhnicfdfaa.GoC.cur_other Kt_36.out Gt_39.out Db_7l0_t_5.out (Go.Proofs.Ytbpjhmhnicfdfaa.GoC.own_ge Ob_7l0.out))
                 clear ct_30_0__7
                 clear Ob_7l0 Yt_39 Gt_39))
        replace H := app_hid H
        go_wp2_with fail
        go_roundg m0
        case measure => omega
        case rel => exact ⟨k0 + 1, _, _, _, _, by omega, by go_num, rfl, H, HBwt_39, Pt_39, Ot_8, Ot_11, Ot_19, Lib.hid Dt_39_t_8.out, Lib.hid Dt_39_t_11.out, Lib.hid Dt_39_t_19.out, Lib.hid Dt_39_t_5.out, Kt_36⟩
  | true =>
    replace H := let_hid H
    obtain ⟨t_15, ht_15, H⟩ := H
    obtain rfl : t_15 = false := ht_15.symm
    replace H := ite_f H
    unfold j0 at H
    replace H := unp2_hid H
    replace H := let_hid H
    obtain ⟨t_47, ht_47, H⟩ := H
    obtain ⟨w_t_47, hw_t_47⟩ : ∃ x, wt_14.alloc (.cells #[.int .i64 0, .int .i64 1, .int .i64 5, .int .i64 10, .int .i64 50, .int .i64 (-1), .int .i64 51] 3) = x := ⟨_, rfl⟩
    have bw_t_47 : Below wt_14.heap.size wt_14 w_t_47 := by rw [← hw_t_47]; exact (Below.refl _ _).alloc (Nat.le_refl _) _
    have hs_t_47 := HBwt_14.out.size
    have nt_47 : t_47.length = 7 := by rw [← ht_47]; rfl
    have Ot_47 : Hid (w_t_47.ownsRow w.heap.size 3 1 (.slice (some ⟨wt_14.heap.size, 0, none⟩) 7 7) 7 (Go.Proofs.Ytbpjhmhnicfdfaa.HelpInt.iv t_47)) := by
      rw [← hw_t_47, ← ht_47]
      have e_ : ([.int .i64 0, .int .i64 1, .int .i64 5, .int .i64 10, .int .i64 50, .int .i64 (-1), .int .i64 51] : List Value) = (Go.Proofs.Ytbpjhmhnicfdfaa.HelpInt.iv ([0, 1, 5, 10, 50, (-1), 51] : List Int)) := rfl
      exact Lib.hid (own_laid (n := 7) hs_t_47 e_ rfl (by unfold maxLen; omega))
    clear hs_t_47
    have hht_47 := Lib.hid ht_47
    clear ht_47
    replace nt_47 := Lib.hid nt_47
    have Dt_47_t_8 := Lib.hid (apart_fresh Ot_8.out)
    have Dt_47_t_11 := Lib.hid (apart_fresh Ot_11.out)
    have Dt_47_t_5 := Lib.hid (Go.Proofs.Ytbpjhmhnicfdfaa.GoC.apart_cur Kt_14.out)
    have HBw_t_47 := Lib.hid (Below.step HBwt_14.out bw_t_47)
    replace Ot_8 := Lib.hid (own_below Ot_8.out bw_t_47)
    replace Ot_11 := Lib.hid (own_below Ot_11.out bw_t_47)
    replace Kt_14 := Lib.hid (Go.Proofs.Ytbpjhmhnicfdfaa.GoC.cur_below Kt_14.out bw_t_47)
    clear bw_t_47
    replace H := bind2_hid H
    obtain ⟨t_49, t_49_tp, qt_49, H⟩ := H
    go_wp2_with fail
    go_at_call 43
    refine (Go.Proofs.Ytbpjhmhnicfdfaa.GsL1CurPick.C (t_14_tp) (24) (w.heap.size) (A0) (c0) (w.heap.size) _   Kt_14 qt_49).mono ?_
    rintro e_t_49 wt_49 ⟨rfl, kt_49, gt_49⟩
    have Kt_49 := Lib.hid kt_49
    have Gt_49 : Hid (w_t_47.grownBy wt_49 (Value.slice (some ⟨w.heap.size, 0, none⟩) 1 1).ownBlock) := Lib.hid gt_49
    clear kt_49 gt_49
    have HBwt_49 := Lib.hid (Go.Proofs.Ytbpjhmhnicfdfaa.GoC.below_cur HBw_t_47.out Gt_49.out HBw_t_47.out.size (Go.Proofs.Ytbpjhmhnicfdfaa.GoC.cur_lt Kt_14.out).1)
    replace Ot_8 := Lib.hid (own_other Ot_8.out Gt_49.out (Apart.symm Dt_8_t_5.out))
    replace Ot_11 := Lib.hid (own_other Ot_11.out Gt_49.out (Apart.symm Dt_11_t_5.out))
    replace Ot_47 := Lib.hid (own_other Ot_47.out Gt_49.out (Apart.symm Dt_47_t_5.out))
    clear Kt_14 Gt_49
    replace H := let_hid H
    obtain ⟨t_50, ht_50, H⟩ := H
    replace H := let_hid H
    obtain ⟨t_51, ht_51, H⟩ := H
    replace H := guard_hid H
    obtain ⟨hl_t_52, H⟩ := H
    replace H := let_hid H
    obtain ⟨t_52, ht_52, H⟩ := H
    have dt_52 : ((Go.Proofs.Ytbpjhmhnicfdfaa.HelpInt.iv t_47)).take (Int.toNat t_51 * 1) = (Go.Proofs.Ytbpjhmhnicfdfaa.HelpInt.iv t_52) := by
      rw [← ht_52]
      simp [Go.Proofs.Ytbpjhmhnicfdfaa.HelpInt.iv, List.map_take]
    have nt_52 : Int.toNat t_51 = t_52.length := by rw [← ht_52, List.length_take]; have h_ := nt_47.out; omega
    replace hl_t_52 : (0 : Int) ≤ t_51 ∧ (t_51 : Int) ≤ ((7 : Nat) : Int) := by have h_ := nt_47.out; omega
    obtain ⟨rt_52, Ot_52⟩ := slice_head (P := Try.prog) (t := 24) (e := 3) (k := .i64) (by kernel_rfl) (by kernel_rfl) hi_3 hz1_3 Ot_47.out hl_t_52 nt_52 dt_52
    replace Ot_52 := Lib.hid Ot_52
    clear dt_52 nt_52 hl_t_52
    have hht_52 := Lib.hid ht_52
    clear ht_52
    replace H := bind2_hid H
    obtain ⟨t_53, t_53_tp, qt_53, H⟩ := H
    go_wp2_with fail
    go_at_call 42
    refine (Go.Proofs.Ytbpjhmhnicfdfaa.GsL1CurAmong.C (t_49_tp) (t_52) (some ⟨wt_14.heap.size, 0, none⟩) 7 (w.heap.size) (A0) (c0) (w.heap.size) _   (Lib.hid (own_cells Ot_52.out)) (Lib.hid (own_max Ot_52.out)) Kt_49 (Lib.hid (fun _ => Dt_47_t_5.out)) qt_53).mono ?_
    rintro e_t_53 wt_53 ⟨rfl, kt_53, gt_53⟩
    have Kt_53 := Lib.hid kt_53
    have Gt_53 : Hid (wt_49.grownBy wt_53 (Value.slice (some ⟨w.heap.size, 0, none⟩) 1 1).ownBlock) := Lib.hid gt_53
    clear kt_53 gt_53
    have HBwt_53 := Lib.hid (Go.Proofs.Ytbpjhmhnicfdfaa.GoC.below_cur HBwt_49.out Gt_53.out HBwt_49.out.size (Go.Proofs.Ytbpjhmhnicfdfaa.GoC.cur_lt Kt_49.out).1)
    replace Ot_8 := Lib.hid (own_other Ot_8.out Gt_53.out (Apart.symm Dt_8_t_5.out))
    replace Ot_11 := Lib.hid (own_other Ot_11.out Gt_53.out (Apart.symm Dt_11_t_5.out))
    replace Ot_52 := Lib.hid (own_other Ot_52.out Gt_53.out (Apart.symm Dt_47_t_5.out))
    clear Kt_49 Gt_53
    cases ret_hid H
    go_wp2_with fail
    go_ret3
    exact ⟨At_8, ct_8, At_11, ct_11, rfl, Ot_8.out, Ot_11.out, (Apart.symm Dt_11_t_8.out), HBwt_53.out⟩
end Go.Proofs.Ytbpjhmhnicfdfaa.GsDrawIsPair

/- loop.example/g01062/spec.IsPair as a plain function, and the contract of the program's: where the plain one has an answer, the program has it. Conditions: slices read as lists. -/
namespace Go.Proofs.Ytbpjhmhnicfdfaa.GsIsPair
set_option linter.unusedVariables false
set_option linter.unusedSimpArgs false
open Go.RowKit
open Go.Proofs.Ytbpjhmhnicfdfaa.Rowed Go.Proofs.Ytbpjhmhnicfdfaa.Turn Go.Proofs.Ytbpjhmhnicfdfaa.Aid Go.Proofs.Ytbpjhmhnicfdfaa.GoP Go.Proofs.Ytbpjhmhnicfdfaa.GoM

def l0 (a : (List Int)) (b : (List Int)) (off : Int) (s : Int) (nx0 bk0 : Int → Option (Bool × Bool)) : Option (Bool × Bool) :=
  letK s fun i_8l0 =>
  letK (decide (i_8l0 < (a.length : Int))) fun (t_28 : Bool) =>
  iteK t_28
  (Option.bind (idx a i_8l0) fun (yt_31 : Int) =>
  Option.bind (idx a 0) fun (yt_34 : Int) =>
  letK (IntKind.i64.wrap (yt_31 - yt_34)) fun (t_36 : Int) =>
  Option.bind (idx b i_8l0) fun (yt_39 : Int) =>
  letK (IntKind.i64.wrap (t_36 - yt_39)) fun (t_41 : Int) =>
  Option.bind (idx b 0) fun (yt_43 : Int) =>
  letK (IntKind.i64.wrap (t_41 + yt_43)) fun (t_45 : Int) =>
  letK (IntKind.i64.wrap (-off)) fun (t_47 : Int) =>
  Option.bind (Go.Proofs.Ytbpjhmhnicfdfaa.GsL1In.P t_45 t_47 off) fun (t_49 : Bool) =>
  letK (!t_49) fun (t_50 : Bool) =>
  iteK t_50
  (some (false, true))
  (letK (IntKind.i64.wrap (i_8l0 + 1)) fun (t_54 : Int) =>
  appK nx0 (t_54)))
  (appK bk0 (i_8l0))

def e0  (s : Int) : Option (Bool × Bool) :=
  letK s fun i_8l0 =>
  some (true, true)

def P (fuel : Nat) (a : (List Int)) (b : (List Int)) (off : Int) : Option (Bool × Bool) :=
  Option.bind (Go.Proofs.Ytbpjhmhnicfdfaa.GsL5Holes.P a) fun (t_3 : Bool) =>
  letK (!t_3) fun (t_4 : Bool) =>
  joinK (fun (t_9 : Bool) =>
  joinK (fun (t_16 : Bool) =>
  joinK (fun (t_21 : Bool) =>
  iteK t_21
  (some (false, false))
  (loopK (l0 a b off) fuel (1) (e0 ))) fun jt_21 => iteK t_16 (appK jt_21 true) (Option.bind (Go.Proofs.Ytbpjhmhnicfdfaa.GsL1In.P off 0 50) fun (t_19 : Bool) =>
  letK (!t_19) fun (t_20 : Bool) =>
  appK jt_21 t_20)) fun jt_16 => iteK t_9 (appK jt_16 true) (letK ((a.length : Int) != (b.length : Int)) fun (t_15 : Bool) =>
  appK jt_16 t_15)) fun jt_9 => iteK t_4 (appK jt_9 true) (Option.bind (Go.Proofs.Ytbpjhmhnicfdfaa.GsL5Holes.P b) fun (t_7 : Bool) =>
  letK (!t_7) fun (t_8 : Bool) =>
  appK jt_9 t_8)

set_option maxRecDepth 100000 in
set_option maxHeartbeats 2000000 in
theorem C (fuel : Nat) (a : (List Int)) (b : (List Int)) (off : Int) (A0 : Option Addr) (c0 : Nat) (A1 : Option Addr) (c1 : Nat)  (w : World) (M0 : Hid (Cells w 1 A0 a.length (Go.Proofs.Ytbpjhmhnicfdfaa.HelpInt.iv a))) (N0 : Hid (a.length ≤ 9223372036854775807)) (M1 : Hid (Cells w 1 A1 b.length (Go.Proofs.Ytbpjhmhnicfdfaa.HelpInt.iv b))) (N1 : Hid (b.length ≤ 9223372036854775807))  {r0 : Bool} {r1 : Bool} (H : Hid (P fuel a b off = some (r0, r1))) :
    Calls Try.prog 13 #[.slice A0 a.length c0, .slice A1 b.length c1, .int .i64 off] w (Gives (.tuple #[.bool r0, .bool r1]) w) := by
  have HB := Lib.hid (Below.refl w.heap.size w)
  unfold P at H
  have N0o := N0.out
  have N1o := N1.out
  go_enter Try.func13, Try.ntmps13
  replace H := bind_hid H
  obtain ⟨t_3, qt_3, H⟩ := H
  go_wp2_with fail
  go_at_call 33
  refine (Go.Proofs.Ytbpjhmhnicfdfaa.GsL5Holes.C (a) A0 c0 _   (Lib.hid (Cells.below M0.out HB.out)) N0 qt_3).mono ?_
  rintro e_t_3 wt_3 ⟨rfl, bt_3⟩
  have HBwt_3 := Lib.hid (Below.step HB.out bt_3)
  clear bt_3
  cases t_3 with
  | false =>
    replace H := let_hid H
    obtain ⟨t_4, ht_4, H⟩ := H
    obtain rfl : t_4 = true := ht_4.symm
    replace H := join_hid H
    replace H := ite_t H
    replace H := app_hid H
    replace H := join_hid H
    replace H := ite_t H
    replace H := app_hid H
    replace H := join_hid H
    replace H := ite_t H
    replace H := app_hid H
    replace H := ite_t H
    cases ret_hid H
    go_wp2_with fail
    go_ret2
    exact ⟨rfl, HBwt_3.out⟩
  | true =>
    replace H := let_hid H
    obtain ⟨t_4, ht_4, H⟩ := H
    obtain rfl : t_4 = false := ht_4.symm
    replace H := join_hid H
    replace H := ite_f H
    replace H := bind_hid H
    obtain ⟨t_7, qt_7, H⟩ := H
    go_wp2_with fail
    go_at_call 33
    refine (Go.Proofs.Ytbpjhmhnicfdfaa.GsL5Holes.C (b) A1 c1 _   (Lib.hid (Cells.below M1.out HBwt_3.out)) N1 qt_7).mono ?_
    rintro e_t_7 wt_7 ⟨rfl, bt_7⟩
    have HBwt_7 := Lib.hid (Below.step HBwt_3.out bt_7)
    clear bt_7
    cases t_7 with
    | false =>
      replace H := let_hid H
      obtain ⟨t_8, ht_8, H⟩ := H
      obtain rfl : t_8 = true := ht_8.symm
      replace H := app_hid H
      replace H := join_hid H
      replace H := ite_t H
      replace H := app_hid H
      replace H := join_hid H
      replace H := ite_t H
      replace H := app_hid H
      replace H := ite_t H
      cases ret_hid H
      go_wp2_with fail
      go_ret2
      exact ⟨rfl, HBwt_7.out⟩
    | true =>
      replace H := let_hid H
      obtain ⟨t_8, ht_8, H⟩ := H
      obtain rfl : t_8 = false := ht_8.symm
      replace H := app_hid H
      replace H := join_hid H
      replace H := ite_f H
      replace H := let_hid H
      obtain ⟨t_15, ht_15, H⟩ := H
      replace H := app_hid H
      replace H := join_hid H
      cases t_15 with
      | false =>
        have Hht_15 : Hid (a.length = b.length) := Lib.hid (by have := bne_eq_false_iff_eq.1 ht_15; omega)
        have nht_15 : (a.length == b.length) = true := beq_iff_eq.2 Hht_15.out
        replace H := ite_f H
        replace H := bind_hid H
        obtain ⟨t_19, qt_19, H⟩ := H
        go_wp2_with fail
        go_at_call 44
        refine (Go.Proofs.Ytbpjhmhnicfdfaa.GsL1In.C (off) (0) (50)  _    qt_19).mono ?_
        rintro e_t_19 wt_19 ⟨rfl, bt_19⟩
        have HBwt_19 := Lib.hid (Below.step HBwt_7.out bt_19)
        clear bt_19
        cases t_19 with
        | false =>
          replace H := let_hid H
          obtain ⟨t_20, ht_20, H⟩ := H
          obtain rfl : t_20 = true := ht_20.symm
          replace H := app_hid H
          replace H := ite_t H
          cases ret_hid H
          go_wp2_with fail
          go_ret2
          exact ⟨rfl, HBwt_19.out⟩
        | true =>
          replace H := let_hid H
          obtain ⟨t_20, ht_20, H⟩ := H
          obtain rfl : t_20 = false := ht_20.symm
          replace H := app_hid H
          replace H := ite_f H
          go_wp2_with fail
          go_loopg [8] (fuel) (fun m_ v8_ wr => ∃ (i_8l0 : Int), v8_ = .int .i64 i_8l0 ∧ Hid (loopK (l0 a b off) m_ (i_8l0) (e0 ) = some (r0, r1)) ∧ Hid (Below w.heap.size w wr))
          case atStart => exact ⟨_, rfl, H, HBwt_19⟩
          case round =>
            obtain ⟨i_8l0, rfl, H, HBwr0⟩ := hrel
            rename World => wr0
            cases gk with
            | zero => exact (loop_zero H).elim
            | succ m0 =>
              replace H := loop_succ H
              unfold l0 at H
              replace H := let_hid H
              obtain ⟨_, rfl, H⟩ := H
              replace H := let_hid H
              obtain ⟨t_28, ht_28, H⟩ := H
              cases t_28 with
              | false =>
                replace H := ite_f H
                replace H := app_hid H
                unfold e0 at H
                replace H := let_hid H
                obtain ⟨_, rfl, H⟩ := H
                cases ret_hid H
                go_wp2_with fail
                go_ret2
                exact ⟨rfl, HBwr0.out⟩
              | true =>
                replace H := ite_t H
                go_wp2_with fail
                replace H := idx_hid H
                obtain ⟨nt_31, yt_31, et_31, lt_31, gt_31, H⟩ := H
                subst et_31
                have nc_9 : nt_31 < a.length := by have := of_decide_eq_true ht_28; omega
                obtain ⟨ab_t_31, ao_t_31, zt_31, At_31, z_t_31, ct_31_0⟩ := Go.Proofs.Ytbpjhmhnicfdfaa.HelpInt.Ints.at_ M0.out lt_31
                obtain rfl := Option.some.inj (gt_31.out.symm.trans z_t_31)
                subst At_31
                have ltt_31 := cell_lt ct_31_0
                replace ct_31_0 := cell_below HBwr0.out ct_31_0
                clear z_t_31
                have b0t_31 : (0 : Int) ≤ (nt_31 : Int) := by omega
                have b1t_31 : (nt_31 : Int) < ((a.length : Nat) : Int) := by omega
                have b2t_31 : ((nt_31 : Int)).toNat = nt_31 := by omega
                have Hct_31_0 := Lib.hid ct_31_0
                replace ct_31_0 := cell_regrown ct_31_0
                replace H := idx_hid H
                obtain ⟨nt_34, yt_34, et_34, lt_34, gt_34, H⟩ := H
                obtain rfl : 0 = nt_34 := by omega
                clear et_34
                obtain ⟨ab_t_34, ao_t_34, zt_34, At_34, z_t_34, ct_34_0⟩ := Go.Proofs.Ytbpjhmhnicfdfaa.HelpInt.Ints.at_ M0.out lt_34
                obtain rfl := Option.some.inj (gt_34.out.symm.trans z_t_34)
                simp only [Option.some.injEq, Addr.mk.injEq] at At_34
                obtain ⟨rfl, rfl, _⟩ := At_34
                have ltt_34 := cell_lt ct_34_0
                replace ct_34_0 := cell_below HBwr0.out ct_34_0
                clear z_t_34
                have b1t_34 : (0 : Int) < ((a.length : Nat) : Int) := by omega
                have b3t_34 : 0 < a.length := by omega
                try simp only [Nat.zero_mul, Nat.add_zero, Nat.zero_add, Nat.reduceMul] at ct_34_0
                have Hct_34_0 := Lib.hid ct_34_0
                replace ct_34_0 := cell_regrown ct_34_0
                replace H := let_hid H
                obtain ⟨t_36, ht_36, H⟩ := H
                replace H := idx_hid H
                obtain ⟨nt_39, yt_39, et_39, lt_39, gt_39, H⟩ := H
                obtain rfl : nt_31 = nt_39 := by omega
                clear et_39
                obtain ⟨ab_t_39, ao_t_39, zt_39, At_39, z_t_39, ct_39_0⟩ := Go.Proofs.Ytbpjhmhnicfdfaa.HelpInt.Ints.at_ M1.out lt_39
                obtain rfl := Option.some.inj (gt_39.out.symm.trans z_t_39)
                subst At_39
                have ltt_39 := cell_lt ct_39_0
                replace ct_39_0 := cell_below HBwr0.out ct_39_0
                clear z_t_39
                have b0t_39 : (0 : Int) ≤ (nt_31 : Int) := by omega
                have b1t_39 : (nt_31 : Int) < ((b.length : Nat) : Int) := by omega
                have b2t_39 : ((nt_31 : Int)).toNat = nt_31 := by omega
                have Hct_39_0 := Lib.hid ct_39_0
                replace ct_39_0 := cell_regrown ct_39_0
                replace H := let_hid H
                obtain ⟨t_41, ht_41, H⟩ := H
                replace H := idx_hid H
                obtain ⟨nt_43, yt_43, et_43, lt_43, gt_43, H⟩ := H
                obtain rfl : 0 = nt_43 := by omega
                clear et_43
                obtain ⟨ab_t_43, ao_t_43, zt_43, At_43, z_t_43, ct_43_0⟩ := Go.Proofs.Ytbpjhmhnicfdfaa.HelpInt.Ints.at_ M1.out lt_43
                obtain rfl := Option.some.inj (gt_43.out.symm.trans z_t_43)
                simp only [Option.some.injEq, Addr.mk.injEq] at At_43
                obtain ⟨rfl, rfl, _⟩ := At_43
                have ltt_43 := cell_lt ct_43_0
                replace ct_43_0 := cell_below HBwr0.out ct_43_0
                clear z_t_43
                have b1t_43 : (0 : Int) < ((b.length : Nat) : Int) := by omega
                have b3t_43 : 0 < b.length := by omega
                try simp only [Nat.zero_mul, Nat.add_zero, Nat.zero_add, Nat.reduceMul] at ct_43_0
                have Hct_43_0 := Lib.hid ct_43_0
                replace ct_43_0 := cell_regrown ct_43_0
                replace H := let_hid H
                obtain ⟨t_45, ht_45, H⟩ := H
                replace H := let_hid H
                obtain ⟨t_47, ht_47, H⟩ := H
                replace H := bind_hid H
                obtain ⟨t_49, qt_49, H⟩ := H
                have nt_49 : ∀ d os, Calls Try.prog 44 #[.int .i64 t_45, .int .i64 t_47, .int .i64 off] (Go.Sort.grow (redrawn wr0 d) os) fun e w'' => e = .returned (.bool t_49) ∧ ∃ p : Regrown, w'' = Go.Sort.grow (redrawn wr0 p.d) p.os := fun d os => Calls.regrown_of (Go.Proofs.Ytbpjhmhnicfdfaa.GsL1In.C (t_45) (t_47) (off)  _    qt_49)
                cases t_49 with
                | false =>
                  replace H := let_hid H
                  obtain ⟨t_50, ht_50, H⟩ := H
                  obtain rfl : t_50 = true := ht_50.symm
                  refine wp_region_quiet_below (by kernel_rfl) (by kernel_rfl) ?_
                  repeat (go_big_quiet_step (first | (go_at_call 44; exact nt_49 _ _)))
                  refine wpQuiet_nil ?_
                  intro Y6 hY6
                  replace hY6 := below_class hY6
                  clear nt_49
                  replace ct_31_0 := Hct_31_0.out
                  clear Hct_31_0
                  replace ct_34_0 := Hct_34_0.out
                  clear Hct_34_0
                  replace ct_39_0 := Hct_39_0.out
                  clear Hct_39_0
                  replace ct_43_0 := Hct_43_0.out
                  clear Hct_43_0
                  have HBY6 := Lib.hid (Below.step HBwr0.out hY6)
                  replace ct_31_0 := cell_below hY6 ct_31_0
                  replace ct_34_0 := cell_below hY6 ct_34_0
                  replace ct_39_0 := cell_below hY6 ct_39_0
                  replace ct_43_0 := cell_below hY6 ct_43_0
                  clear hY6
                  replace H := ite_t H
                  cases ret_hid H
                  go_wp2_with fail
                  go_ret2
                  exact ⟨rfl, HBY6.out⟩
                | true =>
                  replace H := let_hid H
                  obtain ⟨t_50, ht_50, H⟩ := H
                  obtain rfl : t_50 = false := ht_50.symm
                  refine wp_region_quiet_below (by kernel_rfl) (by kernel_rfl) ?_
                  repeat (go_big_quiet_step (first | (go_at_call 44; exact nt_49 _ _)))
                  refine wpQuiet_nil ?_
                  intro Y6 hY6
                  replace hY6 := below_class hY6
                  clear nt_49
                  replace ct_31_0 := Hct_31_0.out
                  clear Hct_31_0
                  replace ct_34_0 := Hct_34_0.out
                  clear Hct_34_0
                  replace ct_39_0 := Hct_39_0.out
                  clear Hct_39_0
                  replace ct_43_0 := Hct_43_0.out
                  clear Hct_43_0
                  have HBY6 := Lib.hid (Below.step HBwr0.out hY6)
                  replace ct_31_0 := cell_below hY6 ct_31_0
                  replace ct_34_0 := cell_below hY6 ct_34_0
                  replace ct_39_0 := cell_below hY6 ct_39_0
                  replace ct_43_0 := cell_below hY6 ct_43_0
                  clear hY6
                  replace H := ite_f H
                  replace H := let_hid H
                  obtain ⟨t_54, ht_54, H⟩ := H
                  replace H := app_hid H
                  go_wp2_with fail
                  go_roundg m0
                  case measure => omega
                  case rel => exact ⟨_, rfl, H, HBY6⟩
      | true =>
        have nht_15 : ¬ (a.length = b.length) := by have := bne_iff_ne.1 ht_15; omega
        replace H := ite_t H
        replace H := app_hid H
        replace H := ite_t H
        cases ret_hid H
        go_wp2_with fail
        go_ret2
        exact ⟨rfl, HBwt_7.out⟩
end Go.Proofs.Ytbpjhmhnicfdfaa.GsIsPair

/- (*loop.example/g01062/spec.l1Cur).gauge5 as a plain function, and the contract of the program's: where the plain one has an answer, the program has it. Conditions: slices read as lists. -/
namespace Go.Proofs.Ytbpjhmhnicfdfaa.GsL1CurGauge5
set_option linter.unusedVariables false
set_option linter.unusedSimpArgs false
open Go.RowKit
open Go.Proofs.Ytbpjhmhnicfdfaa.Rowed Go.Proofs.Ytbpjhmhnicfdfaa.Turn Go.Proofs.Ytbpjhmhnicfdfaa.Aid Go.Proofs.Ytbpjhmhnicfdfaa.GoP Go.Proofs.Ytbpjhmhnicfdfaa.GoM

def P (c : Go.Proofs.Ytbpjhmhnicfdfaa.GoC.Tape) : Option (Int × Go.Proofs.Ytbpjhmhnicfdfaa.GoC.Tape) :=
  letK ([500, 1100, 1150, 1175, 1200, 1400, 2000]) fun (t_2 : (List Int)) =>
  bind2 (Go.Proofs.Ytbpjhmhnicfdfaa.GsL1CurAmong.P c t_2) fun (t_3 : Int) (t_3_tp : Go.Proofs.Ytbpjhmhnicfdfaa.GoC.Tape) =>
  some (t_3, t_3_tp)

set_option maxRecDepth 100000 in
set_option maxHeartbeats 2000000 in
theorem C (c : Go.Proofs.Ytbpjhmhnicfdfaa.GoC.Tape)   (g0 : Nat) (Ac0 : Option Addr) (cc0 : Nat) (bc0 : Nat) (w : World)   (K0 : Hid (Go.Proofs.Ytbpjhmhnicfdfaa.GoC.CurIs w bc0 g0 Ac0 cc0 c)) {r : Int} {t_ : Go.Proofs.Ytbpjhmhnicfdfaa.GoC.Tape} (H : Hid (P c = some (r, t_))) :
    Calls Try.prog 52 #[.pointer (some ⟨g0, 0, none⟩)] w (fun e w' => e = .returned (.int .i64 r) ∧ Go.Proofs.Ytbpjhmhnicfdfaa.GoC.CurIs w' bc0 g0 Ac0 cc0 t_ ∧ w.grownBy w' (Value.slice (some ⟨g0, 0, none⟩) 1 1).ownBlock) := by
  have HB := Lib.hid (Aid.grown_refl w (Value.slice (some ⟨g0, 0, none⟩) 1 1).ownBlock)
  unfold P at H
  have L0 : bc0 ≤ w.heap.size := by have := Go.Proofs.Ytbpjhmhnicfdfaa.GoC.cur_lt K0.out; omega
  go_enter Try.func52, Try.ntmps52
  replace H := let_hid H
  obtain ⟨t_2, ht_2, H⟩ := H
  obtain ⟨w_t_2, hw_t_2⟩ : ∃ x, w.alloc (.cells #[.int .i64 500, .int .i64 1100, .int .i64 1150, .int .i64 1175, .int .i64 1200, .int .i64 1400, .int .i64 2000] 3) = x := ⟨_, rfl⟩
  have bw_t_2 : Below w.heap.size w w_t_2 := by rw [← hw_t_2]; exact (Below.refl _ _).alloc (Nat.le_refl _) _
  have hs_t_2 := HB.out.size
  have nt_2 : t_2.length = 7 := by rw [← ht_2]; rfl
  have Ot_2 : Hid (w_t_2.ownsRow w.heap.size 3 1 (.slice (some ⟨w.heap.size, 0, none⟩) 7 7) 7 (Go.Proofs.Ytbpjhmhnicfdfaa.HelpInt.iv t_2)) := by
    rw [← hw_t_2, ← ht_2]
    have e_ : ([.int .i64 500, .int .i64 1100, .int .i64 1150, .int .i64 1175, .int .i64 1200, .int .i64 1400, .int .i64 2000] : List Value) = (Go.Proofs.Ytbpjhmhnicfdfaa.HelpInt.iv ([500, 1100, 1150, 1175, 1200, 1400, 2000] : List Int)) := rfl
    exact Lib.hid (own_laid (n := 7) hs_t_2 e_ rfl (by unfold maxLen; omega))
  clear hs_t_2
  have hht_2 := Lib.hid ht_2
  clear ht_2
  replace nt_2 := Lib.hid nt_2
  have Dt_2_c0 := Lib.hid (Go.Proofs.Ytbpjhmhnicfdfaa.GoC.apart_cur K0.out)
  have HBw_t_2 := Lib.hid (grown_below HB.out bw_t_2)
  replace K0 := Lib.hid (Go.Proofs.Ytbpjhmhnicfdfaa.GoC.cur_below K0.out bw_t_2)
  clear bw_t_2
  replace H := bind2_hid H
  obtain ⟨t_3, t_3_tp, qt_3, H⟩ := H
  go_wp2_with fail
  have hc_ := nt_2.out
  have hv_ : (Value.slice (some ⟨w.heap.size, 0, none⟩) 7 7 : Value) = Value.slice (some ⟨w.heap.size, 0, none⟩) t_2.length 7 := by rw [hc_]
  try rw [hv_]
  replace Ot_2 := Lib.hid (own_len hc_ Ot_2.out)
  clear hc_ hv_
  go_wp2_with fail
  go_at_call 42
  refine (Go.Proofs.Ytbpjhmhnicfdfaa.GsL1CurAmong.C (c) (t_2) (some ⟨w.heap.size, 0, none⟩) 7 (g0) (Ac0) (cc0) (bc0) _   (Lib.hid (own_cells Ot_2.out)) (Lib.hid (own_max Ot_2.out)) K0 (Lib.hid (fun _ => Dt_2_c0.out)) qt_3).mono ?_
  rintro e_t_3 wt_3 ⟨rfl, kt_3, gt_3⟩
  have Kt_3 := Lib.hid kt_3
  have Gt_3 : Hid (w_t_2.grownBy wt_3 (Value.slice (some ⟨g0, 0, none⟩) 1 1).ownBlock) := Lib.hid gt_3
  clear kt_3 gt_3
  have HBwt_3 := Lib.hid (Aid.grown_tr HBw_t_2.out Gt_3.out)
  replace Ot_2 := Lib.hid (own_other Ot_2.out Gt_3.out (Apart.symm Dt_2_c0.out))
  clear K0 Gt_3
  cases ret_hid H
  go_wp2_with fail
  go_ret
  exact ⟨rfl, Kt_3.out, HBwt_3.out⟩
end Go.Proofs.Ytbpjhmhnicfdfaa.GsL1CurGauge5

/- (*loop.example/g01062/spec.l1Cur).ask5 as a plain function, and the contract of the program's: where the plain one has an answer, the program has it. Conditions: slices read as lists. -/
namespace Go.Proofs.Ytbpjhmhnicfdfaa.GsL1CurAsk5
set_option linter.unusedVariables false
set_option linter.unusedSimpArgs false
open Go.RowKit
open Go.Proofs.Ytbpjhmhnicfdfaa.Rowed Go.Proofs.Ytbpjhmhnicfdfaa.Turn Go.Proofs.Ytbpjhmhnicfdfaa.Aid Go.Proofs.Ytbpjhmhnicfdfaa.GoP Go.Proofs.Ytbpjhmhnicfdfaa.GoM

def P (c : Go.Proofs.Ytbpjhmhnicfdfaa.GoC.Tape) : Option (Int × Go.Proofs.Ytbpjhmhnicfdfaa.GoC.Tape) :=
  bind2 (Go.Proofs.Ytbpjhmhnicfdfaa.GsL1CurOne.P c 8) fun (t_2 : Bool) (t_2_tp : Go.Proofs.Ytbpjhmhnicfdfaa.GoC.Tape) =>
  iteK t_2
  (letK ([0, 0, 499, 2001]) fun (t_4 : (List Int)) =>
  bind2 (Go.Proofs.Ytbpjhmhnicfdfaa.GsL1CurAmong.P t_2_tp t_4) fun (t_5 : Int) (t_5_tp : Go.Proofs.Ytbpjhmhnicfdfaa.GoC.Tape) =>
  some (t_5, t_5_tp))
  (bind2 (Go.Proofs.Ytbpjhmhnicfdfaa.GsL1CurGauge5.P t_2_tp) fun (t_8 : Int) (t_8_tp : Go.Proofs.Ytbpjhmhnicfdfaa.GoC.Tape) =>
  letK ([0, 0, 10, 25, (-25)]) fun (t_10 : (List Int)) =>
  bind2 (Go.Proofs.Ytbpjhmhnicfdfaa.GsL1CurAmong.P t_8_tp t_10) fun (t_11 : Int) (t_11_tp : Go.Proofs.Ytbpjhmhnicfdfaa.GoC.Tape) =>
  letK (IntKind.i64.wrap (t_8 + t_11)) fun (t_12 : Int) =>
  some (t_12, t_11_tp))

set_option maxRecDepth 100000 in
set_option maxHeartbeats 2000000 in
theorem C (c : Go.Proofs.Ytbpjhmhnicfdfaa.GoC.Tape)   (g0 : Nat) (Ac0 : Option Addr) (cc0 : Nat) (bc0 : Nat) (w : World)   (K0 : Hid (Go.Proofs.Ytbpjhmhnicfdfaa.GoC.CurIs w bc0 g0 Ac0 cc0 c)) {r : Int} {t_ : Go.Proofs.Ytbpjhmhnicfdfaa.GoC.Tape} (H : Hid (P c = some (r, t_))) :
    Calls Try.prog 45 #[.pointer (some ⟨g0, 0, none⟩)] w (fun e w' => e = .returned (.int .i64 r) ∧ Go.Proofs.Ytbpjhmhnicfdfaa.GoC.CurIs w' bc0 g0 Ac0 cc0 t_ ∧ w.grownBy w' (Value.slice (some ⟨g0, 0, none⟩) 1 1).ownBlock) := by
  have HB := Lib.hid (Aid.grown_refl w (Value.slice (some ⟨g0, 0, none⟩) 1 1).ownBlock)
  unfold P at H
  have L0 : bc0 ≤ w.heap.size := by have := Go.Proofs.Ytbpjhmhnicfdfaa.GoC.cur_lt K0.out; omega
  go_enter Try.func45, Try.ntmps45
  replace H := bind2_hid H
  obtain ⟨t_2, t_2_tp, qt_2, H⟩ := H
  go_wp2_with fail
  go_at_call 41
  refine (Go.Proofs.Ytbpjhmhnicfdfaa.GsL1CurOne.C (c) (8) (g0) (Ac0) (cc0) (bc0) _   K0 qt_2).mono ?_
  rintro e_t_2 wt_2 ⟨rfl, kt_2, gt_2⟩
  have Kt_2 := Lib.hid kt_2
  have Gt_2 : Hid (w.grownBy wt_2 (Value.slice (some ⟨g0, 0, none⟩) 1 1).ownBlock) := Lib.hid gt_2
  clear kt_2 gt_2
  have HBwt_2 := Lib.hid (Aid.grown_tr HB.out Gt_2.out)
  clear K0 Gt_2
  cases t_2 with
  | false =>
    replace H := ite_f H
    replace H := bind2_hid H
    obtain ⟨t_8, t_8_tp, qt_8, H⟩ := H
    go_wp2_with fail
    go_at_call 52
    refine (Go.Proofs.Ytbpjhmhnicfdfaa.GsL1CurGauge5.C (t_2_tp) (g0) (Ac0) (cc0) (bc0) _   Kt_2 qt_8).mono ?_
    rintro e_t_8 wt_8 ⟨rfl, kt_8, gt_8⟩
    have Kt_8 := Lib.hid kt_8
    have Gt_8 : Hid (wt_2.grownBy wt_8 (Value.slice (some ⟨g0, 0, none⟩) 1 1).ownBlock) := Lib.hid gt_8
    clear kt_8 gt_8
    have HBwt_8 := Lib.hid (Aid.grown_tr HBwt_2.out Gt_8.out)
    clear Kt_2 Gt_8
    replace H := let_hid H
    obtain ⟨t_10, ht_10, H⟩ := H
    obtain ⟨w_t_10, hw_t_10⟩ : ∃ x, wt_8.alloc (.cells #[.int .i64 0, .int .i64 0, .int .i64 10, .int .i64 25, .int .i64 (-25)] 3) = x := ⟨_, rfl⟩
    have bw_t_10 : Below wt_8.heap.size wt_8 w_t_10 := by rw [← hw_t_10]; exact (Below.refl _ _).alloc (Nat.le_refl _) _
    have hs_t_10 := HBwt_8.out.size
    have nt_10 : t_10.length = 5 := by rw [← ht_10]; rfl
    have Ot_10 : Hid (w_t_10.ownsRow w.heap.size 3 1 (.slice (some ⟨wt_8.heap.size, 0, none⟩) 5 5) 5 (Go.Proofs.Ytbpjhmhnicfdfaa.HelpInt.iv t_10)) := by
      rw [← hw_t_10, ← ht_10]
      have e_ : ([.int .i64 0, .int .i64 0, .int .i64 10, .int .i64 25, .int .i64 (-25)] : List Value) = (Go.Proofs.Ytbpjhmhnicfdfaa.HelpInt.iv ([0, 0, 10, 25, (-25)] : List Int)) := rfl
      exact Lib.hid (own_laid (n := 5) hs_t_10 e_ rfl (by unfold maxLen; omega))
    clear hs_t_10
    have hht_10 := Lib.hid ht_10
    clear ht_10
    replace nt_10 := Lib.hid nt_10
    have Dt_10_c0 := Lib.hid (Go.Proofs.Ytbpjhmhnicfdfaa.GoC.apart_cur Kt_8.out)
    have HBw_t_10 := Lib.hid (grown_below HBwt_8.out bw_t_10)
    replace Kt_8 := Lib.hid (Go.Proofs.Ytbpjhmhnicfdfaa.GoC.cur_below Kt_8.out bw_t_10)
    clear bw_t_10
    replace H := bind2_hid H
    obtain ⟨t_11, t_11_tp, qt_11, H⟩ := H
    go_wp2_with fail
    have hc_ := nt_10.out
    have hv_ : (Value.slice (some ⟨wt_8.heap.size, 0, none⟩) 5 5 : Value) = Value.slice (some ⟨wt_8.heap.size, 0, none⟩) t_10.length 5 := by rw [hc_]
    try rw [hv_]
    replace Ot_10 := Lib.hid (own_len hc_ Ot_10.out)
    clear hc_ hv_
    go_wp2_with fail
    go_at_call 42
    refine (Go.Proofs.Ytbpjhmhnicfdfaa.GsL1CurAmong.C (t_8_tp) (t_10) (some ⟨wt_8.heap.size, 0, none⟩) 5 (g0) (Ac0) (cc0) (bc0) _   (Lib.hid (own_cells Ot_10.out)) (Lib.hid (own_max Ot_10.out)) Kt_8 (Lib.hid (fun _ => Dt_10_c0.out)) qt_11).mono ?_
    rintro e_t_11 wt_11 ⟨rfl, kt_11, gt_11⟩
    have Kt_11 := Lib.hid kt_11
    have Gt_11 : Hid (w_t_10.grownBy wt_11 (Value.slice (some ⟨g0, 0, none⟩) 1 1).ownBlock) := Lib.hid gt_11
    clear kt_11 gt_11
    have HBwt_11 := Lib.hid (Aid.grown_tr HBw_t_10.out Gt_11.out)
    replace Ot_10 := Lib.hid (own_other Ot_10.out Gt_11.out (Apart.symm Dt_10_c0.out))
    clear Kt_8 Gt_11
    replace H := let_hid H
    obtain ⟨t_12, ht_12, H⟩ := H
    cases ret_hid H
    go_wp2_with fail
    go_ret
    exact ⟨rfl, Kt_11.out, HBwt_11.out⟩
  | true =>
    replace H := ite_t H
    replace H := let_hid H
    obtain ⟨t_4, ht_4, H⟩ := H
    obtain ⟨w_t_4, hw_t_4⟩ : ∃ x, wt_2.alloc (.cells #[.int .i64 0, .int .i64 0, .int .i64 499, .int .i64 2001] 3) = x := ⟨_, rfl⟩
    have bw_t_4 : Below wt_2.heap.size wt_2 w_t_4 := by rw [← hw_t_4]; exact (Below.refl _ _).alloc (Nat.le_refl _) _
    have hs_t_4 := HBwt_2.out.size
    have nt_4 : t_4.length = 4 := by rw [← ht_4]; rfl
    have Ot_4 : Hid (w_t_4.ownsRow w.heap.size 3 1 (.slice (some ⟨wt_2.heap.size, 0, none⟩) 4 4) 4 (Go.Proofs.Ytbpjhmhnicfdfaa.HelpInt.iv t_4)) := by
      rw [← hw_t_4, ← ht_4]
      have e_ : ([.int .i64 0, .int .i64 0, .int .i64 499, .int .i64 2001] : List Value) = (Go.Proofs.Ytbpjhmhnicfdfaa.HelpInt.iv ([0, 0, 499, 2001] : List Int)) := rfl
      exact Lib.hid (own_laid (n := 4) hs_t_4 e_ rfl (by unfold maxLen; omega))
    clear hs_t_4
    have hht_4 := Lib.hid ht_4
    clear ht_4
    replace nt_4 := Lib.hid nt_4
    have Dt_4_c0 := Lib.hid (Go.Proofs.Ytbpjhmhnicfdfaa.GoC.apart_cur Kt_2.out)
    have HBw_t_4 := Lib.hid (grown_below HBwt_2.out bw_t_4)
    replace Kt_2 := Lib.hid (Go.Proofs.Ytbpjhmhnicfdfaa.GoC.cur_below Kt_2.out bw_t_4)
    clear bw_t_4
    replace H := bind2_hid H
    obtain ⟨t_5, t_5_tp, qt_5, H⟩ := H
    go_wp2_with fail
    have hc_ := nt_4.out
    have hv_ : (Value.slice (some ⟨wt_2.heap.size, 0, none⟩) 4 4 : Value) = Value.slice (some ⟨wt_2.heap.size, 0, none⟩) t_4.length 4 := by rw [hc_]
    try rw [hv_]
    replace Ot_4 := Lib.hid (own_len hc_ Ot_4.out)
    clear hc_ hv_
    go_wp2_with fail
    go_at_call 42
    refine (Go.Proofs.Ytbpjhmhnicfdfaa.GsL1CurAmong.C (t_2_tp) (t_4) (some ⟨wt_2.heap.size, 0, none⟩) 4 (g0) (Ac0) (cc0) (bc0) _   (Lib.hid (own_cells Ot_4.out)) (Lib.hid (own_max Ot_4.out)) Kt_2 (Lib.hid (fun _ => Dt_4_c0.out)) qt_5).mono ?_
    rintro e_t_5 wt_5 ⟨rfl, kt_5, gt_5⟩
    have Kt_5 := Lib.hid kt_5
    have Gt_5 : Hid (w_t_4.grownBy wt_5 (Value.slice (some ⟨g0, 0, none⟩) 1 1).ownBlock) := Lib.hid gt_5
    clear kt_5 gt_5
    have HBwt_5 := Lib.hid (Aid.grown_tr HBw_t_4.out Gt_5.out)
    replace Ot_4 := Lib.hid (own_other Ot_4.out Gt_5.out (Apart.symm Dt_4_c0.out))
    clear Kt_2 Gt_5
    cases ret_hid H
    go_wp2_with fail
    go_ret
    exact ⟨rfl, Kt_5.out, HBwt_5.out⟩
end Go.Proofs.Ytbpjhmhnicfdfaa.GsL1CurAsk5

/- loop.example/g01062/spec.DrawMissingHoles as a plain function, and the contract of the program's: where the plain one has an answer, the program has it. Conditions: slices read as lists. -/
namespace Go.Proofs.Ytbpjhmhnicfdfaa.GsDrawMissingHoles
set_option linter.unusedVariables false
set_option linter.unusedSimpArgs false
open Go.RowKit
open Go.Proofs.Ytbpjhmhnicfdfaa.Rowed Go.Proofs.Ytbpjhmhnicfdfaa.Turn Go.Proofs.Ytbpjhmhnicfdfaa.Aid Go.Proofs.Ytbpjhmhnicfdfaa.GoP Go.Proofs.Ytbpjhmhnicfdfaa.GoM

def P (fuel : Nat) (tapes : List Int → Go.Proofs.Ytbpjhmhnicfdfaa.GoC.Tape) (code : (List Int)) : Option ((List Int) × Int) :=
  letK (tapes code) fun (t_4 : Go.Proofs.Ytbpjhmhnicfdfaa.GoC.Tape) =>
  bind2 (Go.Proofs.Ytbpjhmhnicfdfaa.GsL1CurHoles5.P fuel t_4) fun (t_7 : (List Int)) (t_7_tp : Go.Proofs.Ytbpjhmhnicfdfaa.GoC.Tape) =>
  bind2 (Go.Proofs.Ytbpjhmhnicfdfaa.GsL1CurAsk5.P t_7_tp) fun (t_9 : Int) (t_9_tp : Go.Proofs.Ytbpjhmhnicfdfaa.GoC.Tape) =>
  some (t_7, t_9)

set_option maxRecDepth 100000 in
set_option maxHeartbeats 2000000 in
theorem C (fuel : Nat) (tapes : List Int → Go.Proofs.Ytbpjhmhnicfdfaa.GoC.Tape) (code : (List Int)) (A0 : Option Addr) (c0 : Nat)  (w : World) (HE : Hid (Go.Proofs.Ytbpjhmhnicfdfaa.GoC.Tells tapes)) (M0 : Hid (Cells w 1 A0 code.length (Go.Proofs.Ytbpjhmhnicfdfaa.GoC.u8s code))) (N0 : Hid (code.length ≤ 9223372036854775807)) (V0 : Hid (∀ z ∈ code, 0 ≤ z ∧ z ≤ 255))  {r0 : (List Int)} {r1 : Int} (H : Hid (P fuel tapes code = some (r0, r1))) :
    Calls Try.prog 14 #[.slice A0 code.length c0] w (fun e w' => ∃ A_r0 c_r0, e = .returned (.tuple #[.slice A_r0 r0.length c_r0, .int .i64 r1]) ∧ w'.ownsRow w.heap.size 3 1 (.slice A_r0 r0.length c_r0) r0.length (Go.Proofs.Ytbpjhmhnicfdfaa.HelpInt.iv r0) ∧ Below w.heap.size w w') := by
  have HB := Lib.hid (Below.refl w.heap.size w)
  unfold P at H
  have N0o := N0.out
  go_enter Try.func14, Try.ntmps14
  replace H := let_hid H
  obtain ⟨t_4, ht_4, H⟩ := H
  obtain ⟨w_t_4, hw_t_4⟩ : ∃ x, w.alloc (.cells #[.slice A0 code.length c0, .int .i64 0, .int .u64 0] 46) = x := ⟨_, rfl⟩
  have bw_t_4 : Below w.heap.size w w_t_4 := by rw [← hw_t_4]; exact (Below.refl _ _).alloc (Nat.le_refl _) _
  have Kt_4 : Hid (Go.Proofs.Ytbpjhmhnicfdfaa.GoC.CurIs w_t_4 w.heap.size w.heap.size A0 c0 t_4) := Lib.hid (by rw [← hw_t_4, ← ht_4]; exact Go.Proofs.Ytbpjhmhnicfdfaa.GoC.cur_new HB.out.size (Cells.below M0.out HB.out) (fun a_ ha_ h0_ => by subst ha_; exact Go.Proofs.Ytbpjhmhnicfdfaa.GoC.cells_lt M0.out (by unfold Go.Proofs.Ytbpjhmhnicfdfaa.GoC.u8s; rw [List.length_map]; exact h0_)) (HE.out.2.2 code V0.out N0.out))
  have hht_4 := Lib.hid ht_4
  clear ht_4
  have HBw_t_4 := Lib.hid (Below.step HB.out bw_t_4)
  clear bw_t_4
  replace H := bind2_hid H
  obtain ⟨t_7, t_7_tp, qt_7, H⟩ := H
  go_wp2_with fail
  go_at_call 30
  refine (Go.Proofs.Ytbpjhmhnicfdfaa.GsL1CurHoles5.C fuel (t_4) (w.heap.size) (A0) (c0) (w.heap.size) _   Kt_4 qt_7).mono ?_
  rintro e_t_7 wt_7 ⟨At_7, ct_7, rfl, ot_7, kt_7, gt_7⟩
  have Dt_7_t_4 := Lib.hid (Go.Proofs.Ytbpjhmhnicfdfaa.GoC.apart_callcur ot_7 Kt_4.out)
  have Ot_7 := Lib.hid (own_lower ot_7 HBw_t_4.out.size)
  clear ot_7
  have Kt_7 := Lib.hid kt_7
  have Gt_7 : Hid (w_t_4.grownBy wt_7 (Value.slice (some ⟨w.heap.size, 0, none⟩) 1 1).ownBlock) := Lib.hid gt_7
  clear kt_7 gt_7
  have HBwt_7 := Lib.hid (Go.Proofs.Ytbpjhmhnicfdfaa.GoC.below_cur HBw_t_4.out Gt_7.out HBw_t_4.out.size (Go.Proofs.Ytbpjhmhnicfdfaa.GoC.cur_lt Kt_4.out).1)
  clear Kt_4 Gt_7
  replace H := bind2_hid H
  obtain ⟨t_9, t_9_tp, qt_9, H⟩ := H
  go_wp2_with fail
  go_at_call 45
  refine (Go.Proofs.Ytbpjhmhnicfdfaa.GsL1CurAsk5.C (t_7_tp) (w.heap.size) (A0) (c0) (w.heap.size) _   Kt_7 qt_9).mono ?_
  rintro e_t_9 wt_9 ⟨rfl, kt_9, gt_9⟩
  have Kt_9 := Lib.hid kt_9
  have Gt_9 : Hid (wt_7.grownBy wt_9 (Value.slice (some ⟨w.heap.size, 0, none⟩) 1 1).ownBlock) := Lib.hid gt_9
  clear kt_9 gt_9
  have HBwt_9 := Lib.hid (Go.Proofs.Ytbpjhmhnicfdfaa.GoC.below_cur HBwt_7.out Gt_9.out HBwt_7.out.size (Go.Proofs.Ytbpjhmhnicfdfaa.GoC.cur_lt Kt_7.out).1)
  replace Ot_7 := Lib.hid (own_other Ot_7.out Gt_9.out (Apart.symm Dt_7_t_4.out))
  clear Kt_7 Gt_9
  cases ret_hid H
  go_wp2_with fail
  go_ret2
  exact ⟨At_7, ct_7, rfl, Ot_7.out, HBwt_9.out⟩
end Go.Proofs.Ytbpjhmhnicfdfaa.GsDrawMissingHoles

/- loop.example/g01062/impl.MissingHoles as a plain function, and the contract of the program's: where the plain one has an answer, the program has it. Conditions: slices read as lists. -/
namespace Go.Proofs.Ytbpjhmhnicfdfaa.GiMissingHoles
set_option linter.unusedVariables false
set_option linter.unusedSimpArgs false
open Go.RowKit
open Go.Proofs.Ytbpjhmhnicfdfaa.Rowed Go.Proofs.Ytbpjhmhnicfdfaa.Turn Go.Proofs.Ytbpjhmhnicfdfaa.Aid Go.Proofs.Ytbpjhmhnicfdfaa.GoP Go.Proofs.Ytbpjhmhnicfdfaa.GoM

def l0 (gauge : Int) (t_14 : (List Int)) (k0 : Nat) (s : Int) (nx0 bk0 : Int → Option (Int × Bool)) : Option (Int × Bool) :=
  letK s fun missing_6l0 =>
  Option.bind (idx t_14 (k0 : Int)) fun (yt_18 : Int) =>
  letK (IntKind.i64.wrap (yt_18 * gauge)) fun (t_23 : Int) =>
  letK (IntKind.i64.wrap (t_23 + 100000)) fun (t_24 : Int) =>
  letK (IntKind.i64.wrap (Int.tdiv t_24 200000)) fun (t_25 : Int) =>
  letK (IntKind.i64.wrap (t_25 - 1)) fun (t_29 : Int) =>
  letK (max t_29 0) fun (t_30 : Int) =>
  letK (IntKind.i64.wrap (missing_6l0 + t_30)) fun (t_31 : Int) =>
  appK nx0 (t_31)

def e0  (s : Int) : Option (Int × Bool) :=
  letK s fun missing_6l0 =>
  some (missing_6l0, true)

def P (fuel : Nat) (holes : (List Int)) (gauge : Int) : Option (Int × Bool) :=
  Option.bind (Go.Proofs.Ytbpjhmhnicfdfaa.GiAreHoles.P holes) fun (t_3 : Bool) =>
  letK (!t_3) fun (t_4 : Bool) =>
  joinK (fun (t_9 : Bool) =>
  iteK t_9
  (some (0, false))
  (Option.bind (Go.Proofs.Ytbpjhmhnicfdfaa.GiDistances.P fuel holes) fun (t_14 : (List Int)) =>
  cntK (l0 gauge t_14) (t_14.length) 0 (0) (e0 ))) fun jt_9 => iteK t_4 (appK jt_9 true) (Option.bind (Go.Proofs.Ytbpjhmhnicfdfaa.GiIsGauge.P gauge) fun (t_7 : Bool) =>
  letK (!t_7) fun (t_8 : Bool) =>
  appK jt_9 t_8)

set_option maxRecDepth 100000 in
set_option maxHeartbeats 2000000 in
theorem C (fuel : Nat) (holes : (List Int)) (gauge : Int) (A0 : Option Addr) (c0 : Nat)  (w : World) (M0 : Hid (Cells w 1 A0 holes.length (Go.Proofs.Ytbpjhmhnicfdfaa.HelpInt.iv holes))) (N0 : Hid (holes.length ≤ 9223372036854775807))  {r0 : Int} {r1 : Bool} (H : Hid (P fuel holes gauge = some (r0, r1))) :
    Calls Try.prog 15 #[.slice A0 holes.length c0, .int .i64 gauge] w (Gives (.tuple #[.int .i64 r0, .bool r1]) w) := by
  have HB := Lib.hid (Below.refl w.heap.size w)
  unfold P at H
  have N0o := N0.out
  go_enter Try.func15, Try.ntmps15
  replace H := bind_hid H
  obtain ⟨t_3, qt_3, H⟩ := H
  go_wp2_with fail
  go_at_call 31
  refine (Go.Proofs.Ytbpjhmhnicfdfaa.GiAreHoles.C (holes) A0 c0 _   (Lib.hid (Cells.below M0.out HB.out)) N0 qt_3).mono ?_
  rintro e_t_3 wt_3 ⟨rfl, bt_3⟩
  have HBwt_3 := Lib.hid (Below.step HB.out bt_3)
  clear bt_3
  cases t_3 with
  | false =>
    replace H := let_hid H
    obtain ⟨t_4, ht_4, H⟩ := H
    obtain rfl : t_4 = true := ht_4.symm
    replace H := join_hid H
    replace H := ite_t H
    replace H := app_hid H
    replace H := ite_t H
    cases ret_hid H
    go_wp2_with fail
    go_ret2
    exact ⟨rfl, HBwt_3.out⟩
  | true =>
    replace H := let_hid H
    obtain ⟨t_4, ht_4, H⟩ := H
    obtain rfl : t_4 = false := ht_4.symm
    replace H := join_hid H
    replace H := ite_f H
    replace H := bind_hid H
    obtain ⟨t_7, qt_7, H⟩ := H
    go_wp2_with fail
    go_at_call 32
    refine (Go.Proofs.Ytbpjhmhnicfdfaa.GiIsGauge.C (gauge)  _    qt_7).mono ?_
    rintro e_t_7 wt_7 ⟨rfl, bt_7⟩
    have HBwt_7 := Lib.hid (Below.step HBwt_3.out bt_7)
    clear bt_7
    cases t_7 with
    | false =>
      replace H := let_hid H
      obtain ⟨t_8, ht_8, H⟩ := H
      obtain rfl : t_8 = true := ht_8.symm
      replace H := app_hid H
      replace H := ite_t H
      cases ret_hid H
      go_wp2_with fail
      go_ret2
      exact ⟨rfl, HBwt_7.out⟩
    | true =>
      replace H := let_hid H
      obtain ⟨t_8, ht_8, H⟩ := H
      obtain rfl : t_8 = false := ht_8.symm
      replace H := app_hid H
      replace H := ite_f H
      replace H := bind_hid H
      obtain ⟨t_14, qt_14, H⟩ := H
      go_wp2_with fail
      go_at_call 35
      refine (Go.Proofs.Ytbpjhmhnicfdfaa.GiDistances.C fuel (holes) A0 c0 _   (Lib.hid (Cells.below M0.out HBwt_7.out)) N0 qt_14).mono ?_
      rintro e_t_14 wt_14 ⟨At_14, ct_14, rfl, ot_14, bt_14⟩
      have Ot_14 := Lib.hid (own_lower ot_14 HBwt_7.out.size)
      clear ot_14
      have HBwt_14 := Lib.hid (Below.step HBwt_7.out bt_14)
      clear bt_14
      have hb_0 : t_14.length ≤ 9223372036854775807 := own_max Ot_14.out
      go_wp2_with fail
      go_loopg [21, 6] (t_14.length) (fun m_ v21_ v6_ wr => ∃ (k0 : Nat) (missing_6l0 : Int), k0 + m_ = t_14.length ∧ v21_ = .int .i64 (k0 : Int) ∧ v6_ = .int .i64 missing_6l0 ∧ Hid (cntK (l0 gauge t_14) m_ k0 (missing_6l0) (e0 ) = some (r0, r1)) ∧ Hid (Below w.heap.size w wr) ∧ Hid (wr.ownsRow w.heap.size 3 1 (.slice At_14 t_14.length ct_14) t_14.length (Go.Proofs.Ytbpjhmhnicfdfaa.HelpInt.iv t_14)))
      case atStart => exact ⟨0, _, by omega, rfl, rfl, H, HBwt_14, Ot_14⟩
      case round =>
        obtain ⟨k0, missing_6l0, hkm0, rfl, rfl, H, HBwr0, Ot_14⟩ := hrel
        rename World => wr0
        cases gk with
        | zero =>
          obtain rfl : k0 = t_14.length := by omega
          have hc0 : decide (((t_14.length : Nat) : Int) < ((t_14.length : Nat) : Int)) = false := by simp
          replace H := cnt_zero H
          unfold e0 at H
          replace H := let_hid H
          obtain ⟨_, rfl, H⟩ := H
          cases ret_hid H
          go_wp2_with fail
          go_ret2
          exact ⟨rfl, HBwr0.out⟩
        | succ m0 =>
          have hlt0 : k0 < t_14.length := by omega
          have hc0 : decide ((k0 : Int) < ((t_14.length : Nat) : Int)) = true := by simp; omega
          replace H := cnt_succ H
          unfold l0 at H
          replace H := let_hid H
          obtain ⟨_, rfl, H⟩ := H
          replace H := idx_hid H
          obtain ⟨nt_18, yt_18, et_18, lt_18, gt_18, H⟩ := H
          obtain rfl : k0 = nt_18 := by omega
          clear et_18
          obtain ⟨qt_18, Qt_18⟩ := own_some Ot_14.out (by omega)
          subst Qt_18
          obtain ⟨ab_t_18, ao_t_18, zt_18, At_18, z_t_18, ct_18_0⟩ := Go.Proofs.Ytbpjhmhnicfdfaa.HelpInt.Ints.at_ (own_cells Ot_14.out) (k := k0) (by omega)
          obtain rfl := Option.some.inj (gt_18.out.symm.trans z_t_18)
          simp only [Option.some.injEq, Addr.mk.injEq] at At_18
          obtain ⟨rfl, rfl, _⟩ := At_18
          clear z_t_18
          simp only [Nat.zero_add] at ct_18_0
          have b0t_18 : (0 : Int) ≤ (k0 : Int) := by omega
          have b1t_18 : (k0 : Int) < ((t_14.length : Nat) : Int) := by omega
          have b2t_18 : ((k0 : Int)).toNat = k0 := by omega
          replace H := let_hid H
          obtain ⟨t_23, ht_23, H⟩ := H
          replace H := let_hid H
          obtain ⟨t_24, ht_24, H⟩ := H
          replace H := let_hid H
          obtain ⟨t_25, ht_25, H⟩ := H
          replace H := let_hid H
          obtain ⟨t_29, ht_29, H⟩ := H
          replace H := let_hid H
          obtain ⟨t_30, ht_30, H⟩ := H
          replace H := let_hid H
          obtain ⟨t_31, ht_31, H⟩ := H
          replace H := app_hid H
          go_wp2_with fail
          go_roundg m0
          case measure => omega
          case rel => exact ⟨k0 + 1, _, by omega, by go_num, rfl, H, HBwr0, Ot_14⟩
end Go.Proofs.Ytbpjhmhnicfdfaa.GiMissingHoles

/- loop.example/g01062/spec.MissingHoles as a plain function, and the contract of the program's: where the plain one has an answer, the program has it. Conditions: slices read as lists. -/
namespace Go.Proofs.Ytbpjhmhnicfdfaa.GsMissingHoles
set_option linter.unusedVariables false
set_option linter.unusedSimpArgs false
open Go.RowKit
open Go.Proofs.Ytbpjhmhnicfdfaa.Rowed Go.Proofs.Ytbpjhmhnicfdfaa.Turn Go.Proofs.Ytbpjhmhnicfdfaa.Aid Go.Proofs.Ytbpjhmhnicfdfaa.GoP Go.Proofs.Ytbpjhmhnicfdfaa.GoM

def l0 (holes : (List Int)) (gauge : Int) (s : Int × Int) (nx0 bk0 : Int × Int → Option (Int × Bool)) : Option (Int × Bool) :=
  unp2 s fun sum_6l0 i_7l0 =>
  letK (decide (i_7l0 < (holes.length : Int))) fun (t_17 : Bool) =>
  iteK t_17
  (Option.bind (idx holes i_7l0) fun (yt_21 : Int) =>
  letK (IntKind.i64.wrap (i_7l0 - 1)) fun (t_25 : Int) =>
  Option.bind (idx holes t_25) fun (yt_26 : Int) =>
  letK (IntKind.i64.wrap (yt_21 - yt_26)) fun (t_28 : Int) =>
  letK (IntKind.i64.wrap (2 * t_28)) fun (t_29 : Int) =>
  letK (IntKind.i64.wrap (t_29 * gauge)) fun (t_31 : Int) =>
  letK (IntKind.i64.wrap (t_31 + 200000)) fun (t_32 : Int) =>
  letK (IntKind.i64.wrap (Int.tdiv t_32 400000)) fun (t_33 : Int) =>
  letK (IntKind.i64.wrap (t_33 - 1)) fun (t_34 : Int) =>
  Option.bind (Go.Proofs.Ytbpjhmhnicfdfaa.GsL1Most.P 0 t_34) fun (t_35 : Int) =>
  letK (IntKind.i64.wrap (sum_6l0 + t_35)) fun (t_36 : Int) =>
  letK (IntKind.i64.wrap (i_7l0 + 1)) fun (t_39 : Int) =>
  appK nx0 (t_36, t_39))
  (appK bk0 (sum_6l0, i_7l0))

def e0  (s : Int × Int) : Option (Int × Bool) :=
  unp2 s fun sum_6l0 i_7l0 =>
  some (sum_6l0, true)

def P (fuel : Nat) (holes : (List Int)) (gauge : Int) : Option (Int × Bool) :=
  Option.bind (Go.Proofs.Ytbpjhmhnicfdfaa.GsL5Holes.P holes) fun (t_3 : Bool) =>
  letK (!t_3) fun (t_4 : Bool) =>
  joinK (fun (t_9 : Bool) =>
  iteK t_9
  (some (0, false))
  (loopK (l0 holes gauge) fuel (0, 1) (e0 ))) fun jt_9 => iteK t_4 (appK jt_9 true) (Option.bind (Go.Proofs.Ytbpjhmhnicfdfaa.GsL5Gauge.P gauge) fun (t_7 : Bool) =>
  letK (!t_7) fun (t_8 : Bool) =>
  appK jt_9 t_8)

set_option maxRecDepth 100000 in
set_option maxHeartbeats 2000000 in
theorem C (fuel : Nat) (holes : (List Int)) (gauge : Int) (A0 : Option Addr) (c0 : Nat)  (w : World) (M0 : Hid (Cells w 1 A0 holes.length (Go.Proofs.Ytbpjhmhnicfdfaa.HelpInt.iv holes))) (N0 : Hid (holes.length ≤ 9223372036854775807))  {r0 : Int} {r1 : Bool} (H : Hid (P fuel holes gauge = some (r0, r1))) :
    Calls Try.prog 16 #[.slice A0 holes.length c0, .int .i64 gauge] w (Gives (.tuple #[.int .i64 r0, .bool r1]) w) := by
  have HB := Lib.hid (Below.refl w.heap.size w)
  unfold P at H
  have N0o := N0.out
  go_enter Try.func16, Try.ntmps16
  replace H := bind_hid H
  obtain ⟨t_3, qt_3, H⟩ := H
  go_wp2_with fail
  go_at_call 33
  refine (Go.Proofs.Ytbpjhmhnicfdfaa.GsL5Holes.C (holes) A0 c0 _   (Lib.hid (Cells.below M0.out HB.out)) N0 qt_3).mono ?_
  rintro e_t_3 wt_3 ⟨rfl, bt_3⟩
  have HBwt_3 := Lib.hid (Below.step HB.out bt_3)
  clear bt_3
  cases t_3 with
  | false =>
    replace H := let_hid H
    obtain ⟨t_4, ht_4, H⟩ := H
    obtain rfl : t_4 = true := ht_4.symm
    replace H := join_hid H
    replace H := ite_t H
    replace H := app_hid H
    replace H := ite_t H
    cases ret_hid H
    go_wp2_with fail
    go_ret2
    exact ⟨rfl, HBwt_3.out⟩
  | true =>
    replace H := let_hid H
    obtain ⟨t_4, ht_4, H⟩ := H
    obtain rfl : t_4 = false := ht_4.symm
    replace H := join_hid H
    replace H := ite_f H
    replace H := bind_hid H
    obtain ⟨t_7, qt_7, H⟩ := H
    go_wp2_with fail
    go_at_call 34
    refine (Go.Proofs.Ytbpjhmhnicfdfaa.GsL5Gauge.C (gauge)  _    qt_7).mono ?_
    rintro e_t_7 wt_7 ⟨rfl, bt_7⟩
    have HBwt_7 := Lib.hid (Below.step HBwt_3.out bt_7)
    clear bt_7
    cases t_7 with
    | false =>
      replace H := let_hid H
      obtain ⟨t_8, ht_8, H⟩ := H
      obtain rfl : t_8 = true := ht_8.symm
      replace H := app_hid H
      replace H := ite_t H
      cases ret_hid H
      go_wp2_with fail
      go_ret2
      exact ⟨rfl, HBwt_7.out⟩
    | true =>
      replace H := let_hid H
      obtain ⟨t_8, ht_8, H⟩ := H
      obtain rfl : t_8 = false := ht_8.symm
      replace H := app_hid H
      replace H := ite_f H
      go_wp2_with fail
      go_loopg [6, 7] (fuel) (fun m_ v6_ v7_ wr => ∃ (sum_6l0 : Int) (i_7l0 : Int), v6_ = .int .i64 sum_6l0 ∧ v7_ = .int .i64 i_7l0 ∧ Hid (loopK (l0 holes gauge) m_ (sum_6l0, i_7l0) (e0 ) = some (r0, r1)) ∧ Hid (Below w.heap.size w wr))
      case atStart => exact ⟨_, _, rfl, rfl, H, HBwt_7⟩
      case round =>
        obtain ⟨sum_6l0, i_7l0, rfl, rfl, H, HBwr0⟩ := hrel
        rename World => wr0
        cases gk with
        | zero => exact (loop_zero H).elim
        | succ m0 =>
          replace H := loop_succ H
          unfold l0 at H
          replace H := unp2_hid H
          replace H := let_hid H
          obtain ⟨t_17, ht_17, H⟩ := H
          cases t_17 with
          | false =>
            replace H := ite_f H
            replace H := app_hid H
            unfold e0 at H
            replace H := unp2_hid H
            cases ret_hid H
            go_wp2_with fail
            go_ret2
            exact ⟨rfl, HBwr0.out⟩
          | true =>
            replace H := ite_t H
            go_wp2_with fail
            replace H := idx_hid H
            obtain ⟨nt_21, yt_21, et_21, lt_21, gt_21, H⟩ := H
            subst et_21
            have nc_10 : nt_21 < holes.length := by have := of_decide_eq_true ht_17; omega
            obtain ⟨ab_t_21, ao_t_21, zt_21, At_21, z_t_21, ct_21_0⟩ := Go.Proofs.Ytbpjhmhnicfdfaa.HelpInt.Ints.at_ M0.out lt_21
            obtain rfl := Option.some.inj (gt_21.out.symm.trans z_t_21)
            subst At_21
            have ltt_21 := cell_lt ct_21_0
            replace ct_21_0 := cell_below HBwr0.out ct_21_0
            clear z_t_21
            have b0t_21 : (0 : Int) ≤ (nt_21 : Int) := by omega
            have b1t_21 : (nt_21 : Int) < ((holes.length : Nat) : Int) := by omega
            have b2t_21 : ((nt_21 : Int)).toNat = nt_21 := by omega
            have Hct_21_0 := Lib.hid ct_21_0
            replace ct_21_0 := cell_regrown ct_21_0
            replace H := let_hid H
            obtain ⟨t_25, ht_25, H⟩ := H
            replace H := idx_hid H
            obtain ⟨nt_26, yt_26, et_26, lt_26, gt_26, H⟩ := H
            subst et_26
            obtain ⟨ab_t_26, ao_t_26, zt_26, At_26, z_t_26, ct_26_0⟩ := Go.Proofs.Ytbpjhmhnicfdfaa.HelpInt.Ints.at_ M0.out lt_26
            obtain rfl := Option.some.inj (gt_26.out.symm.trans z_t_26)
            simp only [Option.some.injEq, Addr.mk.injEq] at At_26
            obtain ⟨rfl, rfl, _⟩ := At_26
            have ltt_26 := cell_lt ct_26_0
            replace ct_26_0 := cell_below HBwr0.out ct_26_0
            clear z_t_26
            have b0t_26 : (0 : Int) ≤ (nt_26 : Int) := by omega
            have b1t_26 : (nt_26 : Int) < ((holes.length : Nat) : Int) := by omega
            have b2t_26 : ((nt_26 : Int)).toNat = nt_26 := by omega
            have Hct_26_0 := Lib.hid ct_26_0
            replace ct_26_0 := cell_regrown ct_26_0
            replace H := let_hid H
            obtain ⟨t_28, ht_28, H⟩ := H
            replace H := let_hid H
            obtain ⟨t_29, ht_29, H⟩ := H
            replace H := let_hid H
            obtain ⟨t_31, ht_31, H⟩ := H
            replace H := let_hid H
            obtain ⟨t_32, ht_32, H⟩ := H
            replace H := let_hid H
            obtain ⟨t_33, ht_33, H⟩ := H
            replace H := let_hid H
            obtain ⟨t_34, ht_34, H⟩ := H
            replace H := bind_hid H
            obtain ⟨t_35, qt_35, H⟩ := H
            have nt_35 : ∀ d os, Calls Try.prog 39 #[.int .i64 0, .int .i64 t_34] (Go.Sort.grow (redrawn wr0 d) os) fun e w'' => e = .returned (.int .i64 t_35) ∧ ∃ p : Regrown, w'' = Go.Sort.grow (redrawn wr0 p.d) p.os := fun d os => Calls.regrown_of (Go.Proofs.Ytbpjhmhnicfdfaa.GsL1Most.C (0) (t_34)  _    qt_35)
            replace H := let_hid H
            obtain ⟨t_36, ht_36, H⟩ := H
            refine wp_region_quiet_below (by kernel_rfl) (by kernel_rfl) ?_
            repeat (go_big_quiet_step (first | (go_at_call 39; exact nt_35 _ _)))
            refine wpQuiet_nil ?_
            intro Y7 hY7
            replace hY7 := below_class hY7
            clear nt_35
            replace ct_21_0 := Hct_21_0.out
            clear Hct_21_0
            replace ct_26_0 := Hct_26_0.out
            clear Hct_26_0
            have HBY7 := Lib.hid (Below.step HBwr0.out hY7)
            replace ct_21_0 := cell_below hY7 ct_21_0
            replace ct_26_0 := cell_below hY7 ct_26_0
            clear hY7
            replace H := let_hid H
            obtain ⟨t_39, ht_39, H⟩ := H
            replace H := app_hid H
            go_wp2_with fail
            go_roundg m0
            case measure => omega
            case rel => exact ⟨_, _, rfl, rfl, H, HBY7⟩
end Go.Proofs.Ytbpjhmhnicfdfaa.GsMissingHoles

/- loop.example/g01062/spec.DrawHolesOn as a plain function, and the contract of the program's: where the plain one has an answer, the program has it. Conditions: slices read as lists. -/
namespace Go.Proofs.Ytbpjhmhnicfdfaa.GsDrawHolesOn
set_option linter.unusedVariables false
set_option linter.unusedSimpArgs false
open Go.RowKit
open Go.Proofs.Ytbpjhmhnicfdfaa.Rowed Go.Proofs.Ytbpjhmhnicfdfaa.Turn Go.Proofs.Ytbpjhmhnicfdfaa.Aid Go.Proofs.Ytbpjhmhnicfdfaa.GoP Go.Proofs.Ytbpjhmhnicfdfaa.GoM

def P (tapes : List Int → Go.Proofs.Ytbpjhmhnicfdfaa.GoC.Tape) (code : (List Int)) : Option (Int × Int) :=
  letK (tapes code) fun (t_4 : Go.Proofs.Ytbpjhmhnicfdfaa.GoC.Tape) =>
  letK ([500, 2000, 2500, 9999, 499, 10000]) fun (t_7 : (List Int)) =>
  bind2 (Go.Proofs.Ytbpjhmhnicfdfaa.GsL1CurPick.P t_4 24) fun (t_9 : Int) (t_9_tp : Go.Proofs.Ytbpjhmhnicfdfaa.GoC.Tape) =>
  letK (IntKind.i64.wrap (Int.tdiv t_9 11)) fun (t_10 : Int) =>
  letK (IntKind.i64.wrap (4 + t_10)) fun (t_11 : Int) =>
  guardK ((0 : Int) ≤ t_11 ∧ (t_11 : Int) ≤ (t_7.length : Int)) <|
  letK (List.take (Int.toNat t_11) t_7) fun (t_12 : (List Int)) =>
  bind2 (Go.Proofs.Ytbpjhmhnicfdfaa.GsL1CurAmong.P t_9_tp t_12) fun (t_13 : Int) (t_13_tp : Go.Proofs.Ytbpjhmhnicfdfaa.GoC.Tape) =>
  bind2 (Go.Proofs.Ytbpjhmhnicfdfaa.GsL1CurAsk5.P t_13_tp) fun (t_15 : Int) (t_15_tp : Go.Proofs.Ytbpjhmhnicfdfaa.GoC.Tape) =>
  some (t_13, t_15)

set_option maxRecDepth 100000 in
set_option maxHeartbeats 2000000 in
theorem C (tapes : List Int → Go.Proofs.Ytbpjhmhnicfdfaa.GoC.Tape) (code : (List Int)) (A0 : Option Addr) (c0 : Nat)  (w : World) (HE : Hid (Go.Proofs.Ytbpjhmhnicfdfaa.GoC.Tells tapes)) (M0 : Hid (Cells w 1 A0 code.length (Go.Proofs.Ytbpjhmhnicfdfaa.GoC.u8s code))) (N0 : Hid (code.length ≤ 9223372036854775807)) (V0 : Hid (∀ z ∈ code, 0 ≤ z ∧ z ≤ 255))  {r0 : Int} {r1 : Int} (H : Hid (P tapes code = some (r0, r1))) :
    Calls Try.prog 17 #[.slice A0 code.length c0] w (Gives (.tuple #[.int .i64 r0, .int .i64 r1]) w) := by
  have HB := Lib.hid (Below.refl w.heap.size w)
  unfold P at H
  have N0o := N0.out
  obtain ⟨i0_3, hi_3, hz0_3, hz1_3, hz2_3⟩ := Aid.info_parts (P := Try.prog) (T := 3) (z := .int .i64 0) (s := 1) (b := 8) (by kernel_rfl)
  go_enter Try.func17, Try.ntmps17
  replace H := let_hid H
  obtain ⟨t_4, ht_4, H⟩ := H
  obtain ⟨w_t_4, hw_t_4⟩ : ∃ x, w.alloc (.cells #[.slice A0 code.length c0, .int .i64 0, .int .u64 0] 46) = x := ⟨_, rfl⟩
  have bw_t_4 : Below w.heap.size w w_t_4 := by rw [← hw_t_4]; exact (Below.refl _ _).alloc (Nat.le_refl _) _
  have Kt_4 : Hid (Go.Proofs.Ytbpjhmhnicfdfaa.GoC.CurIs w_t_4 w.heap.size w.heap.size A0 c0 t_4) := Lib.hid (by rw [← hw_t_4, ← ht_4]; exact Go.Proofs.Ytbpjhmhnicfdfaa.GoC.cur_new HB.out.size (Cells.below M0.out HB.out) (fun a_ ha_ h0_ => by subst ha_; exact Go.Proofs.Ytbpjhmhnicfdfaa.GoC.cells_lt M0.out (by unfold Go.Proofs.Ytbpjhmhnicfdfaa.GoC.u8s; rw [List.length_map]; exact h0_)) (HE.out.2.2 code V0.out N0.out))
  have hht_4 := Lib.hid ht_4
  clear ht_4
  have HBw_t_4 := Lib.hid (Below.step HB.out bw_t_4)
  clear bw_t_4
  replace H := let_hid H
  obtain ⟨t_7, ht_7, H⟩ := H
  obtain ⟨w_t_7, hw_t_7⟩ : ∃ x, w_t_4.alloc (.cells #[.int .i64 500, .int .i64 2000, .int .i64 2500, .int .i64 9999, .int .i64 499, .int .i64 10000] 3) = x := ⟨_, rfl⟩
  have bw_t_7 : Below w_t_4.heap.size w_t_4 w_t_7 := by rw [← hw_t_7]; exact (Below.refl _ _).alloc (Nat.le_refl _) _
  have hs_t_7 := HBw_t_4.out.size
  have nt_7 : t_7.length = 6 := by rw [← ht_7]; rfl
  have Ot_7 : Hid (w_t_7.ownsRow w.heap.size 3 1 (.slice (some ⟨w_t_4.heap.size, 0, none⟩) 6 6) 6 (Go.Proofs.Ytbpjhmhnicfdfaa.HelpInt.iv t_7)) := by
    rw [← hw_t_7, ← ht_7]
    have e_ : ([.int .i64 500, .int .i64 2000, .int .i64 2500, .int .i64 9999, .int .i64 499, .int .i64 10000] : List Value) = (Go.Proofs.Ytbpjhmhnicfdfaa.HelpInt.iv ([500, 2000, 2500, 9999, 499, 10000] : List Int)) := rfl
    exact Lib.hid (own_laid (n := 6) hs_t_7 e_ rfl (by unfold maxLen; omega))
  clear hs_t_7
  have hht_7 := Lib.hid ht_7
  clear ht_7
  replace nt_7 := Lib.hid nt_7
  have Dt_7_t_4 := Lib.hid (Go.Proofs.Ytbpjhmhnicfdfaa.GoC.apart_cur Kt_4.out)
  have HBw_t_7 := Lib.hid (Below.step HBw_t_4.out bw_t_7)
  replace Kt_4 := Lib.hid (Go.Proofs.Ytbpjhmhnicfdfaa.GoC.cur_below Kt_4.out bw_t_7)
  clear bw_t_7
  replace H := bind2_hid H
  obtain ⟨t_9, t_9_tp, qt_9, H⟩ := H
  go_wp2_with fail
  go_at_call 43
  refine (Go.Proofs.Ytbpjhmhnicfdfaa.GsL1CurPick.C (t_4) (24) (w.heap.size) (A0) (c0) (w.heap.size) _   Kt_4 qt_9).mono ?_
  rintro e_t_9 wt_9 ⟨rfl, kt_9, gt_9⟩
  have Kt_9 := Lib.hid kt_9
  have Gt_9 : Hid (w_t_7.grownBy wt_9 (Value.slice (some ⟨w.heap.size, 0, none⟩) 1 1).ownBlock) := Lib.hid gt_9
  clear kt_9 gt_9
  have HBwt_9 := Lib.hid (Go.Proofs.Ytbpjhmhnicfdfaa.GoC.below_cur HBw_t_7.out Gt_9.out HBw_t_7.out.size (Go.Proofs.Ytbpjhmhnicfdfaa.GoC.cur_lt Kt_4.out).1)
  replace Ot_7 := Lib.hid (own_other Ot_7.out Gt_9.out (Apart.symm Dt_7_t_4.out))
  clear Kt_4 Gt_9
  replace H := let_hid H
  obtain ⟨t_10, ht_10, H⟩ := H
  replace H := let_hid H
  obtain ⟨t_11, ht_11, H⟩ := H
  replace H := guard_hid H
  obtain ⟨hl_t_12, H⟩ := H
  replace H := let_hid H
  obtain ⟨t_12, ht_12, H⟩ := H
  have dt_12 : ((Go.Proofs.Ytbpjhmhnicfdfaa.HelpInt.iv t_7)).take (Int.toNat t_11 * 1) = (Go.Proofs.Ytbpjhmhnicfdfaa.HelpInt.iv t_12) := by
    rw [← ht_12]
    simp [Go.Proofs.Ytbpjhmhnicfdfaa.HelpInt.iv, List.map_take]
  have nt_12 : Int.toNat t_11 = t_12.length := by rw [← ht_12, List.length_take]; have h_ := nt_7.out; omega
  replace hl_t_12 : (0 : Int) ≤ t_11 ∧ (t_11 : Int) ≤ ((6 : Nat) : Int) := by have h_ := nt_7.out; omega
  obtain ⟨rt_12, Ot_12⟩ := slice_head (P := Try.prog) (t := 24) (e := 3) (k := .i64) (by kernel_rfl) (by kernel_rfl) hi_3 hz1_3 Ot_7.out hl_t_12 nt_12 dt_12
  replace Ot_12 := Lib.hid Ot_12
  clear dt_12 nt_12 hl_t_12
  have hht_12 := Lib.hid ht_12
  clear ht_12
  replace H := bind2_hid H
  obtain ⟨t_13, t_13_tp, qt_13, H⟩ := H
  go_wp2_with fail
  go_at_call 42
  refine (Go.Proofs.Ytbpjhmhnicfdfaa.GsL1CurAmong.C (t_9_tp) (t_12) (some ⟨w_t_4.heap.size, 0, none⟩) 6 (w.heap.size) (A0) (c0) (w.heap.size) _   (Lib.hid (own_cells Ot_12.out)) (Lib.hid (own_max Ot_12.out)) Kt_9 (Lib.hid (fun _ => Dt_7_t_4.out)) qt_13).mono ?_
  rintro e_t_13 wt_13 ⟨rfl, kt_13, gt_13⟩
  have Kt_13 := Lib.hid kt_13
  have Gt_13 : Hid (wt_9.grownBy wt_13 (Value.slice (some ⟨w.heap.size, 0, none⟩) 1 1).ownBlock) := Lib.hid gt_13
  clear kt_13 gt_13
  have HBwt_13 := Lib.hid (Go.Proofs.Ytbpjhmhnicfdfaa.GoC.below_cur HBwt_9.out Gt_13.out HBwt_9.out.size (Go.Proofs.Ytbpjhmhnicfdfaa.GoC.cur_lt Kt_9.out).1)
  replace Ot_12 := Lib.hid (own_other Ot_12.out Gt_13.out (Apart.symm Dt_7_t_4.out))
  clear Kt_9 Gt_13
  replace H := bind2_hid H
  obtain ⟨t_15, t_15_tp, qt_15, H⟩ := H
  go_wp2_with fail
  go_at_call 45
  refine (Go.Proofs.Ytbpjhmhnicfdfaa.GsL1CurAsk5.C (t_13_tp) (w.heap.size) (A0) (c0) (w.heap.size) _   Kt_13 qt_15).mono ?_
  rintro e_t_15 wt_15 ⟨rfl, kt_15, gt_15⟩
  have Kt_15 := Lib.hid kt_15
  have Gt_15 : Hid (wt_13.grownBy wt_15 (Value.slice (some ⟨w.heap.size, 0, none⟩) 1 1).ownBlock) := Lib.hid gt_15
  clear kt_15 gt_15
  have HBwt_15 := Lib.hid (Go.Proofs.Ytbpjhmhnicfdfaa.GoC.below_cur HBwt_13.out Gt_15.out HBwt_13.out.size (Go.Proofs.Ytbpjhmhnicfdfaa.GoC.cur_lt Kt_13.out).1)
  replace Ot_12 := Lib.hid (own_other Ot_12.out Gt_15.out (Apart.symm Dt_7_t_4.out))
  clear Kt_13 Gt_15
  cases ret_hid H
  go_wp2_with fail
  go_ret2
  exact ⟨rfl, HBwt_15.out⟩
end Go.Proofs.Ytbpjhmhnicfdfaa.GsDrawHolesOn

/- loop.example/g01062/impl.HolesOn as a plain function, and the contract of the program's: where the plain one has an answer, the program has it. Conditions: slices read as lists. -/
namespace Go.Proofs.Ytbpjhmhnicfdfaa.GiHolesOn
set_option linter.unusedVariables false
set_option linter.unusedSimpArgs false
open Go.RowKit
open Go.Proofs.Ytbpjhmhnicfdfaa.Rowed Go.Proofs.Ytbpjhmhnicfdfaa.Turn Go.Proofs.Ytbpjhmhnicfdfaa.Aid Go.Proofs.Ytbpjhmhnicfdfaa.GoP Go.Proofs.Ytbpjhmhnicfdfaa.GoM

def P (length : Int) (gauge : Int) : Option (Int × Bool) :=
  Option.bind (Go.Proofs.Ytbpjhmhnicfdfaa.GiWithin.P length 500 9999) fun (t_3 : Bool) =>
  letK (!t_3) fun (t_4 : Bool) =>
  joinK (fun (t_9 : Bool) =>
  iteK t_9
  (some (0, false))
  (letK (IntKind.i64.wrap (length * gauge)) fun (t_14 : Int) =>
  letK (IntKind.i64.wrap (Int.tdiv t_14 200000)) fun (t_15 : Int) =>
  letK (IntKind.i64.wrap (t_15 + 1)) fun (t_16 : Int) =>
  some (t_16, true))) fun jt_9 => iteK t_4 (appK jt_9 true) (Option.bind (Go.Proofs.Ytbpjhmhnicfdfaa.GiIsGauge.P gauge) fun (t_7 : Bool) =>
  letK (!t_7) fun (t_8 : Bool) =>
  appK jt_9 t_8)

set_option maxRecDepth 100000 in
set_option maxHeartbeats 2000000 in
theorem C (length : Int) (gauge : Int)   (w : World)   {r0 : Int} {r1 : Bool} (H : Hid (P length gauge = some (r0, r1))) :
    Calls Try.prog 18 #[.int .i64 length, .int .i64 gauge] w (Gives (.tuple #[.int .i64 r0, .bool r1]) w) := by
  have HB := Lib.hid (Below.refl w.heap.size w)
  unfold P at H
  go_enter Try.func18, Try.ntmps18
  replace H := bind_hid H
  obtain ⟨t_3, qt_3, H⟩ := H
  go_wp2_with fail
  go_at_call 40
  refine (Go.Proofs.Ytbpjhmhnicfdfaa.GiWithin.C (length) (500) (9999)  _    qt_3).mono ?_
  rintro e_t_3 wt_3 ⟨rfl, bt_3⟩
  have HBwt_3 := Lib.hid (Below.step HB.out bt_3)
  clear bt_3
  cases t_3 with
  | false =>
    replace H := let_hid H
    obtain ⟨t_4, ht_4, H⟩ := H
    obtain rfl : t_4 = true := ht_4.symm
    replace H := join_hid H
    replace H := ite_t H
    replace H := app_hid H
    replace H := ite_t H
    cases ret_hid H
    go_wp2_with fail
    go_ret2
    exact ⟨rfl, HBwt_3.out⟩
  | true =>
    replace H := let_hid H
    obtain ⟨t_4, ht_4, H⟩ := H
    obtain rfl : t_4 = false := ht_4.symm
    replace H := join_hid H
    replace H := ite_f H
    replace H := bind_hid H
    obtain ⟨t_7, qt_7, H⟩ := H
    go_wp2_with fail
    go_at_call 32
    refine (Go.Proofs.Ytbpjhmhnicfdfaa.GiIsGauge.C (gauge)  _    qt_7).mono ?_
    rintro e_t_7 wt_7 ⟨rfl, bt_7⟩
    have HBwt_7 := Lib.hid (Below.step HBwt_3.out bt_7)
    clear bt_7
    cases t_7 with
    | false =>
      replace H := let_hid H
      obtain ⟨t_8, ht_8, H⟩ := H
      obtain rfl : t_8 = true := ht_8.symm
      replace H := app_hid H
      replace H := ite_t H
      cases ret_hid H
      go_wp2_with fail
      go_ret2
      exact ⟨rfl, HBwt_7.out⟩
    | true =>
      replace H := let_hid H
      obtain ⟨t_8, ht_8, H⟩ := H
      obtain rfl : t_8 = false := ht_8.symm
      replace H := app_hid H
      replace H := ite_f H
      replace H := let_hid H
      obtain ⟨t_14, ht_14, H⟩ := H
      replace H := let_hid H
      obtain ⟨t_15, ht_15, H⟩ := H
      replace H := let_hid H
      obtain ⟨t_16, ht_16, H⟩ := H
      cases ret_hid H
      go_wp2_with fail
      go_ret2
      exact ⟨rfl, HBwt_7.out⟩
end Go.Proofs.Ytbpjhmhnicfdfaa.GiHolesOn

/- loop.example/g01062/spec.HolesOn as a plain function, and the contract of the program's: where the plain one has an answer, the program has it. Conditions: slices read as lists. -/
namespace Go.Proofs.Ytbpjhmhnicfdfaa.GsHolesOn
set_option linter.unusedVariables false
set_option linter.unusedSimpArgs false
open Go.RowKit
open Go.Proofs.Ytbpjhmhnicfdfaa.Rowed Go.Proofs.Ytbpjhmhnicfdfaa.Turn Go.Proofs.Ytbpjhmhnicfdfaa.Aid Go.Proofs.Ytbpjhmhnicfdfaa.GoP Go.Proofs.Ytbpjhmhnicfdfaa.GoM

def P (length : Int) (gauge : Int) : Option (Int × Bool) :=
  Option.bind (Go.Proofs.Ytbpjhmhnicfdfaa.GsL1In.P length 500 9999) fun (t_3 : Bool) =>
  letK (!t_3) fun (t_4 : Bool) =>
  joinK (fun (t_9 : Bool) =>
  iteK t_9
  (some (0, false))
  (letK (IntKind.i64.wrap (length * gauge)) fun (t_14 : Int) =>
  letK (IntKind.i64.wrap (Int.tdiv t_14 200000)) fun (t_15 : Int) =>
  letK (IntKind.i64.wrap (t_15 + 1)) fun (t_16 : Int) =>
  some (t_16, true))) fun jt_9 => iteK t_4 (appK jt_9 true) (Option.bind (Go.Proofs.Ytbpjhmhnicfdfaa.GsL5Gauge.P gauge) fun (t_7 : Bool) =>
  letK (!t_7) fun (t_8 : Bool) =>
  appK jt_9 t_8)

set_option maxRecDepth 100000 in
set_option maxHeartbeats 2000000 in
theorem C (length : Int) (gauge : Int)   (w : World)   {r0 : Int} {r1 : Bool} (H : Hid (P length gauge = some (r0, r1))) :
    Calls Try.prog 19 #[.int .i64 length, .int .i64 gauge] w (Gives (.tuple #[.int .i64 r0, .bool r1]) w) := by
  have HB := Lib.hid (Below.refl w.heap.size w)
  unfold P at H
  go_enter Try.func19, Try.ntmps19
  replace H := bind_hid H
  obtain ⟨t_3, qt_3, H⟩ := H
  go_wp2_with fail
  go_at_call 44
  refine (Go.Proofs.Ytbpjhmhnicfdfaa.GsL1In.C (length) (500) (9999)  _    qt_3).mono ?_
  rintro e_t_3 wt_3 ⟨rfl, bt_3⟩
  have HBwt_3 := Lib.hid (Below.step HB.out bt_3)
  clear bt_3
  cases t_3 with
  | false =>
    replace H := let_hid H
    obtain ⟨t_4, ht_4, H⟩ := H
    obtain rfl : t_4 = true := ht_4.symm
    replace H := join_hid H
    replace H := ite_t H
    replace H := app_hid H
    replace H := ite_t H
    cases ret_hid H
    go_wp2_with fail
    go_ret2
    exact ⟨rfl, HBwt_3.out⟩
  | true =>
    replace H := let_hid H
    obtain ⟨t_4, ht_4, H⟩ := H
    obtain rfl : t_4 = false := ht_4.symm
    replace H := join_hid H
    replace H := ite_f H
    replace H := bind_hid H
    obtain ⟨t_7, qt_7, H⟩ := H
    go_wp2_with fail
    go_at_call 34
    refine (Go.Proofs.Ytbpjhmhnicfdfaa.GsL5Gauge.C (gauge)  _    qt_7).mono ?_
    rintro e_t_7 wt_7 ⟨rfl, bt_7⟩
    have HBwt_7 := Lib.hid (Below.step HBwt_3.out bt_7)
    clear bt_7
    cases t_7 with
    | false =>
      replace H := let_hid H
      obtain ⟨t_8, ht_8, H⟩ := H
      obtain rfl : t_8 = true := ht_8.symm
      replace H := app_hid H
      replace H := ite_t H
      cases ret_hid H
      go_wp2_with fail
      go_ret2
      exact ⟨rfl, HBwt_7.out⟩
    | true =>
      replace H := let_hid H
      obtain ⟨t_8, ht_8, H⟩ := H
      obtain rfl : t_8 = false := ht_8.symm
      replace H := app_hid H
      replace H := ite_f H
      replace H := let_hid H
      obtain ⟨t_14, ht_14, H⟩ := H
      replace H := let_hid H
      obtain ⟨t_15, ht_15, H⟩ := H
      replace H := let_hid H
      obtain ⟨t_16, ht_16, H⟩ := H
      cases ret_hid H
      go_wp2_with fail
      go_ret2
      exact ⟨rfl, HBwt_7.out⟩
end Go.Proofs.Ytbpjhmhnicfdfaa.GsHolesOn

/- loop.example/g01062/laws.FnTeeth as a plain function, and the contract of the program's: where the plain one has an answer, the program has it. Conditions: slices read as lists. -/
namespace Go.Proofs.Ytbpjhmhnicfdfaa.GlFnTeeth
set_option linter.unusedVariables false
set_option linter.unusedSimpArgs false
open Go.RowKit
open Go.Proofs.Ytbpjhmhnicfdfaa.Rowed Go.Proofs.Ytbpjhmhnicfdfaa.Turn Go.Proofs.Ytbpjhmhnicfdfaa.Aid Go.Proofs.Ytbpjhmhnicfdfaa.GoP Go.Proofs.Ytbpjhmhnicfdfaa.GoM

def j0 (code : (List Int)) (fuel : Nat) (tapes : List Int → Go.Proofs.Ytbpjhmhnicfdfaa.GoC.Tape) (s : Unit) : Option (Bool) :=
  bind3 (Go.Proofs.Ytbpjhmhnicfdfaa.GsDrawIsPair.P fuel tapes code) fun (t_115a : (List Int)) (t_115b : (List Int)) (t_115c : Int) =>
  bind2 (Go.Proofs.Ytbpjhmhnicfdfaa.GiIsPair.P t_115a t_115b t_115c) fun (t_126a : Bool) (t_126b : Bool) =>
  bind2 (Go.Proofs.Ytbpjhmhnicfdfaa.GsIsPair.P fuel t_115a t_115b t_115c) fun (t_135a : Bool) (t_135b : Bool) =>
  letK (!(t_126a == t_135a)) fun (t_143 : Bool) =>
  joinK (fun (t_148 : Bool) =>
  iteK t_148
  (some false)
  (bind2 (Go.Proofs.Ytbpjhmhnicfdfaa.GiIsPair.P t_115b t_115a t_115c) fun (t_153a : Bool) (t_153b : Bool) =>
  letK (!(t_153a == t_126a)) fun (t_161 : Bool) =>
  joinK (fun (t_166 : Bool) =>
  iteK t_166
  (some false)
  (bind2 (Go.Proofs.Ytbpjhmhnicfdfaa.GsDrawMissingHoles.P fuel tapes code) fun (t_169a : (List Int)) (t_169b : Int) =>
  bind2 (Go.Proofs.Ytbpjhmhnicfdfaa.GiMissingHoles.P fuel t_169a t_169b) fun (t_177a : Int) (t_177b : Bool) =>
  bind2 (Go.Proofs.Ytbpjhmhnicfdfaa.GsMissingHoles.P fuel t_169a t_169b) fun (t_185a : Int) (t_185b : Bool) =>
  letK (t_177a != t_185a) fun (t_193 : Bool) =>
  joinK (fun (t_198 : Bool) =>
  joinK (fun (t_202 : Bool) =>
  iteK t_202
  (some false)
  (bind2 (Go.Proofs.Ytbpjhmhnicfdfaa.GsDrawHolesOn.P tapes code) fun (t_205a : Int) (t_205b : Int) =>
  bind2 (Go.Proofs.Ytbpjhmhnicfdfaa.GiHolesOn.P t_205a t_205b) fun (t_213a : Int) (t_213b : Bool) =>
  bind2 (Go.Proofs.Ytbpjhmhnicfdfaa.GsHolesOn.P t_205a t_205b) fun (t_221a : Int) (t_221b : Bool) =>
  letK (t_213a == t_221a) fun (t_229 : Bool) =>
  joinK (fun (t_234 : Bool) =>
  some t_234) fun jt_234 => iteK t_229 (letK (t_213b == t_221b) fun (t_233 : Bool) =>
  appK jt_234 t_233) (appK jt_234 false))) fun jt_202 => iteK t_198 (appK jt_202 true) (letK (decide (t_177a < 0)) fun (t_201 : Bool) =>
  appK jt_202 t_201)) fun jt_198 => iteK t_193 (appK jt_198 true) (letK (!(t_177b == t_185b)) fun (t_197 : Bool) =>
  appK jt_198 t_197))) fun jt_166 => iteK t_161 (appK jt_166 true) (letK (!(t_153b == t_126b)) fun (t_165 : Bool) =>
  appK jt_166 t_165))) fun jt_148 => iteK t_143 (appK jt_148 true) (letK (!(t_126b == t_135b)) fun (t_147 : Bool) =>
  appK jt_148 t_147)

def l0 (t_5 : (List Int)) (k0 : Nat) (s : (List Int)) (nx0 bk0 : (List Int) → Option (Bool)) : Option (Bool) :=
  letK s fun moved_12l0 =>
  Option.bind (idx t_5 (k0 : Int)) fun (yt_73 : Int) =>
  letK (IntKind.i64.wrap (yt_73 + 1)) fun (t_75 : Int) =>
  guardK (moved_12l0.length ≤ 1099511627776) <|
  letK (moved_12l0 ++ [t_75]) fun (t_77 : (List Int)) =>
  appK nx0 (t_77)

def e0 (code : (List Int)) (fuel : Nat) (tapes : List Int → Go.Proofs.Ytbpjhmhnicfdfaa.GoC.Tape) (t_2 : Bool) (t_5 : (List Int)) (t_8a : Int) (t_8b : Bool) (t_15a : Int) (t_15b : Bool) (t_23 : Bool) (t_28 : Bool) (t_31a : Bool) (t_31b : Bool) (t_38a : Bool) (t_38b : Bool) (t_46 : Bool) (t_51 : Bool) (t_62 : Bool) (s : (List Int)) : Option (Bool) :=
  letK s fun moved_12l0 =>
  bind2 (Go.Proofs.Ytbpjhmhnicfdfaa.GiIsPair.P t_5 moved_12l0 0) fun (t_84a : Bool) (t_84b : Bool) =>
  bind2 (Go.Proofs.Ytbpjhmhnicfdfaa.GiGaugeOf.P moved_12l0) fun (t_91a : Int) (t_91b : Bool) =>
  letK (!t_84b) fun (t_98 : Bool) =>
  joinK (fun (t_102 : Bool) =>
  joinK (fun (t_107 : Bool) =>
  joinK (fun (t_112 : Bool) =>
  iteK t_112
  (some false)
  (j0 code fuel tapes ())) fun jt_112 => iteK t_107 (appK jt_112 true) (letK (t_91a != t_8a) fun (t_111 : Bool) =>
  appK jt_112 t_111)) fun jt_107 => iteK t_102 (appK jt_107 true) (letK (!(t_91b == t_8b)) fun (t_106 : Bool) =>
  appK jt_107 t_106)) fun jt_102 => iteK t_98 (appK jt_102 true) (letK (!t_84a) fun (t_101 : Bool) =>
  appK jt_102 t_101)

def P (fuel : Nat) (tapes : List Int → Go.Proofs.Ytbpjhmhnicfdfaa.GoC.Tape) (code : (List Int)) : Option (Bool) :=
  Option.bind (Go.Proofs.Ytbpjhmhnicfdfaa.GlRBig.P code) fun (t_2 : Bool) =>
  iteK t_2
  (some true)
  (Option.bind (Go.Proofs.Ytbpjhmhnicfdfaa.GsDrawGaugeOf.P fuel tapes code) fun (t_5 : (List Int)) =>
  bind2 (Go.Proofs.Ytbpjhmhnicfdfaa.GiGaugeOf.P t_5) fun (t_8a : Int) (t_8b : Bool) =>
  bind2 (Go.Proofs.Ytbpjhmhnicfdfaa.GsGaugeOf.P t_5) fun (t_15a : Int) (t_15b : Bool) =>
  letK (t_8a != t_15a) fun (t_23 : Bool) =>
  joinK (fun (t_28 : Bool) =>
  iteK t_28
  (some false)
  (bind2 (Go.Proofs.Ytbpjhmhnicfdfaa.GiAreEven.P fuel t_5) fun (t_31a : Bool) (t_31b : Bool) =>
  bind2 (Go.Proofs.Ytbpjhmhnicfdfaa.GsAreEven.P fuel t_5) fun (t_38a : Bool) (t_38b : Bool) =>
  letK (!(t_31a == t_38a)) fun (t_46 : Bool) =>
  joinK (fun (t_51 : Bool) =>
  iteK t_51
  (some false)
  (joinK (fun (t_62 : Bool) =>
  iteK t_62
  (cntK (l0 t_5) (t_5.length) 0 (([] : List Int)) (e0 code fuel tapes t_2 t_5 t_8a t_8b t_15a t_15b t_23 t_28 t_31a t_31b t_38a t_38b t_46 t_51 t_62))
  (j0 code fuel tapes ())) fun jt_62 => iteK t_31b (letK (IntKind.i64.wrap ((t_5.length : Int) - 1)) fun (t_58 : Int) =>
  Option.bind (idx t_5 t_58) fun (yt_59 : Int) =>
  letK (decide (yt_59 < 9999)) fun (t_61 : Bool) =>
  appK jt_62 t_61) (appK jt_62 false))) fun jt_51 => iteK t_46 (appK jt_51 true) (letK (!(t_31b == t_38b)) fun (t_50 : Bool) =>
  appK jt_51 t_50))) fun jt_28 => iteK t_23 (appK jt_28 true) (letK (!(t_8b == t_15b)) fun (t_27 : Bool) =>
  appK jt_28 t_27))

set_option maxRecDepth 100000 in
set_option maxHeartbeats 2000000 in
theorem C (fuel : Nat) (tapes : List Int → Go.Proofs.Ytbpjhmhnicfdfaa.GoC.Tape) (code : (List Int)) (A0 : Option Addr) (c0 : Nat)  (w : World) (HE : Hid (Go.Proofs.Ytbpjhmhnicfdfaa.GoC.Tells tapes)) (M0 : Hid (Cells w 1 A0 code.length (Go.Proofs.Ytbpjhmhnicfdfaa.GoC.u8s code))) (N0 : Hid (code.length ≤ 9223372036854775807)) (V0 : Hid (∀ z ∈ code, 0 ≤ z ∧ z ≤ 255))  {r : Bool} (H : Hid (P fuel tapes code = some r)) :
    Calls Try.prog 3 #[.slice A0 code.length c0] w (Gives (.bool r) w) := by
  have HB := Lib.hid (Below.refl w.heap.size w)
  unfold P at H
  have N0o := N0.out
  obtain ⟨i0_3, hi_3, hz0_3, hz1_3, hz2_3⟩ := Aid.info_parts (P := Try.prog) (T := 3) (z := .int .i64 0) (s := 1) (b := 8) (by kernel_rfl)
  go_enter Try.func3, Try.ntmps3
  replace H := bind_hid H
  obtain ⟨t_2, qt_2, H⟩ := H
  go_wp2_with fail
  go_at_call 5
  refine (Go.Proofs.Ytbpjhmhnicfdfaa.GlRBig.C (code) A0 c0 _   (Lib.hid (Cells.below M0.out HB.out)) N0 V0 qt_2).mono ?_
  rintro e_t_2 wt_2 ⟨rfl, bt_2⟩
  have HBwt_2 := Lib.hid (Below.step HB.out bt_2)
  clear bt_2
  cases t_2 with
  | false =>
    replace H := ite_f H
    replace H := bind_hid H
    obtain ⟨t_5, qt_5, H⟩ := H
    go_wp2_with fail
    go_at_call 6
    refine (Go.Proofs.Ytbpjhmhnicfdfaa.GsDrawGaugeOf.C fuel tapes (code) A0 c0 _  HE (Lib.hid (Cells.below M0.out HBwt_2.out)) N0 V0 qt_5).mono ?_
    rintro e_t_5 wt_5 ⟨At_5, ct_5, rfl, ot_5, bt_5⟩
    have Ot_5 := Lib.hid (own_lower ot_5 HBwt_2.out.size)
    clear ot_5
    have HBwt_5 := Lib.hid (Below.step HBwt_2.out bt_5)
    clear bt_5
    replace H := bind2_hid H
    obtain ⟨t_8a, t_8b, qt_8, H⟩ := H
    go_wp2_with fail
    go_at_call 7
    refine (Go.Proofs.Ytbpjhmhnicfdfaa.GiGaugeOf.C (t_5) At_5 ct_5 _   (Lib.hid (own_cells Ot_5.out)) (Lib.hid (own_max Ot_5.out)) qt_8).mono ?_
    rintro e_t_8 wt_8 ⟨rfl, bt_8⟩
    have HBwt_8 := Lib.hid (Below.step HBwt_5.out bt_8)
    replace Ot_5 := Lib.hid (own_below Ot_5.out bt_8)
    clear bt_8
    replace H := bind2_hid H
    obtain ⟨t_15a, t_15b, qt_15, H⟩ := H
    go_wp2_with fail
    go_at_call 8
    refine (Go.Proofs.Ytbpjhmhnicfdfaa.GsGaugeOf.C (t_5) At_5 ct_5 _   (Lib.hid (own_cells Ot_5.out)) (Lib.hid (own_max Ot_5.out)) qt_15).mono ?_
    rintro e_t_15 wt_15 ⟨rfl, bt_15⟩
    have HBwt_15 := Lib.hid (Below.step HBwt_8.out bt_15)
    replace Ot_5 := Lib.hid (own_below Ot_5.out bt_15)
    clear bt_15
    replace H := let_hid H
    obtain ⟨t_23, ht_23, H⟩ := H
    replace H := join_hid H
    cases t_23 with
    | false =>
      replace H := ite_f H
      replace H := let_hid H
      obtain ⟨t_27, ht_27, H⟩ := H
      replace H := app_hid H
      cases t_27 with
      | false =>
        replace H := ite_f H
        replace H := bind2_hid H
        obtain ⟨t_31a, t_31b, qt_31, H⟩ := H
        go_wp2_with fail
        go_at_call 9
        refine (Go.Proofs.Ytbpjhmhnicfdfaa.GiAreEven.C fuel (t_5) At_5 ct_5 _   (Lib.hid (own_cells Ot_5.out)) (Lib.hid (own_max Ot_5.out)) qt_31).mono ?_
        rintro e_t_31 wt_31 ⟨rfl, bt_31⟩
        have HBwt_31 := Lib.hid (Below.step HBwt_15.out bt_31)
        replace Ot_5 := Lib.hid (own_below Ot_5.out bt_31)
        clear bt_31
        replace H := bind2_hid H
        obtain ⟨t_38a, t_38b, qt_38, H⟩ := H
        go_wp2_with fail
        go_at_call 10
        refine (Go.Proofs.Ytbpjhmhnicfdfaa.GsAreEven.C fuel (t_5) At_5 ct_5 _   (Lib.hid (own_cells Ot_5.out)) (Lib.hid (own_max Ot_5.out)) qt_38).mono ?_
        rintro e_t_38 wt_38 ⟨rfl, bt_38⟩
        have HBwt_38 := Lib.hid (Below.step HBwt_31.out bt_38)
        replace Ot_5 := Lib.hid (own_below Ot_5.out bt_38)
        clear bt_38
        replace H := let_hid H
        obtain ⟨t_46, ht_46, H⟩ := H
        replace H := join_hid H
        cases t_46 with
        | false =>
          replace H := ite_f H
          replace H := let_hid H
          obtain ⟨t_50, ht_50, H⟩ := H
          replace H := app_hid H
          cases t_50 with
          | false =>
            replace H := ite_f H
            replace H := join_hid H
            cases t_31b with
            | false =>
              obtain rfl : t_38b = false := by revert ht_50; cases t_38b <;> simp
              replace H := ite_f H
              replace H := app_hid H
              replace H := ite_f H
              unfold j0 at H
              replace H := bind3_hid H
              obtain ⟨t_115a, t_115b, t_115c, qt_115, H⟩ := H
              go_wp2_with fail
              go_at_call 12
              refine (Go.Proofs.Ytbpjhmhnicfdfaa.GsDrawIsPair.C fuel tapes (code) A0 c0 _  HE (Lib.hid (Cells.below M0.out HBwt_38.out)) N0 V0 qt_115).mono ?_
              rintro e_t_115 wt_115 ⟨At_115a, ct_115a, At_115b, ct_115b, rfl, ot_115a, ot_115b, d0_1, bt_115⟩
              have Dt_115a_t_5 := Lib.hid (apart_call ot_115a Ot_5.out)
              have Dt_115b_t_5 := Lib.hid (apart_call ot_115b Ot_5.out)
              have Dt_115a_t_115b := Lib.hid d0_1
              have Ot_115a := Lib.hid (own_lower ot_115a HBwt_38.out.size)
              clear ot_115a
              have Ot_115b := Lib.hid (own_lower ot_115b HBwt_38.out.size)
              clear ot_115b
              have HBwt_115 := Lib.hid (Below.step HBwt_38.out bt_115)
              replace Ot_5 := Lib.hid (own_below Ot_5.out bt_115)
              clear bt_115
              replace H := bind2_hid H
              obtain ⟨t_126a, t_126b, qt_126, H⟩ := H
              go_wp2_with fail
              go_at_call 11
              refine (Go.Proofs.Ytbpjhmhnicfdfaa.GiIsPair.C (t_115a) (t_115b) (t_115c) At_115a ct_115a At_115b ct_115b _   (Lib.hid (own_cells Ot_115a.out)) (Lib.hid (own_max Ot_115a.out)) (Lib.hid (own_cells Ot_115b.out)) (Lib.hid (own_max Ot_115b.out)) qt_126).mono ?_
              rintro e_t_126 wt_126 ⟨rfl, bt_126⟩
              have HBwt_126 := Lib.hid (Below.step HBwt_115.out bt_126)
              replace Ot_5 := Lib.hid (own_below Ot_5.out bt_126)
              replace Ot_115a := Lib.hid (own_below Ot_115a.out bt_126)
              replace Ot_115b := Lib.hid (own_below Ot_115b.out bt_126)
              clear bt_126
              replace H := bind2_hid H
              obtain ⟨t_135a, t_135b, qt_135, H⟩ := H
              go_wp2_with fail
              go_at_call 13
              refine (Go.Proofs.Ytbpjhmhnicfdfaa.GsIsPair.C fuel (t_115a) (t_115b) (t_115c) At_115a ct_115a At_115b ct_115b _   (Lib.hid (own_cells Ot_115a.out)) (Lib.hid (own_max Ot_115a.out)) (Lib.hid (own_cells Ot_115b.out)) (Lib.hid (own_max Ot_115b.out)) qt_135).mono ?_
              rintro e_t_135 wt_135 ⟨rfl, bt_135⟩
              have HBwt_135 := Lib.hid (Below.step HBwt_126.out bt_135)
              replace Ot_5 := Lib.hid (own_below Ot_5.out bt_135)
              replace Ot_115a := Lib.hid (own_below Ot_115a.out bt_135)
              replace Ot_115b := Lib.hid (own_below Ot_115b.out bt_135)
              clear bt_135
              replace H := let_hid H
              obtain ⟨t_143, ht_143, H⟩ := H
              replace H := join_hid H
              cases t_143 with
              | false =>
                replace H := ite_f H
                replace H := let_hid H
                obtain ⟨t_147, ht_147, H⟩ := H
                replace H := app_hid H
                cases t_147 with
                | false =>
                  replace H := ite_f H
                  replace H := bind2_hid H
                  obtain ⟨t_153a, t_153b, qt_153, H⟩ := H
                  go_wp2_with fail
                  go_at_call 11
                  refine (Go.Proofs.Ytbpjhmhnicfdfaa.GiIsPair.C (t_115b) (t_115a) (t_115c) At_115b ct_115b At_115a ct_115a _   (Lib.hid (own_cells Ot_115b.out)) (Lib.hid (own_max Ot_115b.out)) (Lib.hid (own_cells Ot_115a.out)) (Lib.hid (own_max Ot_115a.out)) qt_153).mono ?_
                  rintro e_t_153 wt_153 ⟨rfl, bt_153⟩
                  have HBwt_153 := Lib.hid (Below.step HBwt_135.out bt_153)
                  replace Ot_5 := Lib.hid (own_below Ot_5.out bt_153)
                  replace Ot_115a := Lib.hid (own_below Ot_115a.out bt_153)
                  replace Ot_115b := Lib.hid (own_below Ot_115b.out bt_153)
                  clear bt_153
                  replace H := let_hid H
                  obtain ⟨t_161, ht_161, H⟩ := H
                  replace H := join_hid H
                  cases t_161 with
                  | false =>
                    replace H := ite_f H
                    replace H := let_hid H
                    obtain ⟨t_165, ht_165, H⟩ := H
                    replace H := app_hid H
                    cases t_165 with
                    | false =>
                      replace H := ite_f H
                      replace H := bind2_hid H
                      obtain ⟨t_169a, t_169b, qt_169, H⟩ := H
                      go_wp2_with fail
                      go_at_call 14
                      refine (Go.Proofs.Ytbpjhmhnicfdfaa.GsDrawMissingHoles.C fuel tapes (code) A0 c0 _  HE (Lib.hid (Cells.below M0.out HBwt_153.out)) N0 V0 qt_169).mono ?_
                      rintro e_t_169 wt_169 ⟨At_169a, ct_169a, rfl, ot_169a, bt_169⟩
                      have Dt_169a_t_5 := Lib.hid (apart_call ot_169a Ot_5.out)
                      have Dt_169a_t_115a := Lib.hid (apart_call ot_169a Ot_115a.out)
                      have Dt_169a_t_115b := Lib.hid (apart_call ot_169a Ot_115b.out)
                      have Ot_169a := Lib.hid (own_lower ot_169a HBwt_153.out.size)
                      clear ot_169a
                      have HBwt_169 := Lib.hid (Below.step HBwt_153.out bt_169)
                      replace Ot_5 := Lib.hid (own_below Ot_5.out bt_169)
                      replace Ot_115a := Lib.hid (own_below Ot_115a.out bt_169)
                      replace Ot_115b := Lib.hid (own_below Ot_115b.out bt_169)
                      clear bt_169
                      replace H := bind2_hid H
                      obtain ⟨t_177a, t_177b, qt_177, H⟩ := H
                      go_wp2_with fail
                      go_at_call 15
                      refine (Go.Proofs.Ytbpjhmhnicfdfaa.GiMissingHoles.C fuel (t_169a) (t_169b) At_169a ct_169a _   (Lib.hid (own_cells Ot_169a.out)) (Lib.hid (own_max Ot_169a.out)) qt_177).mono ?_
                      rintro e_t_177 wt_177 ⟨rfl, bt_177⟩
                      have HBwt_177 := Lib.hid (Below.step HBwt_169.out bt_177)
                      replace Ot_5 := Lib.hid (own_below Ot_5.out bt_177)
                      replace Ot_115a := Lib.hid (own_below Ot_115a.out bt_177)
                      replace Ot_115b := Lib.hid (own_below Ot_115b.out bt_177)
                      replace Ot_169a := Lib.hid (own_below Ot_169a.out bt_177)
                      clear bt_177
                      replace H := bind2_hid H
                      obtain ⟨t_185a, t_185b, qt_185, H⟩ := H
                      go_wp2_with fail
                      go_at_call 16
                      refine (Go.Proofs.Ytbpjhmhnicfdfaa.GsMissingHoles.C fuel (t_169a) (t_169b) At_169a ct_169a _   (Lib.hid (own_cells Ot_169a.out)) (Lib.hid (own_max Ot_169a.out)) qt_185).mono ?_
                      rintro e_t_185 wt_185 ⟨rfl, bt_185⟩
                      have HBwt_185 := Lib.hid (Below.step HBwt_177.out bt_185)
                      replace Ot_5 := Lib.hid (own_below Ot_5.out bt_185)
                      replace Ot_115a := Lib.hid (own_below Ot_115a.out bt_185)
                      replace Ot_115b := Lib.hid (own_below Ot_115b.out bt_185)
                      replace Ot_169a := Lib.hid (own_below Ot_169a.out bt_185)
                      clear bt_185
                      replace H := let_hid H
                      obtain ⟨t_193, ht_193, H⟩ := H
                      replace H := join_hid H
                      cases t_193 with
                      | false =>
                        replace H := ite_f H
                        replace H := let_hid H
                        obtain ⟨t_197, ht_197, H⟩ := H
                        replace H := app_hid H
                        replace H := join_hid H
                        cases t_197 with
                        | false =>
                          replace H := ite_f H
                          replace H := let_hid H
                          obtain ⟨t_201, ht_201, H⟩ := H
                          replace H := app_hid H
                          cases t_201 with
                          | false =>
                            replace H := ite_f H
                            replace H := bind2_hid H
                            obtain ⟨t_205a, t_205b, qt_205, H⟩ := H
                            go_wp2_with fail
                            go_at_call 17
                            refine (Go.Proofs.Ytbpjhmhnicfdfaa.GsDrawHolesOn.C tapes (code) A0 c0 _  HE (Lib.hid (Cells.below M0.out HBwt_185.out)) N0 V0 qt_205).mono ?_
                            rintro e_t_205 wt_205 ⟨rfl, bt_205⟩
                            have HBwt_205 := Lib.hid (Below.step HBwt_185.out bt_205)
                            replace Ot_5 := Lib.hid (own_below Ot_5.out bt_205)
                            replace Ot_115a := Lib.hid (own_below Ot_115a.out bt_205)
                            replace Ot_115b := Lib.hid (own_below Ot_115b.out bt_205)
                            replace Ot_169a := Lib.hid (own_below Ot_169a.out bt_205)
                            clear bt_205
                            replace H := bind2_hid H
                            obtain ⟨t_213a, t_213b, qt_213, H⟩ := H
                            go_wp2_with fail
                            go_at_call 18
                            refine (Go.Proofs.Ytbpjhmhnicfdfaa.GiHolesOn.C (t_205a) (t_205b)  _    qt_213).mono ?_
                            rintro e_t_213 wt_213 ⟨rfl, bt_213⟩
                            have HBwt_213 := Lib.hid (Below.step HBwt_205.out bt_213)
                            replace Ot_5 := Lib.hid (own_below Ot_5.out bt_213)
                            replace Ot_115a := Lib.hid (own_below Ot_115a.out bt_213)
                            replace Ot_115b := Lib.hid (own_below Ot_115b.out bt_213)
                            replace Ot_169a := Lib.hid (own_below Ot_169a.out bt_213)
                            clear bt_213
                            replace H := bind2_hid H
                            obtain ⟨t_221a, t_221b, qt_221, H⟩ := H
                            go_wp2_with fail
                            go_at_call 19
                            refine (Go.Proofs.Ytbpjhmhnicfdfaa.GsHolesOn.C (t_205a) (t_205b)  _    qt_221).mono ?_
                            rintro e_t_221 wt_221 ⟨rfl, bt_221⟩
                            have HBwt_221 := Lib.hid (Below.step HBwt_213.out bt_221)
                            replace Ot_5 := Lib.hid (own_below Ot_5.out bt_221)
                            replace Ot_115a := Lib.hid (own_below Ot_115a.out bt_221)
                            replace Ot_115b := Lib.hid (own_below Ot_115b.out bt_221)
                            replace Ot_169a := Lib.hid (own_below Ot_169a.out bt_221)
                            clear bt_221
                            replace H := let_hid H
                            obtain ⟨t_229, ht_229, H⟩ := H
                            replace H := join_hid H
                            cases t_229 with
                            | false =>
                              replace H := ite_f H
                              replace H := app_hid H
                              obtain rfl := ret_hid H
                              go_wp2_with fail
                              go_ret
                              exact ⟨rfl, HBwt_221.out⟩
                            | true =>
                              replace H := ite_t H
                              replace H := let_hid H
                              obtain ⟨t_233, ht_233, H⟩ := H
                              replace H := app_hid H
                              obtain rfl := ret_hid H
                              go_wp2_with fail
                              go_ret
                              exact ⟨rfl, HBwt_221.out⟩
                          | true =>
                            replace H := ite_t H
                            obtain rfl := ret_hid H
                            go_wp2_with fail
                            go_ret
                            exact ⟨rfl, HBwt_185.out⟩
                        | true =>
                          replace H := ite_t H
                          replace H := app_hid H
                          replace H := ite_t H
                          obtain rfl := ret_hid H
                          go_wp2_with fail
                          go_ret
                          exact ⟨rfl, HBwt_185.out⟩
                      | true =>
                        replace H := ite_t H
                        replace H := app_hid H
                        replace H := join_hid H
                        replace H := ite_t H
                        replace H := app_hid H
                        replace H := ite_t H
                        obtain rfl := ret_hid H
                        go_wp2_with fail
                        go_ret
                        exact ⟨rfl, HBwt_185.out⟩
                    | true =>
                      replace H := ite_t H
                      obtain rfl := ret_hid H
                      go_wp2_with fail
                      go_ret
                      exact ⟨rfl, HBwt_153.out⟩
                  | true =>
                    replace H := ite_t H
                    replace H := app_hid H
                    replace H := ite_t H
                    obtain rfl := ret_hid H
                    go_wp2_with fail
                    go_ret
                    exact ⟨rfl, HBwt_153.out⟩
                | true =>
                  replace H := ite_t H
                  obtain rfl := ret_hid H
                  go_wp2_with fail
                  go_ret
                  exact ⟨rfl, HBwt_135.out⟩
              | true =>
                replace H := ite_t H
                replace H := app_hid H
                replace H := ite_t H
                obtain rfl := ret_hid H
                go_wp2_with fail
                go_ret
                exact ⟨rfl, HBwt_135.out⟩
            | true =>
              obtain rfl : t_38b = true := by revert ht_50; cases t_38b <;> simp
              replace H := ite_t H
              replace H := let_hid H
              obtain ⟨t_58, ht_58, H⟩ := H
              replace H := idx_hid H
              obtain ⟨nt_59, yt_59, et_59, lt_59, gt_59, H⟩ := H
              subst et_59
              obtain ⟨qt_59, Qt_59⟩ := own_some Ot_5.out (by omega)
              subst Qt_59
              obtain ⟨ab_t_59, ao_t_59, zt_59, At_59, z_t_59, ct_59_0⟩ := Go.Proofs.Ytbpjhmhnicfdfaa.HelpInt.Ints.at_ (own_cells Ot_5.out) (k := nt_59) (by omega)
              obtain rfl := Option.some.inj (gt_59.out.symm.trans z_t_59)
              simp only [Option.some.injEq, Addr.mk.injEq] at At_59
              obtain ⟨rfl, rfl, _⟩ := At_59
              clear z_t_59
              simp only [Nat.zero_add] at ct_59_0
              have b0t_59 : (0 : Int) ≤ (nt_59 : Int) := by omega
              have b1t_59 : (nt_59 : Int) < ((t_5.length : Nat) : Int) := by omega
              have b2t_59 : ((nt_59 : Int)).toNat = nt_59 := by omega
              replace H := let_hid H
              obtain ⟨t_61, ht_61, H⟩ := H
              replace H := app_hid H
              cases t_61 with
              | false =>
                replace H := ite_f H
                unfold j0 at H
                replace H := bind3_hid H
                obtain ⟨t_115a, t_115b, t_115c, qt_115, H⟩ := H
                go_wp2_with fail
                go_at_call 12
                refine (Go.Proofs.Ytbpjhmhnicfdfaa.GsDrawIsPair.C fuel tapes (code) A0 c0 _  HE (Lib.hid (Cells.below M0.out HBwt_38.out)) N0 V0 qt_115).mono ?_
                rintro e_t_115 wt_115 ⟨At_115a, ct_115a, At_115b, ct_115b, rfl, ot_115a, ot_115b, d0_1, bt_115⟩
                have Dt_115a_t_5 := Lib.hid (apart_call ot_115a Ot_5.out)
                have Dt_115b_t_5 := Lib.hid (apart_call ot_115b Ot_5.out)
                have Dt_115a_t_115b := Lib.hid d0_1
                have Ot_115a := Lib.hid (own_lower ot_115a HBwt_38.out.size)
                clear ot_115a
                have Ot_115b := Lib.hid (own_lower ot_115b HBwt_38.out.size)
                clear ot_115b
                have HBwt_115 := Lib.hid (Below.step HBwt_38.out bt_115)
                replace ct_59_0 := cell_below bt_115 ct_59_0
                replace Ot_5 := Lib.hid (own_below Ot_5.out bt_115)
                clear bt_115
                replace H := bind2_hid H
                obtain ⟨t_126a, t_126b, qt_126, H⟩ := H
                go_wp2_with fail
                go_at_call 11
                refine (Go.Proofs.Ytbpjhmhnicfdfaa.GiIsPair.C (t_115a) (t_115b) (t_115c) At_115a ct_115a At_115b ct_115b _   (Lib.hid (own_cells Ot_115a.out)) (Lib.hid (own_max Ot_115a.out)) (Lib.hid (own_cells Ot_115b.out)) (Lib.hid (own_max Ot_115b.out)) qt_126).mono ?_
                rintro e_t_126 wt_126 ⟨rfl, bt_126⟩
                have HBwt_126 := Lib.hid (Below.step HBwt_115.out bt_126)
                replace ct_59_0 := cell_below bt_126 ct_59_0
                replace Ot_5 := Lib.hid (own_below Ot_5.out bt_126)
                replace Ot_115a := Lib.hid (own_below Ot_115a.out bt_126)
                replace Ot_115b := Lib.hid (own_below Ot_115b.out bt_126)
                clear bt_126
                replace H := bind2_hid H
                obtain ⟨t_135a, t_135b, qt_135, H⟩ := H
                go_wp2_with fail
                go_at_call 13
                refine (Go.Proofs.Ytbpjhmhnicfdfaa.GsIsPair.C fuel (t_115a) (t_115b) (t_115c) At_115a ct_115a At_115b ct_115b _   (Lib.hid (own_cells Ot_115a.out)) (Lib.hid (own_max Ot_115a.out)) (Lib.hid (own_cells Ot_115b.out)) (Lib.hid (own_max Ot_115b.out)) qt_135).mono ?_
                rintro e_t_135 wt_135 ⟨rfl, bt_135⟩
                have HBwt_135 := Lib.hid (Below.step HBwt_126.out bt_135)
                replace ct_59_0 := cell_below bt_135 ct_59_0
                replace Ot_5 := Lib.hid (own_below Ot_5.out bt_135)
                replace Ot_115a := Lib.hid (own_below Ot_115a.out bt_135)
                replace Ot_115b := Lib.hid (own_below Ot_115b.out bt_135)
                clear bt_135
                replace H := let_hid H
                obtain ⟨t_143, ht_143, H⟩ := H
                replace H := join_hid H
                cases t_143 with
                | false =>
                  replace H := ite_f H
                  replace H := let_hid H
                  obtain ⟨t_147, ht_147, H⟩ := H
                  replace H := app_hid H
                  cases t_147 with
                  | false =>
                    replace H := ite_f H
                    replace H := bind2_hid H
                    obtain ⟨t_153a, t_153b, qt_153, H⟩ := H
                    go_wp2_with fail
                    go_at_call 11
                    refine (Go.Proofs.Ytbpjhmhnicfdfaa.GiIsPair.C (t_115b) (t_115a) (t_115c) At_115b ct_115b At_115a ct_115a _   (Lib.hid (own_cells Ot_115b.out)) (Lib.hid (own_max Ot_115b.out)) (Lib.hid (own_cells Ot_115a.out)) (Lib.hid (own_max Ot_115a.out)) qt_153).mono ?_
                    rintro e_t_153 wt_153 ⟨rfl, bt_153⟩
                    have HBwt_153 := Lib.hid (Below.step HBwt_135.out bt_153)
                    replace ct_59_0 := cell_below bt_153 ct_59_0
                    replace Ot_5 := Lib.hid (own_below Ot_5.out bt_153)
                    replace Ot_115a := Lib.hid (own_below Ot_115a.out bt_153)
                    replace Ot_115b := Lib.hid (own_below Ot_115b.out bt_153)
                    clear bt_153
                    replace H := let_hid H
                    obtain ⟨t_161, ht_161, H⟩ := H
                    replace H := join_hid H
                    cases t_161 with
                    | false =>
                      replace H := ite_f H
                      replace H := let_hid H
                      obtain ⟨t_165, ht_165, H⟩ := H
                      replace H := app_hid H
                      cases t_165 with
                      | false =>
                        replace H := ite_f H
                        replace H := bind2_hid H
                        obtain ⟨t_169a, t_169b, qt_169, H⟩ := H
                        go_wp2_with fail
                        go_at_call 14
                        refine (Go.Proofs.Ytbpjhmhnicfdfaa.GsDrawMissingHoles.C fuel tapes (code) A0 c0 _  HE (Lib.hid (Cells.below M0.out HBwt_153.out)) N0 V0 qt_169).mono ?_
                        rintro e_t_169 wt_169 ⟨At_169a, ct_169a, rfl, ot_169a, bt_169⟩
                        have Dt_169a_t_5 := Lib.hid (apart_call ot_169a Ot_5.out)
                        have Dt_169a_t_115a := Lib.hid (apart_call ot_169a Ot_115a.out)
                        have Dt_169a_t_115b := Lib.hid (apart_call ot_169a Ot_115b.out)
                        have Ot_169a := Lib.hid (own_lower ot_169a HBwt_153.out.size)
                        clear ot_169a
                        have HBwt_169 := Lib.hid (Below.step HBwt_153.out bt_169)
                        replace ct_59_0 := cell_below bt_169 ct_59_0
                        replace Ot_5 := Lib.hid (own_below Ot_5.out bt_169)
                        replace Ot_115a := Lib.hid (own_below Ot_115a.out bt_169)
                        replace Ot_115b := Lib.hid (own_below Ot_115b.out bt_169)
                        clear bt_169
                        replace H := bind2_hid H
                        obtain ⟨t_177a, t_177b, qt_177, H⟩ := H
                        go_wp2_with fail
                        go_at_call 15
                        refine (Go.Proofs.Ytbpjhmhnicfdfaa.GiMissingHoles.C fuel (t_169a) (t_169b) At_169a ct_169a _   (Lib.hid (own_cells Ot_169a.out)) (Lib.hid (own_max Ot_169a.out)) qt_177).mono ?_
                        rintro e_t_177 wt_177 ⟨rfl, bt_177⟩
                        have HBwt_177 := Lib.hid (Below.step HBwt_169.out bt_177)
                        replace ct_59_0 := cell_below bt_177 ct_59_0
                        replace Ot_5 := Lib.hid (own_below Ot_5.out bt_177)
                        replace Ot_115a := Lib.hid (own_below Ot_115a.out bt_177)
                        replace Ot_115b := Lib.hid (own_below Ot_115b.out bt_177)
                        replace Ot_169a := Lib.hid (own_below Ot_169a.out bt_177)
                        clear bt_177
                        replace H := bind2_hid H
                        obtain ⟨t_185a, t_185b, qt_185, H⟩ := H
                        go_wp2_with fail
                        go_at_call 16
                        refine (Go.Proofs.Ytbpjhmhnicfdfaa.GsMissingHoles.C fuel (t_169a) (t_169b) At_169a ct_169a _   (Lib.hid (own_cells Ot_169a.out)) (Lib.hid (own_max Ot_169a.out)) qt_185).mono ?_
                        rintro e_t_185 wt_185 ⟨rfl, bt_185⟩
                        have HBwt_185 := Lib.hid (Below.step HBwt_177.out bt_185)
                        replace ct_59_0 := cell_below bt_185 ct_59_0
                        replace Ot_5 := Lib.hid (own_below Ot_5.out bt_185)
                        replace Ot_115a := Lib.hid (own_below Ot_115a.out bt_185)
                        replace Ot_115b := Lib.hid (own_below Ot_115b.out bt_185)
                        replace Ot_169a := Lib.hid (own_below Ot_169a.out bt_185)
                        clear bt_185
                        replace H := let_hid H
                        obtain ⟨t_193, ht_193, H⟩ := H
                        replace H := join_hid H
                        cases t_193 with
                        | false =>
                          replace H := ite_f H
                          replace H := let_hid H
                          obtain ⟨t_197, ht_197, H⟩ := H
                          replace H := app_hid H
                          replace H := join_hid H
                          cases t_197 with
                          | false =>
                            replace H := ite_f H
                            replace H := let_hid H
                            obtain ⟨t_201, ht_201, H⟩ := H
                            replace H := app_hid H
                            cases t_201 with
                            | false =>
                              replace H := ite_f H
                              replace H := bind2_hid H
                              obtain ⟨t_205a, t_205b, qt_205, H⟩ := H
                              go_wp2_with fail
                              go_at_call 17
                              refine (Go.Proofs.Ytbpjhmhnicfdfaa.GsDrawHolesOn.C tapes (code) A0 c0 _  HE (Lib.hid (Cells.below M0.out HBwt_185.out)) N0 V0 qt_205).mono ?_
                              rintro e_t_205 wt_205 ⟨rfl, bt_205⟩
                              have HBwt_205 := Lib.hid (Below.step HBwt_185.out bt_205)
                              replace ct_59_0 := cell_below bt_205 ct_59_0
                              replace Ot_5 := Lib.hid (own_below Ot_5.out bt_205)
                              replace Ot_115a := Lib.hid (own_below Ot_115a.out bt_205)
                              replace Ot_115b := Lib.hid (own_below Ot_115b.out bt_205)
                              replace Ot_169a := Lib.hid (own_below Ot_169a.out bt_205)
                              clear bt_205
                              replace H := bind2_hid H
                              obtain ⟨t_213a, t_213b, qt_213, H⟩ := H
                              go_wp2_with fail
                              go_at_call 18
                              refine (Go.Proofs.Ytbpjhmhnicfdfaa.GiHolesOn.C (t_205a) (t_205b)  _    qt_213).mono ?_
                              rintro e_t_213 wt_213 ⟨rfl, bt_213⟩
                              have HBwt_213 := Lib.hid (Below.step HBwt_205.out bt_213)
                              replace ct_59_0 := cell_below bt_213 ct_59_0
                              replace Ot_5 := Lib.hid (own_below Ot_5.out bt_213)
                              replace Ot_115a := Lib.hid (own_below Ot_115a.out bt_213)
                              replace Ot_115b := Lib.hid (own_below Ot_115b.out bt_213)
                              replace Ot_169a := Lib.hid (own_below Ot_169a.out bt_213)
                              clear bt_213
                              replace H := bind2_hid H
                              obtain ⟨t_221a, t_221b, qt_221, H⟩ := H
                              go_wp2_with fail
                              go_at_call 19
                              refine (Go.Proofs.Ytbpjhmhnicfdfaa.GsHolesOn.C (t_205a) (t_205b)  _    qt_221).mono ?_
                              rintro e_t_221 wt_221 ⟨rfl, bt_221⟩
                              have HBwt_221 := Lib.hid (Below.step HBwt_213.out bt_221)
                              replace ct_59_0 := cell_below bt_221 ct_59_0
                              replace Ot_5 := Lib.hid (own_below Ot_5.out bt_221)
                              replace Ot_115a := Lib.hid (own_below Ot_115a.out bt_221)
                              replace Ot_115b := Lib.hid (own_below Ot_115b.out bt_221)
                              replace Ot_169a := Lib.hid (own_below Ot_169a.out bt_221)
                              clear bt_221
                              replace H := let_hid H
                              obtain ⟨t_229, ht_229, H⟩ := H
                              replace H := join_hid H
                              cases t_229 with
                              | false =>
                                replace H := ite_f H
                                replace H := app_hid H
                                obtain rfl := ret_hid H
                                go_wp2_with fail
                                go_ret
                                exact ⟨rfl, HBwt_221.out⟩
                              | true =>
                                replace H := ite_t H
                                replace H := let_hid H
                                obtain ⟨t_233, ht_233, H⟩ := H
                                replace H := app_hid H
                                obtain rfl := ret_hid H
                                go_wp2_with fail
                                go_ret
                                exact ⟨rfl, HBwt_221.out⟩
                            | true =>
                              replace H := ite_t H
                              obtain rfl := ret_hid H
                              go_wp2_with fail
                              go_ret
                              exact ⟨rfl, HBwt_185.out⟩
                          | true =>
                            replace H := ite_t H
                            replace H := app_hid H
                            replace H := ite_t H
                            obtain rfl := ret_hid H
                            go_wp2_with fail
                            go_ret
                            exact ⟨rfl, HBwt_185.out⟩
                        | true =>
                          replace H := ite_t H
                          replace H := app_hid H
                          replace H := join_hid H
                          replace H := ite_t H
                          replace H := app_hid H
                          replace H := ite_t H
                          obtain rfl := ret_hid H
                          go_wp2_with fail
                          go_ret
                          exact ⟨rfl, HBwt_185.out⟩
                      | true =>
                        replace H := ite_t H
                        obtain rfl := ret_hid H
                        go_wp2_with fail
                        go_ret
                        exact ⟨rfl, HBwt_153.out⟩
                    | true =>
                      replace H := ite_t H
                      replace H := app_hid H
                      replace H := ite_t H
                      obtain rfl := ret_hid H
                      go_wp2_with fail
                      go_ret
                      exact ⟨rfl, HBwt_153.out⟩
                  | true =>
                    replace H := ite_t H
                    obtain rfl := ret_hid H
                    go_wp2_with fail
                    go_ret
                    exact ⟨rfl, HBwt_135.out⟩
                | true =>
                  replace H := ite_t H
                  replace H := app_hid H
                  replace H := ite_t H
                  obtain rfl := ret_hid H
                  go_wp2_with fail
                  go_ret
                  exact ⟨rfl, HBwt_135.out⟩
              | true =>
                replace H := ite_t H
                obtain ⟨w_t_63, hw_t_63⟩ : ∃ x, wt_38.alloc (.cells #[] 3) = x := ⟨_, rfl⟩
                have bw_t_63 : Below wt_38.heap.size wt_38 w_t_63 := by rw [← hw_t_63]; exact (Below.refl _ _).alloc (Nat.le_refl _) _
                have Ot_63 : Hid (w_t_63.ownsRow w.heap.size 3 1 (.slice (some ⟨wt_38.heap.size, 0, none⟩) 0 0) 0 []) := Lib.hid (by rw [← hw_t_63]; exact own_empty HBwt_38.out.size)
                have Dt_63_t_5 := Lib.hid (apart_fresh Ot_5.out)
                have HBw_t_63 := Lib.hid (Below.step HBwt_38.out bw_t_63)
                have ct_59_0__11 := cell_below bw_t_63 ct_59_0
                replace Ot_5 := Lib.hid (own_below Ot_5.out bw_t_63)
                clear bw_t_63
                have hb_0 : t_5.length ≤ 9223372036854775807 := own_max Ot_5.out
                go_wp2_with fail
                clear ct_59_0
                go_loopg [13, 12] (t_5.length) (fun m_ v13_ v12_ wr => ∃ (k0 : Nat) (moved_12l0 : (List Int)) (Amoved_12l0 : Option Addr) (cmoved_12l0 : Nat), k0 + m_ = t_5.length ∧ v13_ = .int .i64 (k0 : Int) ∧ v12_ = .slice Amoved_12l0 moved_12l0.length cmoved_12l0 ∧ Hid (cntK (l0 t_5) m_ k0 (moved_12l0) (e0 code fuel tapes false t_5 t_8a t_8b t_15a t_15b false false t_31a true t_38a true false false true) = some r) ∧ Hid (Below w.heap.size w wr) ∧ Hid (wr.ownsRow w.heap.size 3 1 (.slice Amoved_12l0 moved_12l0.length cmoved_12l0) moved_12l0.length (Go.Proofs.Ytbpjhmhnicfdfaa.HelpInt.iv moved_12l0)) ∧ Hid (wr.ownsRow w.heap.size 3 1 (.slice (some ⟨qt_59, 0, none⟩) t_5.length ct_5) t_5.length (Go.Proofs.Ytbpjhmhnicfdfaa.HelpInt.iv t_5)) ∧ Hid (Apart Amoved_12l0 (some ⟨qt_59, 0, none⟩)))
                case atStart => exact ⟨0, _, _, _, by omega, rfl, rfl, H, HBw_t_63, Ot_63, Ot_5, Lib.hid Dt_63_t_5.out⟩
                case round =>
                  obtain ⟨k0, moved_12l0, Amoved_12l0, cmoved_12l0, hkm0, rfl, rfl, H, HBwr0, Omoved_12l0, Ot_5, Dmoved_12l0_t_5⟩ := hrel
                  rename World => wr0
                  cases gk with
                  | zero =>
                    obtain rfl : k0 = t_5.length := by omega
                    have hc0 : decide (((t_5.length : Nat) : Int) < ((t_5.length : Nat) : Int)) = false := by simp
                    replace H := cnt_zero H
                    unfold e0 at H
                    replace H := let_hid H
                    obtain ⟨_, rfl, H⟩ := H
                    replace H := bind2_hid H
                    obtain ⟨t_84a, t_84b, qt_84, H⟩ := H
                    go_wp2_with fail
                    go_at_call 11
                    refine (Go.Proofs.Ytbpjhmhnicfdfaa.GiIsPair.C (t_5) (moved_12l0) (0) (some ⟨qt_59, 0, none⟩) ct_5 Amoved_12l0 cmoved_12l0 _   (Lib.hid (own_cells Ot_5.out)) (Lib.hid (own_max Ot_5.out)) (Lib.hid (own_cells Omoved_12l0.out)) (Lib.hid (own_max Omoved_12l0.out)) qt_84).mono ?_
                    rintro e_t_84 wt_84 ⟨rfl, bt_84⟩
                    have HBwt_84 := Lib.hid (Below.step HBwr0.out bt_84)
                    replace Ot_5 := Lib.hid (own_below Ot_5.out bt_84)
                    replace Omoved_12l0 := Lib.hid (own_below Omoved_12l0.out bt_84)
                    clear bt_84
                    replace H := bind2_hid H
                    obtain ⟨t_91a, t_91b, qt_91, H⟩ := H
                    go_wp2_with fail
                    go_at_call 7
                    refine (Go.Proofs.Ytbpjhmhnicfdfaa.GiGaugeOf.C (moved_12l0) Amoved_12l0 cmoved_12l0 _   (Lib.hid (own_cells Omoved_12l0.out)) (Lib.hid (own_max Omoved_12l0.out)) qt_91).mono ?_
                    rintro e_t_91 wt_91 ⟨rfl, bt_91⟩
                    have HBwt_91 := Lib.hid (Below.step HBwt_84.out bt_91)
                    replace Ot_5 := Lib.hid (own_below Ot_5.out bt_91)
                    replace Omoved_12l0 := Lib.hid (own_below Omoved_12l0.out bt_91)
                    clear bt_91
                    cases t_84b with
                    | false =>
                      replace H := let_hid H
                      obtain ⟨t_98, ht_98, H⟩ := H
                      obtain rfl : t_98 = true := ht_98.symm
                      replace H := join_hid H
                      replace H := ite_t H
                      replace H := app_hid H
                      replace H := join_hid H
                      replace H := ite_t H
                      replace H := app_hid H
                      replace H := join_hid H
                      replace H := ite_t H
                      replace H := app_hid H
                      replace H := ite_t H
                      obtain rfl := ret_hid H
                      go_wp2_with fail
                      go_ret
                      exact ⟨rfl, HBwt_91.out⟩
                    | true =>
                      replace H := let_hid H
                      obtain ⟨t_98, ht_98, H⟩ := H
                      obtain rfl : t_98 = false := ht_98.symm
                      replace H := join_hid H
                      replace H := ite_f H
                      cases t_84a with
                      | false =>
                        replace H := let_hid H
                        obtain ⟨t_101, ht_101, H⟩ := H
                        obtain rfl : t_101 = true := ht_101.symm
                        replace H := app_hid H
                        replace H := join_hid H
                        replace H := ite_t H
                        replace H := app_hid H
                        replace H := join_hid H
                        replace H := ite_t H
                        replace H := app_hid H
                        replace H := ite_t H
                        obtain rfl := ret_hid H
                        go_wp2_with fail
                        go_ret
                        exact ⟨rfl, HBwt_91.out⟩
                      | true =>
                        replace H := let_hid H
                        obtain ⟨t_101, ht_101, H⟩ := H
                        obtain rfl : t_101 = false := ht_101.symm
                        replace H := app_hid H
                        replace H := join_hid H
                        replace H := ite_f H
                        replace H := let_hid H
                        obtain ⟨t_106, ht_106, H⟩ := H
                        replace H := app_hid H
                        replace H := join_hid H
                        cases t_106 with
                        | false =>
                          replace H := ite_f H
                          replace H := let_hid H
                          obtain ⟨t_111, ht_111, H⟩ := H
                          replace H := app_hid H
                          cases t_111 with
                          | false =>
                            replace H := ite_f H
                            unfold j0 at H
                            replace H := bind3_hid H
                            obtain ⟨t_115a, t_115b, t_115c, qt_115, H⟩ := H
                            go_wp2_with fail
                            go_at_call 12
                            refine (Go.Proofs.Ytbpjhmhnicfdfaa.GsDrawIsPair.C fuel tapes (code) A0 c0 _  HE (Lib.hid (Cells.below M0.out HBwt_91.out)) N0 V0 qt_115).mono ?_
                            rintro e_t_115 wt_115 ⟨At_115a, ct_115a, At_115b, ct_115b, rfl, ot_115a, ot_115b, d0_1, bt_115⟩
                            have Dt_115a_t_5 := Lib.hid (apart_call ot_115a Ot_5.out)
                            have Dt_115a_moved_12l0 := Lib.hid (apart_call ot_115a Omoved_12l0.out)
                            have Dt_115b_t_5 := Lib.hid (apart_call ot_115b Ot_5.out)
                            have Dt_115b_moved_12l0 := Lib.hid (apart_call ot_115b Omoved_12l0.out)
                            have Dt_115a_t_115b := Lib.hid d0_1
                            have Ot_115a := Lib.hid (own_lower ot_115a HBwt_91.out.size)
                            clear ot_115a
                            have Ot_115b := Lib.hid (own_lower ot_115b HBwt_91.out.size)
                            clear ot_115b
                            have HBwt_115 := Lib.hid (Below.step HBwt_91.out bt_115)
                            replace Ot_5 := Lib.hid (own_below Ot_5.out bt_115)
                            replace Omoved_12l0 := Lib.hid (own_below Omoved_12l0.out bt_115)
                            clear bt_115
                            replace H := bind2_hid H
                            obtain ⟨t_126a, t_126b, qt_126, H⟩ := H
                            go_wp2_with fail
                            go_at_call 11
                            refine (Go.Proofs.Ytbpjhmhnicfdfaa.GiIsPair.C (t_115a) (t_115b) (t_115c) At_115a ct_115a At_115b ct_115b _   (Lib.hid (own_cells Ot_115a.out)) (Lib.hid (own_max Ot_115a.out)) (Lib.hid (own_cells Ot_115b.out)) (Lib.hid (own_max Ot_115b.out)) qt_126).mono ?_
                            rintro e_t_126 wt_126 ⟨rfl, bt_126⟩
                            have HBwt_126 := Lib.hid (Below.step HBwt_115.out bt_126)
                            replace Ot_5 := Lib.hid (own_below Ot_5.out bt_126)
                            replace Omoved_12l0 := Lib.hid (own_below Omoved_12l0.out bt_126)
                            replace Ot_115a := Lib.hid (own_below Ot_115a.out bt_126)
                            replace Ot_115b := Lib.hid (own_below Ot_115b.out bt_126)
                            clear bt_126
                            replace H := bind2_hid H
                            obtain ⟨t_135a, t_135b, qt_135, H⟩ := H
                            go_wp2_with fail
                            go_at_call 13
                            refine (Go.Proofs.Ytbpjhmhnicfdfaa.GsIsPair.C fuel (t_115a) (t_115b) (t_115c) At_115a ct_115a At_115b ct_115b _   (Lib.hid (own_cells Ot_115a.out)) (Lib.hid (own_max Ot_115a.out)) (Lib.hid (own_cells Ot_115b.out)) (Lib.hid (own_max Ot_115b.out)) qt_135).mono ?_
                            rintro e_t_135 wt_135 ⟨rfl, bt_135⟩
                            have HBwt_135 := Lib.hid (Below.step HBwt_126.out bt_135)
                            replace Ot_5 := Lib.hid (own_below Ot_5.out bt_135)
                            replace Omoved_12l0 := Lib.hid (own_below Omoved_12l0.out bt_135)
                            replace Ot_115a := Lib.hid (own_below Ot_115a.out bt_135)
                            replace Ot_115b := Lib.hid (own_below Ot_115b.out bt_135)
                            clear bt_135
                            replace H := let_hid H
                            obtain ⟨t_143, ht_143, H⟩ := H
                            replace H := join_hid H
                            cases t_143 with
                            | false =>
                              replace H := ite_f H
                              replace H := let_hid H
                              obtain ⟨t_147, ht_147, H⟩ := H
                              replace H := app_hid H
                              cases t_147 with
                              | false =>
                                replace H := ite_f H
                                replace H := bind2_hid H
                                obtain ⟨t_153a, t_153b, qt_153, H⟩ := H
                                go_wp2_with fail
                                go_at_call 11
                                refine (Go.Proofs.Ytbpjhmhnicfdfaa.GiIsPair.C (t_115b) (t_115a) (t_115c) At_115b ct_115b At_115a ct_115a _   (Lib.hid (own_cells Ot_115b.out)) (Lib.hid (own_max Ot_115b.out)) (Lib.hid (own_cells Ot_115a.out)) (Lib.hid (own_max Ot_115a.out)) qt_153).mono ?_
                                rintro e_t_153 wt_153 ⟨rfl, bt_153⟩
                                have HBwt_153 := Lib.hid (Below.step HBwt_135.out bt_153)
                                replace Ot_5 := Lib.hid (own_below Ot_5.out bt_153)
                                replace Omoved_12l0 := Lib.hid (own_below Omoved_12l0.out bt_153)
                                replace Ot_115a := Lib.hid (own_below Ot_115a.out bt_153)
                                replace Ot_115b := Lib.hid (own_below Ot_115b.out bt_153)
                                clear bt_153
                                replace H := let_hid H
                                obtain ⟨t_161, ht_161, H⟩ := H
                                replace H := join_hid H
                                cases t_161 with
                                | false =>
                                  replace H := ite_f H
                                  replace H := let_hid H
                                  obtain ⟨t_165, ht_165, H⟩ := H
                                  replace H := app_hid H
                                  cases t_165 with
                                  | false =>
                                    replace H := ite_f H
                                    replace H := bind2_hid H
                                    obtain ⟨t_169a, t_169b, qt_169, H⟩ := H
                                    go_wp2_with fail
                                    go_at_call 14
                                    refine (Go.Proofs.Ytbpjhmhnicfdfaa.GsDrawMissingHoles.C fuel tapes (code) A0 c0 _  HE (Lib.hid (Cells.below M0.out HBwt_153.out)) N0 V0 qt_169).mono ?_
                                    rintro e_t_169 wt_169 ⟨At_169a, ct_169a, rfl, ot_169a, bt_169⟩
                                    have Dt_169a_t_5 := Lib.hid (apart_call ot_169a Ot_5.out)
                                    have Dt_169a_moved_12l0 := Lib.hid (apart_call ot_169a Omoved_12l0.out)
                                    have Dt_169a_t_115a := Lib.hid (apart_call ot_169a Ot_115a.out)
                                    have Dt_169a_t_115b := Lib.hid (apart_call ot_169a Ot_115b.out)
                                    have Ot_169a := Lib.hid (own_lower ot_169a HBwt_153.out.size)
                                    clear ot_169a
                                    have HBwt_169 := Lib.hid (Below.step HBwt_153.out bt_169)
                                    replace Ot_5 := Lib.hid (own_below Ot_5.out bt_169)
                                    replace Omoved_12l0 := Lib.hid (own_below Omoved_12l0.out bt_169)
                                    replace Ot_115a := Lib.hid (own_below Ot_115a.out bt_169)
                                    replace Ot_115b := Lib.hid (own_below Ot_115b.out bt_169)
                                    clear bt_169
                                    replace H := bind2_hid H
                                    obtain ⟨t_177a, t_177b, qt_177, H⟩ := H
                                    go_wp2_with fail
                                    go_at_call 15
                                    refine (Go.Proofs.Ytbpjhmhnicfdfaa.GiMissingHoles.C fuel (t_169a) (t_169b) At_169a ct_169a _   (Lib.hid (own_cells Ot_169a.out)) (Lib.hid (own_max Ot_169a.out)) qt_177).mono ?_
                                    rintro e_t_177 wt_177 ⟨rfl, bt_177⟩
                                    have HBwt_177 := Lib.hid (Below.step HBwt_169.out bt_177)
                                    replace Ot_5 := Lib.hid (own_below Ot_5.out bt_177)
                                    replace Omoved_12l0 := Lib.hid (own_below Omoved_12l0.out bt_177)
                                    replace Ot_115a := Lib.hid (own_below Ot_115a.out bt_177)
                                    replace Ot_115b := Lib.hid (own_below Ot_115b.out bt_177)
                                    replace Ot_169a := Lib.hid (own_below Ot_169a.out bt_177)
                                    clear bt_177
                                    replace H := bind2_hid H
                                    obtain ⟨t_185a, t_185b, qt_185, H⟩ := H
                                    go_wp2_with fail
                                    go_at_call 16
                                    refine (Go.Proofs.Ytbpjhmhnicfdfaa.GsMissingHoles.C fuel (t_169a) (t_169b) At_169a ct_169a _   (Lib.hid (own_cells Ot_169a.out)) (Lib.hid (own_max Ot_169a.out)) qt_185).mono ?_
                                    rintro e_t_185 wt_185 ⟨rfl, bt_185⟩
                                    have HBwt_185 := Lib.hid (Below.step HBwt_177.out bt_185)
                                    replace Ot_5 := Lib.hid (own_below Ot_5.out bt_185)
                                    replace Omoved_12l0 := Lib.hid (own_below Omoved_12l0.out bt_185)
                                    replace Ot_115a := Lib.hid (own_below Ot_115a.out bt_185)
                                    replace Ot_115b := Lib.hid (own_below Ot_115b.out bt_185)
                                    replace Ot_169a := Lib.hid (own_below Ot_169a.out bt_185)
                                    clear bt_185
                                    replace H := let_hid H
                                    obtain ⟨t_193, ht_193, H⟩ := H
                                    replace H := join_hid H
                                    cases t_193 with
                                    | false =>
                                      replace H := ite_f H
                                      replace H := let_hid H
                                      obtain ⟨t_197, ht_197, H⟩ := H
                                      replace H := app_hid H
                                      replace H := join_hid H
                                      cases t_197 with
                                      | false =>
                                        replace H := ite_f H
                                        replace H := let_hid H
                                        obtain ⟨t_201, ht_201, H⟩ := H
                                        replace H := app_hid H
                                        cases t_201 with
                                        | false =>
                                          replace H := ite_f H
                                          replace H := bind2_hid H
                                          obtain ⟨t_205a, t_205b, qt_205, H⟩ := H
                                          go_wp2_with fail
                                          go_at_call 17
                                          refine (Go.Proofs.Ytbpjhmhnicfdfaa.GsDrawHolesOn.C tapes (code) A0 c0 _  HE (Lib.hid (Cells.below M0.out HBwt_185.out)) N0 V0 qt_205).mono ?_
                                          rintro e_t_205 wt_205 ⟨rfl, bt_205⟩
                                          have HBwt_205 := Lib.hid (Below.step HBwt_185.out bt_205)
                                          replace Ot_5 := Lib.hid (own_below Ot_5.out bt_205)
                                          replace Omoved_12l0 := Lib.hid (own_below Omoved_12l0.out bt_205)
                                          replace Ot_115a := Lib.hid (own_below Ot_115a.out bt_205)
                                          replace Ot_115b := Lib.hid (own_below Ot_115b.out bt_205)
                                          replace Ot_169a := Lib.hid (own_below Ot_169a.out bt_205)
                                          clear bt_205
                                          replace H := bind2_hid H
                                          obtain ⟨t_213a, t_213b, qt_213, H⟩ := H
                                          go_wp2_with fail
                                          go_at_call 18
                                          refine (Go.Proofs.Ytbpjhmhnicfdfaa.GiHolesOn.C (t_205a) (t_205b)  _    qt_213).mono ?_
                                          rintro e_t_213 wt_213 ⟨rfl, bt_213⟩
                                          have HBwt_213 := Lib.hid (Below.step HBwt_205.out bt_213)
                                          replace Ot_5 := Lib.hid (own_below Ot_5.out bt_213)
                                          replace Omoved_12l0 := Lib.hid (own_below Omoved_12l0.out bt_213)
                                          replace Ot_115a := Lib.hid (own_below Ot_115a.out bt_213)
                                          replace Ot_115b := Lib.hid (own_below Ot_115b.out bt_213)
                                          replace Ot_169a := Lib.hid (own_below Ot_169a.out bt_213)
                                          clear bt_213
                                          replace H := bind2_hid H
                                          obtain ⟨t_221a, t_221b, qt_221, H⟩ := H
                                          go_wp2_with fail
                                          go_at_call 19
                                          refine (Go.Proofs.Ytbpjhmhnicfdfaa.GsHolesOn.C (t_205a) (t_205b)  _    qt_221).mono ?_
                                          rintro e_t_221 wt_221 ⟨rfl, bt_221⟩
                                          have HBwt_221 := Lib.hid (Below.step HBwt_213.out bt_221)
                                          replace Ot_5 := Lib.hid (own_below Ot_5.out bt_221)
                                          replace Omoved_12l0 := Lib.hid (own_below Omoved_12l0.out bt_221)
                                          replace Ot_115a := Lib.hid (own_below Ot_115a.out bt_221)
                                          replace Ot_115b := Lib.hid (own_below Ot_115b.out bt_221)
                                          replace Ot_169a := Lib.hid (own_below Ot_169a.out bt_221)
                                          clear bt_221
                                          replace H := let_hid H
                                          obtain ⟨t_229, ht_229, H⟩ := H
                                          replace H := join_hid H
                                          cases t_229 with
                                          | false =>
                                            replace H := ite_f H
                                            replace H := app_hid H
                                            obtain rfl := ret_hid H
                                            go_wp2_with fail
                                            go_ret
                                            exact ⟨rfl, HBwt_221.out⟩
                                          | true =>
                                            replace H := ite_t H
                                            replace H := let_hid H
                                            obtain ⟨t_233, ht_233, H⟩ := H
                                            replace H := app_hid H
                                            obtain rfl := ret_hid H
                                            go_wp2_with fail
                                            go_ret
                                            exact ⟨rfl, HBwt_221.out⟩
                                        | true =>
                                          replace H := ite_t H
                                          obtain rfl := ret_hid H
                                          go_wp2_with fail
                                          go_ret
                                          exact ⟨rfl, HBwt_185.out⟩
                                      | true =>
                                        replace H := ite_t H
                                        replace H := app_hid H
                                        replace H := ite_t H
                                        obtain rfl := ret_hid H
                                        go_wp2_with fail
                                        go_ret
                                        exact ⟨rfl, HBwt_185.out⟩
                                    | true =>
                                      replace H := ite_t H
                                      replace H := app_hid H
                                      replace H := join_hid H
                                      replace H := ite_t H
                                      replace H := app_hid H
                                      replace H := ite_t H
                                      obtain rfl := ret_hid H
                                      go_wp2_with fail
                                      go_ret
                                      exact ⟨rfl, HBwt_185.out⟩
                                  | true =>
                                    replace H := ite_t H
                                    obtain rfl := ret_hid H
                                    go_wp2_with fail
                                    go_ret
                                    exact ⟨rfl, HBwt_153.out⟩
                                | true =>
                                  replace H := ite_t H
                                  replace H := app_hid H
                                  replace H := ite_t H
                                  obtain rfl := ret_hid H
                                  go_wp2_with fail
                                  go_ret
                                  exact ⟨rfl, HBwt_153.out⟩
                              | true =>
                                replace H := ite_t H
                                obtain rfl := ret_hid H
                                go_wp2_with fail
                                go_ret
                                exact ⟨rfl, HBwt_135.out⟩
                            | true =>
                              replace H := ite_t H
                              replace H := app_hid H
                              replace H := ite_t H
                              obtain rfl := ret_hid H
                              go_wp2_with fail
                              go_ret
                              exact ⟨rfl, HBwt_135.out⟩
                          | true =>
                            replace H := ite_t H
                            obtain rfl := ret_hid H
                            go_wp2_with fail
                            go_ret
                            exact ⟨rfl, HBwt_91.out⟩
                        | true =>
                          replace H := ite_t H
                          replace H := app_hid H
                          replace H := ite_t H
                          obtain rfl := ret_hid H
                          go_wp2_with fail
                          go_ret
                          exact ⟨rfl, HBwt_91.out⟩
                  | succ m0 =>
                    have hlt0 : k0 < t_5.length := by omega
                    have hc0 : decide ((k0 : Int) < ((t_5.length : Nat) : Int)) = true := by simp; omega
                    replace H := cnt_succ H
                    unfold l0 at H
                    replace H := let_hid H
                    obtain ⟨_, rfl, H⟩ := H
                    replace H := idx_hid H
                    obtain ⟨nt_73, yt_73, et_73, lt_73, gt_73, H⟩ := H
                    obtain rfl : k0 = nt_73 := by omega
                    clear et_73
                    obtain ⟨ab_t_73, ao_t_73, zt_73, At_73, z_t_73, ct_73_0⟩ := Go.Proofs.Ytbpjhmhnicfdfaa.HelpInt.Ints.at_ (own_cells Ot_5.out) (k := k0) (by omega)
                    obtain rfl := Option.some.inj (gt_73.out.symm.trans z_t_73)
                    simp only [Option.some.injEq, Addr.mk.injEq] at At_73
                    obtain ⟨rfl, rfl, _⟩ := At_73
                    clear z_t_73
                    simp only [Nat.zero_add] at ct_73_0
                    have b0t_73 : (0 : Int) ≤ (k0 : Int) := by omega
                    have b1t_73 : (k0 : Int) < ((t_5.length : Nat) : Int) := by omega
                    have b2t_73 : ((k0 : Int)).toNat = k0 := by omega
                    replace H := let_hid H
                    obtain ⟨t_75, ht_75, H⟩ := H
                    obtain ⟨w_t_76, hw_t_76⟩ : ∃ x, wr0.alloc (.cells #[.int .i64 t_75] 3) = x := ⟨_, rfl⟩
                    have bw_t_76 : Below wr0.heap.size wr0 w_t_76 := by rw [← hw_t_76]; exact (Below.refl _ _).alloc (Nat.le_refl _) _
                    have HBw_t_76 := Lib.hid (Below.step HBwr0.out bw_t_76)
                    have ct_73_0__12 := cell_below bw_t_76 ct_73_0
                    replace Ot_5 := Lib.hid (own_below Ot_5.out bw_t_76)
                    replace Omoved_12l0 := Lib.hid (own_below Omoved_12l0.out bw_t_76)
                    clear bw_t_76
                    replace H := guard_hid H
                    obtain ⟨hlt_77, H⟩ := H
                    replace H := let_hid H
                    obtain ⟨t_77, ht_77, H⟩ := H
                    have hht_77 := Lib.hid ht_77
                    clear ht_77
                    have hst_77 := HBw_t_76.out.size
                    go_wp2_with (at_builtin; refine wpList_append_own_at _ rfl _ _ 24 rfl w.heap.size 3 i0_3 (.int .i64 0) 1 8 Try.underlying24 hi_3 hz0_3 hz1_3 hz2_3 rfl (by decide) _ _ _ rfl Omoved_12l0.out ⟨wr0.heap.size, 0, none⟩ 1 1 [.int .i64 t_75] rfl rfl (news_new hw_t_76) (one_cells rfl) (by unfold maxLen; omega) (by omega) hst_77 ?_; intro vt_77 wt_77 ot_77 gt_77 zt_77 yt_77; clear zt_77; obtain ⟨qt_77, ct_77, rfl, pt_77⟩ := own_push hht_77.out (Go.Proofs.Ytbpjhmhnicfdfaa.HelpInt.iv_snoc _ _) rfl ot_77; have Pt_77 := Lib.hid pt_77; have Yt_77 := Lib.hid yt_77; have Gt_77 := Lib.hid gt_77; clear ot_77 gt_77 pt_77 yt_77; refine stop_in ?_)
                    refine stop_out ?_
                    have HBwt_77 := Lib.hid (HBw_t_76.out.grown Gt_77.out hst_77 (fun q hq => (Omoved_12l0.out.lt q hq).1))
                    clear hst_77
                    have Dt_77_t_5 : Hid (Apart (some ⟨qt_77, 0, none⟩) _) := Lib.hid (apart_app Dmoved_12l0_t_5.out (fun a_ ha_ => (own_lt Ot_5.out a_ ha_).2) Yt_77.out)
                    replace ct_73_0__12 := cell_other ct_73_0__12 Gt_77.out Dmoved_12l0_t_5.out
                    replace Ot_5 := Lib.hid (own_other Ot_5.out Gt_77.out Dmoved_12l0_t_5.out)
                    clear ct_73_0
                    clear Omoved_12l0 Yt_77 Gt_77
                    replace H := app_hid H
                    go_wp2_with fail
                    go_roundg m0
                    case measure => omega
                    case rel => exact ⟨k0 + 1, _, _, _, by omega, by go_num, rfl, H, HBwt_77, Pt_77, Ot_5, Lib.hid Dt_77_t_5.out⟩
          | true =>
            replace H := ite_t H
            obtain rfl := ret_hid H
            go_wp2_with fail
            go_ret
            exact ⟨rfl, HBwt_38.out⟩
        | true =>
          replace H := ite_t H
          replace H := app_hid H
          replace H := ite_t H
          obtain rfl := ret_hid H
          go_wp2_with fail
          go_ret
          exact ⟨rfl, HBwt_38.out⟩
      | true =>
        replace H := ite_t H
        obtain rfl := ret_hid H
        go_wp2_with fail
        go_ret
        exact ⟨rfl, HBwt_15.out⟩
    | true =>
      replace H := ite_t H
      replace H := app_hid H
      replace H := ite_t H
      obtain rfl := ret_hid H
      go_wp2_with fail
      go_ret
      exact ⟨rfl, HBwt_15.out⟩
  | true =>
    replace H := ite_t H
    obtain rfl := ret_hid H
    go_wp2_with fail
    go_ret
    exact ⟨rfl, HBwt_2.out⟩
end Go.Proofs.Ytbpjhmhnicfdfaa.GlFnTeeth

/- Plain words on stamps: what a stamp is, when one is valid, when a list of them is; the cells of a list of records. No condition. -/
namespace Go.Proofs.Ytbpjhmhnicfdfaa.PlainStamp
set_option linter.unusedVariables false

/-- a number lies in a..b -/
def inB (x a b : Int) : Bool := decide (a ≤ x ∧ x ≤ b)
theorem inB_yes {x a b : Int} (h1 : a ≤ x) (h2 : x ≤ b) : inB x a b = true := by unfold inB; exact decide_eq_true ⟨h1, h2⟩
theorem inB_of {x a b : Int} (h : inB x a b = true) : a ≤ x ∧ x ≤ b := by unfold inB at h; exact of_decide_eq_true h
theorem inB_no {x a b : Int} (h : x < a ∨ b < x) : inB x a b = false := by unfold inB; exact decide_eq_false (by omega)

structure St where
  id : Int
  face : Int
  color : Int
  year : Int
deriving DecidableEq

def St.cells (s : St) : List Value := [.int .i64 s.id, .int .i64 s.face, .int .i64 s.color, .int .i64 s.year]
def St.val (s : St) : Value := .agg #[.int .i64 s.id, .int .i64 s.face, .int .i64 s.color, .int .i64 s.year]
/-- each field fits an int -/
def St.fits (s : St) : Prop := (Lit.int .i64 s.id).wf = true ∧ (Lit.int .i64 s.face).wf = true ∧ (Lit.int .i64 s.color).wf = true ∧ (Lit.int .i64 s.year).wf = true

def okSt (s : St) : Bool := inB s.id 1 999 && inB s.face 0 9999 && inB s.color 0 99 && inB s.year 1840 2100
theorem okSt_yes {s : St} (h : okSt s = true) : (1 ≤ s.id ∧ s.id ≤ 999) ∧ (0 ≤ s.face ∧ s.face ≤ 9999) ∧ (0 ≤ s.color ∧ s.color ≤ 99) ∧ (1840 ≤ s.year ∧ s.year ≤ 2100) := by
  unfold okSt at h
  simp only [Bool.and_eq_true] at h
  exact ⟨inB_of h.1.1.1, inB_of h.1.1.2, inB_of h.1.2, inB_of h.2⟩

/-- the stamp at k is valid, and its id is above the one ahead of it -/
def okAt (l : List St) (k : Nat) : Bool :=
  match l[k]? with
  | none => true
  | some s => okSt s && (decide (k = 0) || (match l[k-1]? with | none => true | some r => decide (r.id < s.id)))
def okUp (l : List St) (k : Nat) : Bool := (List.range k).all (okAt l)
theorem okUp_zero (l : List St) : okUp l 0 = true := by simp [okUp]
theorem okUp_succ (l : List St) (k : Nat) : okUp l (k + 1) = (okUp l k && okAt l k) := by simp [okUp, List.range_succ, List.all_append]
theorem okUp_not {l : List St} {k n : Nat} (h : okAt l k = false) (hk : k < n) : okUp l n = false := by
  unfold okUp
  rw [Bool.eq_false_iff]
  intro hall
  have := List.all_eq_true.1 hall k (List.mem_range.2 hk)
  rw [h] at this; exact absurd this (by simp)
/-- a list of at most twelve valid stamps with rising ids -/
def okSts (l : List St) : Bool := decide (l.length ≤ 12) && okUp l l.length
theorem okAt_of {l : List St} {k : Nat} {s : St} (hs : l[k]? = some s) (h : okAt l k = true) : okSt s = true ∧ ∀ r, 0 < k → l[k-1]? = some r → r.id < s.id := by
  unfold okAt at h
  rw [hs] at h
  simp only [Bool.and_eq_true, Bool.or_eq_true, decide_eq_true_eq] at h
  refine ⟨h.1, fun r hk hr => ?_⟩
  rcases h.2 with h0 | h0
  · omega
  · rw [hr] at h0; simpa using h0
theorem okSts_len {l : List St} (h : okSts l = true) : l.length ≤ 12 := by unfold okSts at h; simp only [Bool.and_eq_true, decide_eq_true_eq] at h; exact h.1
theorem okSts_at {l : List St} (h : okSts l = true) {k : Nat} {s : St} (hs : l[k]? = some s) : okSt s = true ∧ ∀ r, 0 < k → l[k-1]? = some r → r.id < s.id := by
  unfold okSts at h
  simp only [Bool.and_eq_true, decide_eq_true_eq] at h
  exact okAt_of hs (List.all_eq_true.1 h.2 k (List.mem_range.2 (List.getElem?_eq_some_iff.1 hs).1))
theorem okSts_mem {l : List St} (h : okSts l = true) {s : St} (hs : s ∈ l) : okSt s = true := by
  obtain ⟨k, hk⟩ := List.getElem?_of_mem hs
  exact (okSts_at h hk).1

/-- the cells of a list of stamps, one after the other -/
def flat (l : List St) : List Value := l.flatMap St.cells
theorem flat_nil : flat [] = [] := rfl
theorem flat_cons (s : St) (l : List St) : flat (s :: l) = s.cells ++ flat l := by simp [flat]
theorem flat_len (l : List St) : (flat l).length = l.length * 4 := by
  induction l with
  | nil => rfl
  | cons s l ih => rw [flat_cons, List.length_append, ih]; simp [St.cells]; omega
theorem flat_at : ∀ (l : List St) (k : Nat) (s : St), l[k]? = some s → ∀ j, j < 4 → (flat l)[k * 4 + j]? = s.cells[j]?
  | [], k, s, h, _, _ => by simp at h
  | r :: l, 0, s, h, j, hj => by
    obtain rfl : r = s := by simpa using h
    rw [flat_cons, List.getElem?_append_left (by simp [St.cells]; omega)]; simp
  | r :: l, k + 1, s, h, j, hj => by
    rw [flat_cons, List.getElem?_append_right (by simp [St.cells]; omega), show (k + 1) * 4 + j - r.cells.length = k * 4 + j by simp [St.cells]; omega]
    exact flat_at l k s (by simpa using h) j hj
end Go.Proofs.Ytbpjhmhnicfdfaa.PlainStamp

/- Words for reckoning with plain functions; within and l1In. No condition. -/
namespace Go.Proofs.Ytbpjhmhnicfdfaa.QBase
set_option linter.unusedVariables false
set_option linter.unusedSimpArgs false
open Go.RowKit
open Go.Proofs.Ytbpjhmhnicfdfaa.GoP Go.Proofs.Ytbpjhmhnicfdfaa.PlainStamp

theorem iteK_if {ρ : Type} (c : Bool) (a b : Option ρ) : iteK c a b = if c = true then a else b := by cases c <;> rfl
theorem bind2_some {α β ρ : Type} (a : α) (b : β) (f : α → β → Option ρ) : bind2 (some (a, b)) f = f a b := rfl
theorem bind3_some {α β γ ρ : Type} (a : α) (b : β) (c : γ) (f : α → β → γ → Option ρ) : bind3 (some (a, b, c)) f = f a b c := rfl
theorem unp2_mk {α β ρ : Type} (a : α) (b : β) (f : α → β → Option ρ) : unp2 (a, b) f = f a b := rfl
theorem unp3_mk {α β γ ρ : Type} (a : α) (b : β) (c : γ) (f : α → β → γ → Option ρ) : unp3 (a, b, c) f = f a b c := rfl
theorem guardK_pos {ρ : Type} {p : Prop} [Decidable p] {a : Option ρ} (h : p) : guardK p a = a := if_pos h
theorem cut2 {α β : Type} {x : Option (α × β)} {p : α × β} (h : x = some p) : x = some (p.1, p.2) := h
theorem cut3 {α β γ : Type} {x : Option (α × β × γ)} {p : α × β × γ} (h : x = some p) : x = some (p.1, p.2.1, p.2.2) := h
theorem within_eq (n a b : Int) : GiWithin.P n a b = some (inB n a b) := by
  simp only [GiWithin.P, letK, joinK, appK, iteK_if, inB]
  by_cases h1 : a ≤ n <;> by_cases h2 : n ≤ b <;> simp [h1, h2]
theorem l1In_eq (n a b : Int) : GsL1In.P n a b = some (inB n a b) := by
  simp only [GsL1In.P, letK, joinK, appK, iteK_if, inB]
  by_cases h1 : a ≤ n <;> by_cases h2 : n ≤ b <;> simp [h1, h2]
end Go.Proofs.Ytbpjhmhnicfdfaa.QBase

/- Reckoning with the loops of plain functions; lists of valid records with rising ids. No condition. -/
namespace Go.Proofs.Ytbpjhmhnicfdfaa.QLoop
set_option linter.unusedVariables false
open Go.RowKit
open Go.Proofs.Ytbpjhmhnicfdfaa.GoP Go.Proofs.Ytbpjhmhnicfdfaa.QBase

theorem cnt_ex {σ ρ : Type} {f : Nat → σ → (σ → Option ρ) → (σ → Option ρ) → Option ρ} {fin : σ → Option ρ} {Q : ρ → Prop} {n : Nat} (I : Nat → σ → Prop)
    (step : ∀ k s nx, k < n → I k s → (∀ s', I (k + 1) s' → ∃ r, nx s' = some r ∧ Q r) → ∃ r, f k s nx fin = some r ∧ Q r) (done : ∀ s, I n s → ∃ r, fin s = some r ∧ Q r) :
    ∀ m k s, k + m = n → I k s → ∃ r, cntK f m k s fin = some r ∧ Q r := by
  intro m
  induction m with
  | zero => intro k s hk hI; obtain rfl : k = n := by omega
            exact done s hI
  | succ m ih => intro k s hk hI; exact step k s _ (by omega) hI (fun s' h' => ih (k + 1) s' (by omega) h')
theorem cnt_is {σ ρ : Type} {f : Nat → σ → (σ → Option ρ) → (σ → Option ρ) → Option ρ} {fin : σ → Option ρ} {n : Nat} (r : ρ) (I : Nat → σ → Prop)
    (step : ∀ k s nx, k < n → I k s → (∀ s', I (k + 1) s' → nx s' = some r) → f k s nx fin = some r) (done : ∀ s, I n s → fin s = some r) (s : σ) (h0 : I 0 s) : cntK f n 0 s fin = some r := by
  obtain ⟨r', h, rfl⟩ := cnt_ex (Q := fun x => x = r) I (fun k s nx hk hI hn => ⟨r, step k s nx hk hI (fun s' h' => by obtain ⟨_, h, rfl⟩ := hn s' h'; exact h), rfl⟩) (fun s h => ⟨r, done s h, rfl⟩) n 0 s (by omega) h0
  exact h
theorem at_lt {α : Type} {l : List α} {k : Nat} (h : k < l.length) : ∃ x, l[k]? = some x ∧ idx l (k : Int) = some x := ⟨l[k], List.getElem?_eq_getElem h, by rw [idx_nat, List.getElem?_eq_getElem h]⟩
theorem idx_pred {α : Type} {l : List α} {k : Nat} {x : α} (hk : 0 < k) (hb : k ≤ 9223372036854775807) (h : l[k - 1]? = some x) : idx l (IntKind.i64.wrap ((k : Int) - 1)) = some x := by
  rw [IntWalk.i64_in _ (by omega), show ((k : Int) - 1) = ((k - 1 : Nat) : Int) by omega, idx_nat, h]
theorem take_next {α : Type} {l : List α} {k : Nat} {x : α} (h : l[k]? = some x) : l.take (k + 1) = l.take k ++ [x] := by
  obtain ⟨hk, e⟩ := List.getElem?_eq_some_iff.1 h
  rw [List.take_succ_eq_append_getElem hk, e]
theorem all_next {α : Type} {p : α → Bool} {l : List α} {k : Nat} {x : α} (h : l[k]? = some x) : (l.take (k + 1)).all p = ((l.take k).all p && p x) := by
  rw [take_next h]; simp
theorem not_all {α : Type} {p : α → Bool} {l : List α} {k : Nat} {x : α} (h : l[k]? = some x) (hp : p x = false) : l.all p = false := by
  rw [Bool.eq_false_iff]
  intro ha
  have := List.all_eq_true.1 ha x (List.mem_of_getElem? h)
  rw [hp] at this; exact absurd this (by simp)
theorem wrap_in {x : Int} (h1 : -9223372036854775808 ≤ x) (h2 : x ≤ 9223372036854775807) : IntKind.i64.wrap x = x := IntWalk.i64_in _ (by omega)

/-- valid, and above the one ahead of it -/
def upAt {α : Type} (ok : α → Bool) (id : α → Int) (l : List α) (k : Nat) : Bool :=
  match l[k]? with
  | none => true
  | some s => ok s && (decide (k = 0) || (match l[k-1]? with | none => true | some r => decide (id r < id s)))
def upTo {α : Type} (ok : α → Bool) (id : α → Int) (l : List α) (k : Nat) : Bool := (List.range k).all (upAt ok id l)
theorem upTo_zero {α : Type} (ok : α → Bool) (id : α → Int) (l : List α) : upTo ok id l 0 = true := rfl
theorem upTo_succ {α : Type} (ok : α → Bool) (id : α → Int) (l : List α) (k : Nat) : upTo ok id l (k + 1) = (upTo ok id l k && upAt ok id l k) := by simp [upTo, List.range_succ, List.all_append]
theorem upTo_not {α : Type} {ok : α → Bool} {id : α → Int} {l : List α} {k n : Nat} (h : upAt ok id l k = false) (hk : k < n) : upTo ok id l n = false := by
  unfold upTo
  rw [Bool.eq_false_iff]
  intro ha
  have := List.all_eq_true.1 ha k (List.mem_range.2 hk)
  rw [h] at this; exact absurd this (by simp)
/-- a list of at most m valid records with rising ids -/
def upL {α : Type} (m : Nat) (ok : α → Bool) (id : α → Int) (l : List α) : Bool := decide (l.length ≤ m) && upTo ok id l l.length
theorem upAt_bad {α : Type} {ok : α → Bool} {id : α → Int} {l : List α} {k : Nat} {s : α} (hs : l[k]? = some s) (h : ok s = false) : upAt ok id l k = false := by unfold upAt; rw [hs]; simp [h]
theorem upAt_first {α : Type} {ok : α → Bool} {id : α → Int} {l : List α} {s : α} (hs : l[0]? = some s) (h : ok s = true) : upAt ok id l 0 = true := by unfold upAt; rw [hs]; simp [h]
theorem upAt_next {α : Type} {ok : α → Bool} {id : α → Int} {l : List α} {k : Nat} {s r : α} (hs : l[k]? = some s) (hr : l[k-1]? = some r) (hk : 0 < k) (h : ok s = true) : upAt ok id l k = decide (id r < id s) := by
  unfold upAt; rw [hs]; simp only [hr, h, Bool.true_and, decide_eq_false (show ¬ k = 0 by omega), Bool.false_or]
theorem upL_len {α : Type} {m : Nat} {ok : α → Bool} {id : α → Int} {l : List α} (h : upL m ok id l = true) : l.length ≤ m := by unfold upL at h; simp only [Bool.and_eq_true, decide_eq_true_eq] at h; exact h.1
theorem upL_ok {α : Type} {m : Nat} {ok : α → Bool} {id : α → Int} {l : List α} (h : upL m ok id l = true) {k : Nat} {s : α} (hs : l[k]? = some s) : ok s = true := by
  unfold upL at h
  simp only [Bool.and_eq_true, decide_eq_true_eq] at h
  have := List.all_eq_true.1 h.2 k (List.mem_range.2 (List.getElem?_eq_some_iff.1 hs).1)
  unfold upAt at this
  rw [hs] at this
  simp only [Bool.and_eq_true] at this
  exact this.1
theorem upL_mem {α : Type} {m : Nat} {ok : α → Bool} {id : α → Int} {l : List α} (h : upL m ok id l = true) {s : α} (hs : s ∈ l) : ok s = true := by
  obtain ⟨k, hk⟩ := List.getElem?_of_mem hs
  exact upL_ok h hk
/-- a loop that goes through a list of records and stops with 'false' at the first that is bad -/
theorem up_loop {α : Type} {ok : α → Bool} {id : α → Int} {l : List α} {R : Type} {no : R} {f : Nat → Unit → (Unit → Option R) → (Unit → Option R) → Option R} {fin : Unit → Option R}
    (step : ∀ k nx s, l[k]? = some s → (ok s = false → f k () nx fin = some no) ∧ (ok s = true → (k = 0 → f k () nx fin = nx ()) ∧ (0 < k → ∀ r, l[k-1]? = some r → (id r < id s → f k () nx fin = nx ()) ∧ (id s ≤ id r → f k () nx fin = some no)))) :
    cntK f l.length 0 () fin = if upTo ok id l l.length then fin () else some no := by
  have key : ∀ m k, k + m = l.length → upTo ok id l k = true → cntK f m k () fin = if upTo ok id l l.length then fin () else some no := by
    intro m
    induction m with
    | zero => intro k hk hu; obtain rfl : k = l.length := by omega
              rw [hu]; rfl
    | succ m ih =>
      intro k hk hu
      have hlt : k < l.length := by omega
      obtain ⟨s, hs, _⟩ := at_lt hlt
      obtain ⟨h1, h2⟩ := step k (fun s' => cntK f m (k + 1) s' fin) s hs
      show f k () _ fin = _
      cases hok : ok s with
      | false => rw [h1 hok, upTo_not (upAt_bad hs hok) hlt]; rfl
      | true =>
        obtain ⟨h3, h4⟩ := h2 hok
        by_cases hk0 : k = 0
        · rw [h3 hk0]
          subst hk0
          exact ih 1 (by omega) (by rw [upTo_succ, hu, upAt_first hs hok]; rfl)
        · obtain ⟨r, hr, _⟩ := at_lt (l := l) (k := k - 1) (by omega)
          obtain ⟨h5, h6⟩ := h4 (by omega) r hr
          by_cases hlt2 : id r < id s
          · rw [h5 hlt2]
            exact ih (k + 1) (by omega) (by rw [upTo_succ, hu, upAt_next hs hr (by omega) hok]; simpa using hlt2)
          · rw [h6 (by omega), upTo_not (by rw [upAt_next hs hr (by omega) hok]; simpa using hlt2) hlt]; rfl
  exact key l.length 0 (by omega) (upTo_zero ok id l)
end Go.Proofs.Ytbpjhmhnicfdfaa.QLoop

/- Loops that test each place, and loops without a count. No condition. -/
namespace Go.Proofs.Ytbpjhmhnicfdfaa.QAll
set_option linter.unusedVariables false
set_option linter.unusedSimpArgs false
open Go.RowKit
open Go.Proofs.Ytbpjhmhnicfdfaa.GoP Go.Proofs.Ytbpjhmhnicfdfaa.QBase Go.Proofs.Ytbpjhmhnicfdfaa.QLoop

/-- each number below n is good -/
def allN (n : Nat) (p : Nat → Bool) : Bool := (List.range n).all p
theorem allN_iff {n : Nat} {p : Nat → Bool} : allN n p = true ↔ ∀ i, i < n → p i = true := by unfold allN; simp
theorem allN_no {n k : Nat} {p : Nat → Bool} (hk : k < n) (h : p k = false) : allN n p = false := by
  rw [Bool.eq_false_iff]; intro ha; rw [allN_iff.1 ha k hk] at h; exact absurd h (by simp)
theorem allN_eq {n m : Nat} {p q : Nat → Bool} (h : (∀ i, i < n → p i = true) ↔ (∀ i, i < m → q i = true)) : allN n p = allN m q := by
  rw [Bool.eq_iff_iff, allN_iff, allN_iff]; exact h
theorem all_cnt {ρ : Type} {n : Nat} {p : Nat → Bool} {no : ρ} {f : Nat → Unit → (Unit → Option ρ) → (Unit → Option ρ) → Option ρ} {fin : Unit → Option ρ}
    (step : ∀ k nx, k < n → (p k = false → f k () nx fin = some no) ∧ (p k = true → f k () nx fin = nx ())) : cntK f n 0 () fin = if allN n p = true then fin () else some no := by
  have key : ∀ m k, k + m = n → (∀ i, i < k → p i = true) → cntK f m k () fin = if allN n p = true then fin () else some no := by
    intro m
    induction m with
    | zero => intro k hk hu; obtain rfl : k = n := by omega
              rw [allN_iff.2 hu]; rfl
    | succ m ih =>
      intro k hk hu
      obtain ⟨h1, h2⟩ := step k (fun s' => cntK f m (k + 1) s' fin) (by omega)
      show f k () _ fin = _
      cases hp : p k with
      | false => rw [h1 hp, allN_no (by omega) hp]; rfl
      | true =>
        rw [h2 hp]
        refine ih (k + 1) (by omega) (fun i hi => ?_)
        by_cases he : i = k
        · rw [he]; exact hp
        · exact hu i (by omega)
  exact key n 0 (by omega) (fun i hi => by omega)
theorem lp_ex {σ ρ : Type} {f : σ → (σ → Option ρ) → (σ → Option ρ) → Option ρ} {fin : σ → Option ρ} {Q : ρ → Prop} {n : Nat} (I : Nat → σ → Prop)
    (step : ∀ k s nx, k < n → I k s → (∀ s', I (k + 1) s' → ∃ r, nx s' = some r ∧ Q r) → ∃ r, f s nx fin = some r ∧ Q r) (done : ∀ s nx, I n s → ∃ r, f s nx fin = some r ∧ Q r) :
    ∀ fuel k s, k ≤ n → n - k < fuel → I k s → ∃ r, loopK f fuel s fin = some r ∧ Q r := by
  intro fuel
  induction fuel with
  | zero => intro k s hk hf; omega
  | succ m ih =>
    intro k s hk hf hI
    show ∃ r, f s _ fin = some r ∧ Q r
    by_cases he : k = n
    · subst he; exact done s _ hI
    · exact step k s _ (by omega) hI (fun s' h' => ih (k + 1) s' (by omega) (by omega) h')
theorem all_lp {ρ : Type} {n : Nat} {p : Nat → Bool} {no : ρ} {f : Int → (Int → Option ρ) → (Int → Option ρ) → Option ρ} {fin : Int → Option ρ}
    (step : ∀ (k : Nat) nx, k < n → (p k = false → f (k : Int) nx fin = some no) ∧ (p k = true → f (k : Int) nx fin = nx ((k + 1 : Nat) : Int))) (stop : ∀ nx, f (n : Int) nx fin = fin (n : Int))
    (fuel : Nat) (hf : n < fuel) : loopK f fuel 0 fin = if allN n p = true then fin (n : Int) else some no := by
  have key : ∀ fuel k, k ≤ n → n - k < fuel → (∀ i, i < k → p i = true) → loopK f fuel (k : Int) fin = if allN n p = true then fin (n : Int) else some no := by
    intro fuel
    induction fuel with
    | zero => intro k hk hf; omega
    | succ m ih =>
      intro k hk hf hu
      show f (k : Int) _ fin = _
      by_cases he : k = n
      · subst he; rw [stop, allN_iff.2 hu]; rfl
      · obtain ⟨h1, h2⟩ := step k (fun s' => loopK f m s' fin) (by omega)
        cases hp : p k with
        | false => rw [h1 hp, allN_no (by omega) hp]; rfl
        | true =>
          rw [h2 hp]
          refine ih (k + 1) (by omega) (by omega) (fun i hi => ?_)
          by_cases he : i = k
          · rw [he]; exact hp
          · exact hu i (by omega)
  exact key fuel 0 (by omega) (by omega) (fun i hi => by omega)
theorem next_i {k : Nat} (h : k ≤ 9223372036854775806) : IntKind.i64.wrap ((k : Int) + 1) = ((k + 1 : Nat) : Int) := by rw [wrap_in (by omega) (by omega)]; omega
end Go.Proofs.Ytbpjhmhnicfdfaa.QAll

/- Draws on tapes: each gives something within its bounds. (QDraw) No condition but those of each theorem. -/
namespace Go.Proofs.Ytbpjhmhnicfdfaa.QDraw
set_option linter.unusedVariables false
set_option linter.unusedSimpArgs false
open Go.RowKit
open Go.Proofs.Ytbpjhmhnicfdfaa.GoP Go.Proofs.Ytbpjhmhnicfdfaa.PlainStamp Go.Proofs.Ytbpjhmhnicfdfaa.QBase Go.Proofs.Ytbpjhmhnicfdfaa.QLoop

/-- a tape that may be asked m times more -/
def good (t : GoC.Tape) (m : Nat) : Prop := m ≤ t.left ∧ ∀ i, 0 ≤ t.vals i ∧ t.vals i ≤ 255
theorem good_less {t : GoC.Tape} {m n : Nat} (h : good t m) (hn : n ≤ m) : good t n := ⟨Nat.le_trans hn h.1, h.2⟩
theorem good_of {tapes : List Int → GoC.Tape} (h : GoC.Tells tapes) (code : List Int) {m : Nat} (hm : m ≤ 4611686018427387904) : good (tapes code) m := ⟨by rw [h.1]; exact hm, h.2.1 code⟩
theorem next_ok {t : GoC.Tape} {m : Nat} (h : good t (m + 1)) : ∃ b t', GsL1CurNext.P t = some (b, t') ∧ (0 ≤ b ∧ b ≤ 255) ∧ good t' m := by
  unfold GsL1CurNext.P
  rw [if_pos (by have := h.1; omega)]
  exact ⟨_, _, rfl, h.2 0, by have := h.1; show m ≤ t.left - 1; omega, fun i => h.2 (i + 1)⟩
theorem pick_ok {t : GoC.Tape} {m : Nat} {n : Int} (h : good t (m + 2)) : ∃ x t', GsL1CurPick.P t n = some (x, t') ∧ 0 ≤ x ∧ (x < n ∨ n ≤ 1 ∧ x = 0) ∧ x ≤ 65535 ∧ good t' m := by
  simp only [GsL1CurPick.P, letK, iteK_if]
  by_cases hn : n ≤ 1
  · rw [if_pos (by simpa using hn)]
    exact ⟨0, t, rfl, by omega, by omega, by omega, good_less h (by omega)⟩
  · rw [if_neg (by simpa using hn)]
    obtain ⟨b, t1, e1, hb, h1⟩ := next_ok (m := m + 1) h
    rw [e1]
    simp only [bind2_some]
    by_cases h2 : 200 < n
    · rw [if_pos (by simpa using h2)]
      obtain ⟨b2, t2, e2, hb2, h3⟩ := next_ok (m := m) h1
      rw [e2]
      simp only [bind2_some, GsL1CurPick.j0, unp2, letK]
      rw [guardK_pos (by omega), wrap_in (x := b * 256) (by omega) (by omega), wrap_in (by omega) (by omega), Int.tmod_eq_emod_of_nonneg (by omega)]
      have k1 := Int.emod_nonneg (b * 256 + b2) (show n ≠ 0 by omega)
      have k2 := Int.emod_lt_of_pos (b * 256 + b2) (show 0 < n by omega)
      have k3 : (b * 256 + b2) % n ≤ 65535 := by
        by_cases hq : n ≤ 65536
        · omega
        · rw [Int.emod_eq_of_lt (by omega) (by omega)]; omega
      exact ⟨_, _, rfl, k1, .inl k2, by omega, h3⟩
    · rw [if_neg (by simpa using h2)]
      simp only [GsL1CurPick.j0, unp2, letK]
      rw [guardK_pos (by omega), Int.tmod_eq_emod_of_nonneg (by omega)]
      have k1 := Int.emod_nonneg b (show n ≠ 0 by omega)
      have k2 := Int.emod_lt_of_pos b (show 0 < n by omega)
      exact ⟨_, _, rfl, k1, .inl k2, by omega, good_less h1 (by omega)⟩
theorem among_ok {t : GoC.Tape} {m : Nat} {l : List Int} (h : good t (m + 2)) (h0 : 0 < l.length) : ∃ x t', GsL1CurAmong.P t l = some (x, t') ∧ x ∈ l ∧ good t' m := by
  obtain ⟨x, t', e, hx0, hx, _, hg⟩ := pick_ok (n := (l.length : Int)) h
  simp only [GsL1CurAmong.P, e, bind2_some]
  obtain ⟨y, hy, hyi⟩ := at_lt (l := l) (k := x.toNat) (by omega)
  rw [show ((x.toNat : Nat) : Int) = x by omega] at hyi
  exact ⟨y, t', by rw [hyi]; rfl, List.mem_of_getElem? hy, hg⟩
theorem one_ok {t : GoC.Tape} {m : Nat} {n : Int} (h : good t (m + 2)) : ∃ b t', GsL1CurOne.P t n = some (b, t') ∧ good t' m := by
  obtain ⟨x, t', e, _, _, _, hg⟩ := pick_ok (n := n) h
  exact ⟨x == 0, t', by simp only [GsL1CurOne.P, e, bind2_some, letK], hg⟩
end Go.Proofs.Ytbpjhmhnicfdfaa.QDraw

/- FnTeeth as a plain function answers true. (Q5Draws) No condition but those of each theorem. -/
namespace Go.Proofs.Ytbpjhmhnicfdfaa.Q5Draws
set_option linter.unusedVariables false
set_option linter.unusedSimpArgs false
open Go.RowKit
open Go.Proofs.Ytbpjhmhnicfdfaa.GoP Go.Proofs.Ytbpjhmhnicfdfaa.PlainStamp Go.Proofs.Ytbpjhmhnicfdfaa.QBase Go.Proofs.Ytbpjhmhnicfdfaa.QLoop Go.Proofs.Ytbpjhmhnicfdfaa.QAll Go.Proofs.Ytbpjhmhnicfdfaa.QDraw

theorem gauge5_ok {t : GoC.Tape} {m : Nat} (h : good t (m + 2)) : ∃ x t', GsL1CurGauge5.P t = some (x, t') ∧ good t' m := by
  obtain ⟨x, t', e, _, hg⟩ := among_ok (l := [500, 1100, 1150, 1175, 1200, 1400, 2000]) h (by simp)
  exact ⟨x, t', by simp only [GsL1CurGauge5.P, letK, e, bind2_some], hg⟩
theorem ask5_ok {t : GoC.Tape} {m : Nat} (h : good t (m + 6)) : ∃ x t', GsL1CurAsk5.P t = some (x, t') ∧ good t' m := by
  obtain ⟨b, t1, e1, h1⟩ := one_ok (n := 8) (m := m + 4) h
  simp only [GsL1CurAsk5.P, e1, bind2_some, letK, iteK_if]
  cases b with
  | true =>
    obtain ⟨x, t2, e2, _, h2⟩ := among_ok (l := [0, 0, 499, 2001]) (m := m + 2) h1 (by simp)
    exact ⟨x, t2, by simp [e2, bind2], good_less h2 (by omega)⟩
  | false =>
    obtain ⟨x, t2, e2, h2⟩ := gauge5_ok (m := m + 2) h1
    obtain ⟨y, t3, e3, _, h3⟩ := among_ok (l := [0, 0, 10, 25, (-25)]) (m := m) h2 (by simp)
    exact ⟨IntKind.i64.wrap (x + y), t3, by simp only [Bool.false_eq_true, if_false, e2, e3, bind2_some], h3⟩
theorem fill_ok {t : GoC.Tape} {m : Nat} (fuel : Nat) (hf : 1048577 ≤ fuel) (h : good t (m + 84)) : ∃ r, loopK (GsL1CurHoles5.l1) fuel (([] : List Int), 0, t) (GsL1CurHoles5.e1) = some r ∧ (r.1.length ≤ 50 ∧ good r.2 m) := by
  refine lp_ex (n := 41) (fun k s => s.1.length = k ∧ s.2.1 = (k : Int) ∧ good s.2.2 (m + 84 - 2 * k)) ?_ ?_ fuel 0 _ (by omega) (by omega) ⟨rfl, rfl, h⟩
  · rintro k ⟨o, n, c⟩ nx hk ⟨h1, h2, h3⟩ hn
    dsimp only at h1 h2 h3
    obtain ⟨x, c1, e, hx0, hx, _, hg⟩ := pick_ok (n := 2) (m := m + 82 - 2 * k) (good_less h3 (by omega))
    simp only [GsL1CurHoles5.l1, unp3, e, bind2_some, letK, iteK_if]
    rw [wrap_in (x := 40 + x) (by omega) (by omega)]
    by_cases hc : n < 40 + x
    · rw [if_pos (by simpa using hc), guardK_pos (by omega), wrap_in (x := n + 1) (by omega) (by omega)]
      exact hn _ ⟨by simp [h1], by dsimp only; omega, good_less hg (by omega)⟩
    · rw [if_neg (by simpa using hc)]
      exact ⟨_, rfl, by dsimp only; omega, good_less hg (by omega)⟩
  · rintro ⟨o, n, c⟩ nx ⟨h1, h2, h3⟩
    dsimp only at h1 h2 h3
    obtain ⟨x, c1, e, hx0, hx, _, hg⟩ := pick_ok (n := 2) (m := m) (good_less h3 (by omega))
    simp only [GsL1CurHoles5.l1, unp3, e, bind2_some, letK, iteK_if]
    rw [wrap_in (x := 40 + x) (by omega) (by omega), if_neg (by simp; omega)]
    exact ⟨_, rfl, by dsimp only; omega, hg⟩
theorem end_ok {c : GoC.Tape} {m : Nat} (fuel : Nat) (hf : 1048577 ≤ fuel) {o : List Int} (at_ n : Int) (h2 : 2 ≤ o.length) (h14 : o.length ≤ 14) (h : good c (m + 86)) : ∃ r, GsL1CurHoles5.e0 fuel (o, at_, n, c) = some r ∧ (r.1.length ≤ 50 ∧ good r.2 m) := by
  obtain ⟨x, c1, e, hx0, hx, _, hg⟩ := pick_ok (n := 60) (m := m + 84) h
  simp only [GsL1CurHoles5.e0, unp4, e, bind2_some, letK, iteK_if]
  by_cases e0 : x = 0
  · obtain ⟨y, c2, e2, hy0, hy, _, hg2⟩ := pick_ok (n := 2) (m := m) (good_less hg (by omega))
    rw [if_pos (by simpa using e0), e2]
    simp only [bind2_some]
    rw [guardK_pos (by omega)]
    exact ⟨_, rfl, by dsimp only; rw [List.length_take]; omega, hg2⟩
  · rw [if_neg (by simpa using e0)]
    by_cases e1 : x = 1
    · obtain ⟨y, c2, e2, _, hg2⟩ := among_ok (l := [0, 10000, 9999]) (m := m) (good_less hg (by omega)) (by simp)
      rw [if_pos (by simpa using e1), e2]
      simp only [bind2_some]
      rw [guardK_pos (by omega)]
      exact ⟨_, rfl, by simp; omega, hg2⟩
    · rw [if_neg (by simpa using e1)]
      by_cases e3 : x = 2
      · rw [if_pos (by simpa using e3)]
        exact fill_ok fuel hf hg
      · rw [if_neg (by simpa using e3)]
        exact ⟨_, rfl, by dsimp only; omega, good_less hg (by omega)⟩
theorem holes5_ok {t : GoC.Tape} {m : Nat} (fuel : Nat) (hf : 1048577 ≤ fuel) (h : good t (m + 200)) : ∃ l t', GsL1CurHoles5.P fuel t = some (l, t') ∧ l.length ≤ 50 ∧ good t' m := by
  obtain ⟨⟨l, t'⟩, e, h1, h2⟩ : ∃ r, GsL1CurHoles5.P fuel t = some r ∧ (r.1.length ≤ 50 ∧ good r.2 m) := by
    obtain ⟨x, c1, e1, _, h1⟩ := among_ok (l := [100, 167, 174, 182, 400, 30]) (m := m + 198) h (by simp)
    obtain ⟨y, c2, e2, _, h2⟩ := among_ok (l := [0, 5, 100]) (m := m + 196) h1 (by simp)
    obtain ⟨z, c3, e3, hz0, hz, _, h3⟩ := pick_ok (n := 12) (m := m + 194) h2
    simp only [GsL1CurHoles5.P, letK, e1, e2, e3, bind2_some]
    rw [wrap_in (x := 2 + z) (by omega) (by omega)]
    obtain ⟨N, hN⟩ : ∃ N : Nat, 2 + z = (N : Int) := ⟨(2 + z).toNat, by omega⟩
    rw [hN]
    refine lp_ex (n := N) (fun k s => s.1.length = k ∧ s.2.2.1 = (N : Int) - (k : Int) ∧ good s.2.2.2 (m + 194 - 4 * k)) ?_ ?_ fuel 0 _ (by omega) (by omega) ⟨rfl, by dsimp only; omega, h3⟩
    · rintro k ⟨o, a, n, c⟩ nx hk ⟨g1, g2, g3⟩ hn
      dsimp only at g1 g2 g3
      obtain ⟨u, d1, f1, _, k1⟩ := among_ok (l := [(-5), 0, 0, 0, 5, 6]) (m := m + 192 - 4 * k) (good_less g3 (by omega)) (by simp)
      obtain ⟨b, d2, f2, k2⟩ := one_ok (n := 9) (m := m + 190 - 4 * k) (good_less k1 (by omega))
      have ht : decide ((0 : Int) < n) = true := by simp; omega
      simp only [GsL1CurHoles5.l0, unp4, letK, ht, iteK_if, if_true, f1, f2, bind2_some]
      rw [guardK_pos (by omega)]
      have e1 : IntKind.i64.wrap (n - 1) = n - 1 := wrap_in (by omega) (by omega)
      cases b with
      | true => rw [if_pos rfl, e1]; exact hn _ ⟨by simp [g1], by dsimp only; omega, good_less k2 (by omega)⟩
      | false => rw [if_neg (by simp), e1]; exact hn _ ⟨by simp [g1], by dsimp only; omega, good_less k2 (by omega)⟩
    · rintro ⟨o, a, n, c⟩ nx ⟨g1, g2, g3⟩
      dsimp only at g1 g2 g3
      have ht : decide ((0 : Int) < n) = false := by simp; omega
      simp only [GsL1CurHoles5.l0, unp4, letK, ht, iteK_if, Bool.false_eq_true, if_false, appK]
      exact end_ok fuel hf a n (by omega) (by omega) (good_less g3 (by omega))
  exact ⟨l, t', e, h1, h2⟩
theorem drawGauge_ok {tapes : List Int → GoC.Tape} (ht : GoC.Tells tapes) (code : List Int) (fuel : Nat) (hf : 1048577 ≤ fuel) : ∃ l, GsDrawGaugeOf.P fuel tapes code = some l ∧ l.length ≤ 50 := by
  obtain ⟨l, t', e, h, _⟩ := holes5_ok fuel hf (m := 0) (good_of ht code (by omega))
  exact ⟨l, by simp only [GsDrawGaugeOf.P, letK, e, bind2_some], h⟩
theorem drawMiss_ok {tapes : List Int → GoC.Tape} (ht : GoC.Tells tapes) (code : List Int) (fuel : Nat) (hf : 1048577 ≤ fuel) : ∃ l g, GsDrawMissingHoles.P fuel tapes code = some (l, g) ∧ l.length ≤ 50 := by
  obtain ⟨l, t', e, h, hg⟩ := holes5_ok fuel hf (m := 6) (good_of ht code (by omega))
  obtain ⟨x, t2, e2, _⟩ := ask5_ok (m := 0) hg
  exact ⟨l, x, by simp only [GsDrawMissingHoles.P, letK, e, e2, bind2_some], h⟩
theorem drawOn_ok {tapes : List Int → GoC.Tape} (ht : GoC.Tells tapes) (code : List Int) : ∃ n g, GsDrawHolesOn.P tapes code = some (n, g) := by
  obtain ⟨x, c1, e1, hx0, hx, _, h1⟩ := pick_ok (n := 24) (m := 8) (good_of ht code (by omega))
  have hd : 0 ≤ x / 11 ∧ x / 11 ≤ 2 := by omega
  simp only [GsDrawHolesOn.P, letK, e1, bind2_some]
  rw [Int.tdiv_eq_ediv_of_nonneg hx0, wrap_in (x := x / 11) (by omega) (by omega), wrap_in (x := 4 + x / 11) (by omega) (by omega), guardK_pos (by simp; omega)]
  obtain ⟨y, c2, e2, _, h2⟩ := among_ok (l := List.take (Int.toNat (4 + x / 11)) [500, 2000, 2500, 9999, 499, 10000]) (m := 6) h1 (by rw [List.length_take]; simp; omega)
  obtain ⟨z, c3, e3, _⟩ := ask5_ok (m := 0) h2
  exact ⟨y, z, by rw [e2]; simp only [bind2_some, e3]⟩
theorem pairEnd_ok {c : GoC.Tape} {a b : List Int} (h : good c 4) : ∃ o, GsDrawIsPair.j0 a (b, c) = some (a, b, o) := by
  obtain ⟨x, c1, e1, hx0, hx, _, h1⟩ := pick_ok (n := 24) (m := 2) h
  have hd : 0 ≤ x / 11 ∧ x / 11 ≤ 2 := by omega
  simp only [GsDrawIsPair.j0, unp2, letK, e1, bind2_some]
  rw [Int.tdiv_eq_ediv_of_nonneg hx0, wrap_in (x := x / 11) (by omega) (by omega), wrap_in (x := 5 + x / 11) (by omega) (by omega), guardK_pos (by simp; omega)]
  obtain ⟨y, c2, e2, _, h2⟩ := among_ok (l := List.take (Int.toNat (5 + x / 11)) [0, 1, 5, 10, 50, (-1), 51]) (m := 0) h1 (by rw [List.length_take]; simp; omega)
  exact ⟨y, by rw [e2]; rfl⟩
theorem drawPair_ok {tapes : List Int → GoC.Tape} (ht : GoC.Tells tapes) (code : List Int) (fuel : Nat) (hf : 1048577 ≤ fuel) : ∃ a b o, GsDrawIsPair.P fuel tapes code = some (a, b, o) ∧ a.length ≤ 50 ∧ b.length ≤ 50 := by
  obtain ⟨a, c1, e1, ha, h1⟩ := holes5_ok fuel hf (m := 400) (good_of ht code (by omega))
  obtain ⟨b, c2, e2, hb, h2⟩ := holes5_ok fuel hf (m := 200) h1
  obtain ⟨q, c3, e3, h3⟩ := one_ok (n := 3) (m := 198) h2
  simp only [GsDrawIsPair.P, letK, e1, e2, e3, bind2_some, iteK_if]
  cases q with
  | true =>
    obtain ⟨o, e4⟩ := pairEnd_ok (a := a) (b := b) (good_less h3 (by omega))
    exact ⟨a, b, o, by simp [e4], ha, hb⟩
  | false =>
    obtain ⟨s, c4, e4, _, h4⟩ := among_ok (l := [0, 7, 300]) (m := 196) h3 (by simp)
    simp only [Bool.not_false, if_true, e4, bind2_some]
    obtain ⟨⟨x, y, z⟩, e, r1, r2⟩ := cnt_ex (n := a.length) (Q := fun r : List Int × List Int × Int => r.1 = a ∧ r.2.1.length ≤ 50) (f := GsDrawIsPair.l0 a s) (fin := GsDrawIsPair.e0 code fuel tapes (tapes code) a c1 b c2 false c3 true [0, 7, 300] s c4) (fun k st => st.1.length = k ∧ good st.2 (196 - 2 * k)) (by
        rintro k ⟨l, c⟩ nx hk ⟨g1, g2⟩ hn
        dsimp only at g1 g2
        obtain ⟨v, hv, hvi⟩ := at_lt (l := a) (k := k) hk
        obtain ⟨u, d, f1, _, k1⟩ := among_ok (l := [0, 0, 0, 1, 9]) (m := 194 - 2 * k) (good_less g2 (by omega)) (by simp)
        simp only [GsDrawIsPair.l0, unp2, hvi, Option.bind_some, letK, f1, bind2_some]
        rw [guardK_pos (by omega)]
        exact hn _ ⟨by simp [g1], good_less k1 (by omega)⟩) (by
        rintro ⟨l, c⟩ ⟨g1, g2⟩
        dsimp only at g1 g2
        obtain ⟨o, e⟩ := pairEnd_ok (a := a) (b := l) (c := c) (good_less g2 (by omega))
        exact ⟨(a, l, o), by simp only [GsDrawIsPair.e0, unp2, e], rfl, by show l.length ≤ 50; omega⟩) a.length 0 ([], c4) (by omega) ⟨rfl, h4⟩
    dsimp only at r1 r2
    subst r1
    exact ⟨x, y, z, e, ha, r2⟩
end Go.Proofs.Ytbpjhmhnicfdfaa.Q5Draws

/- Rising rows: what a rising row gives; loops that sum; loops from one on. No condition. -/
namespace Go.Proofs.Ytbpjhmhnicfdfaa.QUp
set_option linter.unusedVariables false
set_option linter.unusedSimpArgs false
open Go.RowKit
open Go.Proofs.Ytbpjhmhnicfdfaa.GoP Go.Proofs.Ytbpjhmhnicfdfaa.QBase Go.Proofs.Ytbpjhmhnicfdfaa.QLoop Go.Proofs.Ytbpjhmhnicfdfaa.QAll

theorem upTo_at {α : Type} {ok : α → Bool} {id : α → Int} {l : List α} {n : Nat} (h : upTo ok id l n = true) {k : Nat} (hk : k < n) : upAt ok id l k = true := List.all_eq_true.1 h k (List.mem_range.2 hk)
theorem upTo_ok {α : Type} {ok : α → Bool} {id : α → Int} {l : List α} {n : Nat} (h : upTo ok id l n = true) {k : Nat} (hk : k < n) {x : α} (hx : l[k]? = some x) : ok x = true := by
  have := upTo_at h hk
  unfold upAt at this
  rw [hx] at this
  simp only [Bool.and_eq_true] at this
  exact this.1
theorem upTo_step {α : Type} {ok : α → Bool} {id : α → Int} {l : List α} {n : Nat} (h : upTo ok id l n = true) {k : Nat} (hk : k + 1 < n) {x y : α} (hx : l[k]? = some x) (hy : l[k + 1]? = some y) : id x < id y := by
  have := upTo_at h hk
  unfold upAt at this
  rw [hy] at this
  simp only [Nat.add_sub_cancel, hx, Bool.and_eq_true, Bool.or_eq_true, decide_eq_true_eq] at this
  rcases this.2 with h0 | h0
  · omega
  · exact h0
theorem upTo_lt {α : Type} {ok : α → Bool} {id : α → Int} {l : List α} {n : Nat} (h : upTo ok id l n = true) (hn : n ≤ l.length) {i : Nat} : ∀ d {x y : α}, i + d + 1 < n → l[i]? = some x → l[i + d + 1]? = some y → id x < id y := by
  intro d
  induction d with
  | zero => intro x y hk hx hy; exact upTo_step h hk hx hy
  | succ d ih =>
    intro x y hk hx hy
    obtain ⟨z, hz, _⟩ := at_lt (l := l) (k := i + d + 1) (by omega)
    have h1 := ih (by omega) hx hz
    have h2 := upTo_step (k := i + d + 1) h (by omega) hz (by rw [← hy]; rfl)
    omega
/-- rising numbers: the later one is greater -/
theorem up_less {α : Type} {ok : α → Bool} {id : α → Int} {l : List α} (h : upTo ok id l l.length = true) {i j : Nat} {x y : α} (hij : i < j) (hx : l[i]? = some x) (hy : l[j]? = some y) : id x < id y := by
  have hj := (List.getElem?_eq_some_iff.1 hy).1
  exact upTo_lt h (Nat.le_refl _) (j - i - 1) (by omega) hx (by rw [← hy]; congr 1; omega)
/-- a loop with fuel, from k on, by an invariant -/
theorem lp_is {σ ρ : Type} {f : σ → (σ → Option ρ) → (σ → Option ρ) → Option ρ} {fin : σ → Option ρ} {n : Nat} (r : ρ) (I : Nat → σ → Prop)
    (step : ∀ k s nx, k < n → I k s → (∀ s', I (k + 1) s' → nx s' = some r) → f s nx fin = some r) (done : ∀ s nx, I n s → f s nx fin = some r) (fuel : Nat) (k : Nat) (s : σ) (hk : k ≤ n) (hf : n - k < fuel) (hI : I k s) : loopK f fuel s fin = some r := by
  obtain ⟨r', h, rfl⟩ := lp_ex (Q := fun x => x = r) I (fun k s nx hk hI hn => ⟨r, step k s nx hk hI (fun s' h' => by obtain ⟨_, h, rfl⟩ := hn s' h'; exact h), rfl⟩) (fun s nx h => ⟨r, done s nx h, rfl⟩) fuel k s hk hf hI
  exact h
theorem most_eq (a b : Int) (h : (if b < a then a else b) = max a b := by omega) : (if b < a then a else b) = max a b := h
end Go.Proofs.Ytbpjhmhnicfdfaa.QUp

/- Chapter 5: combs, holes, gauges: the plain functions of the program and of the reference agree, and the laws answer true. (Q5Holes) No condition but those of each theorem. -/
namespace Go.Proofs.Ytbpjhmhnicfdfaa.Q5Holes
set_option linter.unusedVariables false
set_option linter.unusedSimpArgs false
open Go.RowKit
open Go.Proofs.Ytbpjhmhnicfdfaa.GoP Go.Proofs.Ytbpjhmhnicfdfaa.PlainStamp Go.Proofs.Ytbpjhmhnicfdfaa.QBase Go.Proofs.Ytbpjhmhnicfdfaa.QUp Go.Proofs.Ytbpjhmhnicfdfaa.QLoop

def rise (lo hi : Int) (l : List Int) : Bool := upTo (fun n => inB n lo hi) (fun n => n) l l.length
theorem rising_eq (l : List Int) (lo hi : Int) (hl : l.length ≤ 9223372036854775807) : GsL1Rising.P l lo hi = some (rise lo hi l) := by
  simp only [GsL1Rising.P]
  rw [up_loop (ok := fun n => inB n lo hi) (id := fun n => n) (no := false)]
  · unfold rise; cases upTo (fun n => inB n lo hi) (fun n => n) l l.length <;> simp [GsL1Rising.e0]
  · intro k nx s hs
    have hi' : idx l (k : Int) = some s := by rw [idx_nat, hs]
    have hk : k < l.length := (List.getElem?_eq_some_iff.1 hs).1
    simp only [GsL1Rising.l0, hi', Option.bind_some, l1In_eq, letK, joinK, appK, iteK_if]
    refine ⟨fun h => by simp [h], fun h => ⟨fun h0 => by subst h0; simp [h], fun h0 r hr => ?_⟩⟩
    rw [idx_pred h0 (by omega) hr]
    have hk0 : (0 : Int) < (k : Int) := by omega
    have hk1 : ¬ k = 0 := by omega
    exact ⟨fun hlt => by (have hc : ¬ s ≤ r := by omega); simp [h, hk0, hk1, hc], fun hge => by simp [h, hk0, hk1, hge]⟩
def holesB (l : List Int) : Bool := inB l.length 2 40 && rise 0 9999 l
theorem l5Holes_eq (l : List Int) (hl : l.length ≤ 9223372036854775807) : GsL5Holes.P l = some (holesB l) := by
  simp only [GsL5Holes.P, l1In_eq, rising_eq l 0 9999 hl, Option.bind_some, joinK, appK, iteK_if, holesB]
  cases inB l.length 2 40 <;> simp
theorem areHoles_eq (l : List Int) (hl : l.length ≤ 9223372036854775807) : GiAreHoles.P l = some (holesB l) := by
  simp only [GiAreHoles.P, within_eq, Option.bind_some, letK, iteK_if, holesB]
  cases hn : inB l.length 2 40 with
  | false => simp
  | true =>
    simp only [Bool.not_true, Bool.false_eq_true, if_false, Bool.true_and]
    rw [up_loop (ok := fun n => inB n 0 9999) (id := fun n => n) (no := false)]
    · unfold rise; cases upTo (fun n => inB n 0 9999) (fun n => n) l l.length <;> simp [GiAreHoles.e0]
    · intro k nx s hs
      have hi' : idx l (k : Int) = some s := by rw [idx_nat, hs]
      have hk : k < l.length := (List.getElem?_eq_some_iff.1 hs).1
      simp only [GiAreHoles.l0, hi', Option.bind_some, within_eq, letK, joinK, appK, iteK_if]
      refine ⟨fun h => by simp [h], fun h => ⟨fun h0 => by subst h0; simp [h], fun h0 r hr => ?_⟩⟩
      rw [idx_pred h0 (by omega) hr]
      have hk0 : (0 : Int) < (k : Int) := by omega
      have hk1 : ¬ k = 0 := by omega
      exact ⟨fun hlt => by (have hc : ¬ s ≤ r := by omega); simp [h, hk0, hk1, hc], fun hge => by simp [h, hk0, hk1, hge]⟩
theorem holes_len {l : List Int} (h : holesB l = true) : 2 ≤ l.length ∧ l.length ≤ 40 := by
  unfold holesB at h; simp only [Bool.and_eq_true] at h
  have := inB_of h.1; omega
theorem holes_in {l : List Int} (h : holesB l = true) {k : Nat} {x : Int} (hx : l[k]? = some x) : 0 ≤ x ∧ x ≤ 9999 := by
  unfold holesB rise at h; simp only [Bool.and_eq_true] at h
  exact inB_of (upTo_ok h.2 (List.getElem?_eq_some_iff.1 hx).1 hx)
theorem holes_up {l : List Int} (h : holesB l = true) {i j : Nat} {x y : Int} (hij : i < j) (hx : l[i]? = some x) (hy : l[j]? = some y) : x < y := by
  unfold holesB rise at h; simp only [Bool.and_eq_true] at h
  exact up_less (id := fun n => n) h.2 hij hx hy
end Go.Proofs.Ytbpjhmhnicfdfaa.Q5Holes

/- Chapter 5: combs, holes, gauges: the plain functions of the program and of the reference agree, and the laws answer true. (Q5Gauge) No condition but those of each theorem. -/
namespace Go.Proofs.Ytbpjhmhnicfdfaa.Q5Gauge
set_option linter.unusedVariables false
set_option linter.unusedSimpArgs false
open Go.RowKit
open Go.Proofs.Ytbpjhmhnicfdfaa.GoP Go.Proofs.Ytbpjhmhnicfdfaa.PlainStamp Go.Proofs.Ytbpjhmhnicfdfaa.QBase Go.Proofs.Ytbpjhmhnicfdfaa.QLoop

theorem isGauge_eq (g : Int) : GiIsGauge.P g = some (inB g 500 2000) := by simp only [GiIsGauge.P, within_eq, Option.bind_some]
theorem l5Gauge_eq (g : Int) : GsL5Gauge.P g = some (inB g 500 2000) := by simp only [GsL5Gauge.P, l1In_eq, Option.bind_some]
end Go.Proofs.Ytbpjhmhnicfdfaa.Q5Gauge

/- Chapter 5: combs, holes, gauges: the plain functions of the program and of the reference agree, and the laws answer true. (Q5GaugeOf) No condition but those of each theorem. -/
namespace Go.Proofs.Ytbpjhmhnicfdfaa.Q5GaugeOf
set_option linter.unusedVariables false
set_option linter.unusedSimpArgs false
open Go.RowKit
open Go.Proofs.Ytbpjhmhnicfdfaa.GoP Go.Proofs.Ytbpjhmhnicfdfaa.PlainStamp Go.Proofs.Ytbpjhmhnicfdfaa.QBase Go.Proofs.Ytbpjhmhnicfdfaa.Q5Holes Go.Proofs.Ytbpjhmhnicfdfaa.Q5Gauge Go.Proofs.Ytbpjhmhnicfdfaa.QLoop Go.Proofs.Ytbpjhmhnicfdfaa.QUp Go.Proofs.Ytbpjhmhnicfdfaa.QAll

theorem gauge_same (l : List Int) (hl : l.length ≤ 9223372036854775807) : GiGaugeOf.P l = GsGaugeOf.P l := by
  simp only [GiGaugeOf.P, GsGaugeOf.P, areHoles_eq l hl, l5Holes_eq l hl, isGauge_eq, l5Gauge_eq, Option.bind_some, letK, iteK_if]
theorem gauge_some (l : List Int) (hl : l.length ≤ 9223372036854775807) : ∃ a b, GsGaugeOf.P l = some (a, b) := by
  simp only [GsGaugeOf.P, l5Holes_eq l hl, l5Gauge_eq, Option.bind_some, letK, iteK_if]
  cases h : holesB l with
  | false => exact ⟨0, false, by simp⟩
  | true =>
    have hn := holes_len h
    obtain ⟨x, hx, hxi⟩ := at_lt (l := l) (k := 0) (by omega)
    obtain ⟨y, hy, hyi⟩ := at_lt (l := l) (k := l.length - 1) (by omega)
    have hlt := holes_up h (i := 0) (j := l.length - 1) (by omega) hx hy
    have h1 := holes_in h hx
    have h2 := holes_in h hy
    rw [wrap_in (x := (l.length : Int) - 1) (by omega) (by omega), show (l.length : Int) - 1 = ((l.length - 1 : Nat) : Int) by omega, hyi]
    have hx0 : idx l 0 = some x := hxi
    simp only [Bool.not_true, Bool.false_eq_true, if_false, Option.bind_some, hx0]
    rw [wrap_in (x := y - x) (by omega) (by omega), guardK_pos (by omega)]
    cases inB (IntKind.i64.wrap (Int.tdiv (IntKind.i64.wrap (200000 * ((l.length - 1 : Nat) : Int))) (y - x))) 500 2000
    · exact ⟨_, _, by simp; exact ⟨rfl, rfl⟩⟩
    · exact ⟨_, _, by simp; exact ⟨rfl, rfl⟩⟩
end Go.Proofs.Ytbpjhmhnicfdfaa.Q5GaugeOf

/- Chapter 5: combs, holes, gauges: the plain functions of the program and of the reference agree, and the laws answer true. (Q5Dist) No condition but those of each theorem. -/
namespace Go.Proofs.Ytbpjhmhnicfdfaa.Q5Dist
set_option linter.unusedVariables false
set_option linter.unusedSimpArgs false
open Go.RowKit
open Go.Proofs.Ytbpjhmhnicfdfaa.GoP Go.Proofs.Ytbpjhmhnicfdfaa.PlainStamp Go.Proofs.Ytbpjhmhnicfdfaa.QBase Go.Proofs.Ytbpjhmhnicfdfaa.Q5Holes Go.Proofs.Ytbpjhmhnicfdfaa.QUp Go.Proofs.Ytbpjhmhnicfdfaa.QLoop Go.Proofs.Ytbpjhmhnicfdfaa.QAll

def dAt (l : List Int) (i : Nat) : Int := l.getD (i + 1) 0 - l.getD i 0
def dist (l : List Int) : List Int := (List.range (l.length - 1)).map (dAt l)
theorem dist_len (l : List Int) : (dist l).length = l.length - 1 := by simp [dist]
theorem dist_at {l : List Int} {k : Nat} (h : k < l.length - 1) : (dist l)[k]? = some (dAt l k) := by simp [dist, h]
theorem dAt_is {l : List Int} {k : Nat} {x y : Int} (hx : l[k]? = some x) (hy : l[k + 1]? = some y) : dAt l k = y - x := by
  unfold dAt; rw [List.getD_eq_getElem?_getD, List.getD_eq_getElem?_getD, hx, hy]; rfl
theorem dist_in {l : List Int} (h : holesB l = true) {k : Nat} (hk : k < l.length - 1) : 1 ≤ dAt l k ∧ dAt l k ≤ 9999 := by
  obtain ⟨x, hx, _⟩ := at_lt (l := l) (k := k) (by omega)
  obtain ⟨y, hy, _⟩ := at_lt (l := l) (k := k + 1) (by omega)
  have h1 := holes_in h hx
  have h2 := holes_in h hy
  have h3 := holes_up h (i := k) (j := k + 1) (by omega) hx hy
  rw [dAt_is hx hy]; omega
theorem dist_mem {l : List Int} (h : holesB l = true) {d : Int} (hd : d ∈ dist l) : 1 ≤ d ∧ d ≤ 9999 := by
  obtain ⟨k, hk, rfl⟩ := List.mem_map.1 hd
  exact dist_in h (List.mem_range.1 hk)
/-- both neighbours, as the loops read them -/
theorem two_at {l : List Int} (h : holesB l = true) {k : Nat} (hk : k < l.length - 1) : ∃ x y, idx l ((k : Int) + 1) = some y ∧ idx l (IntKind.i64.wrap ((k : Int) + 1 - 1)) = some x ∧ IntKind.i64.wrap (y - x) = dAt l k := by
  have hn := holes_len h
  obtain ⟨x, hx, hxi⟩ := at_lt (l := l) (k := k) (by omega)
  obtain ⟨y, hy, hyi⟩ := at_lt (l := l) (k := k + 1) (by omega)
  have h1 := holes_in h hx
  have h2 := holes_in h hy
  refine ⟨x, y, by rw [← hyi]; rfl, ?_, ?_⟩
  · rw [show (k : Int) + 1 - 1 = (k : Int) by omega, wrap_in (by omega) (by omega)]; exact hxi
  · rw [wrap_in (by omega) (by omega), dAt_is hx hy]
end Go.Proofs.Ytbpjhmhnicfdfaa.Q5Dist

/- Chapter 5: combs, holes, gauges: the plain functions of the program and of the reference agree, and the laws answer true. (Q5Distances) No condition but those of each theorem. -/
namespace Go.Proofs.Ytbpjhmhnicfdfaa.Q5Distances
set_option linter.unusedVariables false
set_option linter.unusedSimpArgs false
open Go.RowKit
open Go.Proofs.Ytbpjhmhnicfdfaa.GoP Go.Proofs.Ytbpjhmhnicfdfaa.PlainStamp Go.Proofs.Ytbpjhmhnicfdfaa.QBase Go.Proofs.Ytbpjhmhnicfdfaa.Q5Dist Go.Proofs.Ytbpjhmhnicfdfaa.Q5Holes Go.Proofs.Ytbpjhmhnicfdfaa.QUp Go.Proofs.Ytbpjhmhnicfdfaa.QLoop Go.Proofs.Ytbpjhmhnicfdfaa.QAll

theorem distances_eq {l : List Int} (h : holesB l = true) {fuel : Nat} (hf : 1048577 ≤ fuel) : GiDistances.P fuel l = some (dist l) := by
  have hn := holes_len h
  simp only [GiDistances.P]
  refine lp_is (n := l.length - 1) _ (fun k s => s = ((List.range k).map (dAt l), (k : Int) + 1)) ?_ ?_ fuel 0 _ (by omega) (by omega) (by simp)
  · rintro k s nx hk rfl hnx
    obtain ⟨x, y, hy, hx, hw⟩ := two_at h hk
    have ht : decide ((k : Int) + 1 < (l.length : Int)) = true := by simp; omega
    simp only [GiDistances.l0, unp2, letK, ht, iteK_if, if_true, hy, hx, hw, Option.bind_some, appK]
    rw [guardK_pos (by simp; omega), wrap_in (by omega) (by omega)]
    exact hnx _ (by rw [List.range_succ, List.map_append]; simp)
  · rintro s nx rfl
    have ht : decide (((l.length - 1 : Nat) : Int) + 1 < (l.length : Int)) = false := by simp; omega
    simp only [GiDistances.l0, unp2, letK, ht, iteK_if, appK, GiDistances.e0]
    simp [dist]
end Go.Proofs.Ytbpjhmhnicfdfaa.Q5Distances

/- Chapter 5: combs, holes, gauges: the plain functions of the program and of the reference agree, and the laws answer true. (Q5Most) No condition but those of each theorem. -/
namespace Go.Proofs.Ytbpjhmhnicfdfaa.Q5Most
set_option linter.unusedVariables false
set_option linter.unusedSimpArgs false
open Go.RowKit
open Go.Proofs.Ytbpjhmhnicfdfaa.GoP Go.Proofs.Ytbpjhmhnicfdfaa.PlainStamp Go.Proofs.Ytbpjhmhnicfdfaa.QBase Go.Proofs.Ytbpjhmhnicfdfaa.QLoop

theorem most_is (a b : Int) : GsL1Most.P a b = some (max a b) := by
  simp only [GsL1Most.P, letK, iteK_if]
  by_cases h : b < a
  · rw [if_pos (by simpa using h)]; congr 1; omega
  · rw [if_neg (by simpa using h)]; congr 1; omega
end Go.Proofs.Ytbpjhmhnicfdfaa.Q5Most

/- Chapter 5: combs, holes, gauges: the plain functions of the program and of the reference agree, and the laws answer true. (Q5Even) No condition but those of each theorem. -/
namespace Go.Proofs.Ytbpjhmhnicfdfaa.Q5Even
set_option linter.unusedVariables false
set_option linter.unusedSimpArgs false
open Go.RowKit
open Go.Proofs.Ytbpjhmhnicfdfaa.GoP Go.Proofs.Ytbpjhmhnicfdfaa.PlainStamp Go.Proofs.Ytbpjhmhnicfdfaa.QBase Go.Proofs.Ytbpjhmhnicfdfaa.Q5Distances Go.Proofs.Ytbpjhmhnicfdfaa.Q5Dist Go.Proofs.Ytbpjhmhnicfdfaa.Q5Holes Go.Proofs.Ytbpjhmhnicfdfaa.Q5Most Go.Proofs.Ytbpjhmhnicfdfaa.QUp Go.Proofs.Ytbpjhmhnicfdfaa.QLoop Go.Proofs.Ytbpjhmhnicfdfaa.QAll

theorem fold_in {l : List Int} {a lo hi : Int} (ha : lo ≤ a ∧ a ≤ hi) (hl : ∀ x ∈ l, lo ≤ x ∧ x ≤ hi) : (lo ≤ l.foldl max a ∧ l.foldl max a ≤ hi) ∧ (lo ≤ l.foldl min a ∧ l.foldl min a ≤ hi) := by
  have key : ∀ (l : List Int) (a b : Int), lo ≤ a ∧ a ≤ hi → lo ≤ b ∧ b ≤ hi → (∀ x ∈ l, lo ≤ x ∧ x ≤ hi) → (lo ≤ l.foldl max a ∧ l.foldl max a ≤ hi) ∧ (lo ≤ l.foldl min b ∧ l.foldl min b ≤ hi) := by
    intro l
    induction l with
    | nil => intro a b h1 h2 _; exact ⟨h1, h2⟩
    | cons x l ih =>
      intro a b h1 h2 hl
      have hx := hl x (by simp)
      exact ih _ _ (by omega) (by omega) (fun y hy => hl y (by simp [hy]))
  exact key l a a ha ha hl
theorem max_eq {d : List Int} {d0 : Int} (h0 : d[0]? = some d0) (hn : d.length ≤ 100) {fuel : Nat} (hf : 1048577 ≤ fuel) : GxSlicesMaxIntInt.P fuel d = some (d.foldl max d0) := by
  have hlen := (List.getElem?_eq_some_iff.1 h0).1
  have hi0 : idx d 0 = some d0 := by rw [show (0 : Int) = ((0 : Nat) : Int) from rfl, idx_nat, h0]
  have ht : decide ((d.length : Int) < 1) = false := by simp; omega
  simp only [GxSlicesMaxIntInt.P, letK, ht, iteK_if, Bool.false_eq_true, if_false, GxSlicesMaxIntInt.j0, hi0, Option.bind_some]
  refine lp_is (n := d.length) _ (fun k s => s = ((d.take k).foldl max d0, (k : Int))) ?_ ?_ fuel 1 _ (by omega) (by omega) ?_
  · rintro k s nx hk rfl hnx
    obtain ⟨x, hx, hxi⟩ := at_lt (l := d) (k := k) hk
    have ht : decide ((k : Int) < (d.length : Int)) = true := by simp; omega
    simp only [GxSlicesMaxIntInt.l0, unp2, letK, ht, iteK_if, if_true, hxi, Option.bind_some, appK]
    rw [next_i (by omega)]
    exact hnx _ (by rw [take_next hx, List.foldl_append]; rfl)
  · rintro s nx rfl
    have ht : decide ((d.length : Int) < (d.length : Int)) = false := by simp
    simp only [GxSlicesMaxIntInt.l0, unp2, letK, ht, iteK_if, appK, GxSlicesMaxIntInt.e0]
    simp
  · rw [show (1 : Nat) = 0 + 1 from rfl, take_next h0]; simp
theorem min_eq {d : List Int} {d0 : Int} (h0 : d[0]? = some d0) (hn : d.length ≤ 100) {fuel : Nat} (hf : 1048577 ≤ fuel) : GxSlicesMinIntInt.P fuel d = some (d.foldl min d0) := by
  have hlen := (List.getElem?_eq_some_iff.1 h0).1
  have hi0 : idx d 0 = some d0 := by rw [show (0 : Int) = ((0 : Nat) : Int) from rfl, idx_nat, h0]
  have ht : decide ((d.length : Int) < 1) = false := by simp; omega
  simp only [GxSlicesMinIntInt.P, letK, ht, iteK_if, Bool.false_eq_true, if_false, GxSlicesMinIntInt.j0, hi0, Option.bind_some]
  refine lp_is (n := d.length) _ (fun k s => s = ((d.take k).foldl min d0, (k : Int))) ?_ ?_ fuel 1 _ (by omega) (by omega) ?_
  · rintro k s nx hk rfl hnx
    obtain ⟨x, hx, hxi⟩ := at_lt (l := d) (k := k) hk
    have ht : decide ((k : Int) < (d.length : Int)) = true := by simp; omega
    simp only [GxSlicesMinIntInt.l0, unp2, letK, ht, iteK_if, if_true, hxi, Option.bind_some, appK]
    rw [next_i (by omega)]
    exact hnx _ (by rw [take_next hx, List.foldl_append]; rfl)
  · rintro s nx rfl
    have ht : decide ((d.length : Int) < (d.length : Int)) = false := by simp
    simp only [GxSlicesMinIntInt.l0, unp2, letK, ht, iteK_if, appK, GxSlicesMinIntInt.e0]
    simp
  · rw [show (1 : Nat) = 0 + 1 from rfl, take_next h0]; simp
theorem least_is (a b : Int) : GsL1Least.P a b = some (min a b) := by
  simp only [GsL1Least.P, letK, iteK_if]
  by_cases h : a < b
  · rw [if_pos (by simpa using h)]; congr 1; omega
  · rw [if_neg (by simpa using h)]; congr 1; omega
def evenRes (l : List Int) : Bool × Bool := if holesB l = true then (decide ((dist l).foldl max (dAt l 0) - (dist l).foldl min (dAt l 0) ≤ 10), true) else (false, false)
theorem even_bounds {l : List Int} (h : holesB l = true) : (1 ≤ (dist l).foldl max (dAt l 0) ∧ (dist l).foldl max (dAt l 0) ≤ 9999) ∧ (1 ≤ (dist l).foldl min (dAt l 0) ∧ (dist l).foldl min (dAt l 0) ≤ 9999) := by
  have hn := holes_len h
  exact fold_in (dist_in h (by omega)) (fun x hx => dist_mem h hx)
theorem even_impl (l : List Int) (hl : l.length ≤ 9223372036854775807) {fuel : Nat} (hf : 1048577 ≤ fuel) : GiAreEven.P fuel l = some (evenRes l) := by
  simp only [GiAreEven.P, areHoles_eq l hl, Option.bind_some, letK, iteK_if, evenRes]
  cases h : holesB l with
  | false => simp
  | true =>
    have hn := holes_len h
    have h0 : (dist l)[0]? = some (dAt l 0) := dist_at (by omega)
    have hb := even_bounds h
    have hd := dist_len l
    simp only [Bool.not_true, Bool.false_eq_true, if_false, distances_eq h hf, Option.bind_some, max_eq h0 (by omega) hf, min_eq h0 (by omega) hf, if_true]
    rw [wrap_in (by omega) (by omega)]
theorem even_spec (l : List Int) (hl : l.length ≤ 9223372036854775807) {fuel : Nat} (hf : 1048577 ≤ fuel) : GsAreEven.P fuel l = some (evenRes l) := by
  simp only [GsAreEven.P, l5Holes_eq l hl, Option.bind_some, letK, iteK_if, evenRes]
  cases h : holesB l with
  | false => simp
  | true =>
    have hn := holes_len h
    have hb := even_bounds h
    obtain ⟨x, hx, hxi⟩ := at_lt (l := l) (k := 0) (by omega)
    obtain ⟨y, hy, hyi⟩ := at_lt (l := l) (k := 1) (by omega)
    have hx0 : idx l 0 = some x := hxi
    have hy0 : idx l 1 = some y := hyi
    have h1 := holes_in h hx
    have h2 := holes_in h hy
    simp only [Bool.not_true, Bool.false_eq_true, if_false, Option.bind_some, hx0, hy0, if_true]
    rw [wrap_in (x := y - x) (by omega) (by omega), ← dAt_is hx hy]
    have hd := dist_len l
    refine lp_is (n := l.length - 1) _ (fun k s => s = (((dist l).take k).foldl min (dAt l 0), ((dist l).take k).foldl max (dAt l 0), (k : Int) + 1)) ?_ ?_ fuel 0 _ (by omega) (by omega) (by simp)
    · rintro k s nx hk rfl hnx
      obtain ⟨x, y, hy, hx, hw⟩ := two_at h hk
      have ht : decide ((k : Int) + 1 < (l.length : Int)) = true := by simp; omega
      simp only [GsAreEven.l0, unp3, letK, ht, iteK_if, if_true, hy, hx, hw, Option.bind_some, appK, most_is, least_is]
      rw [wrap_in (by omega) (by omega)]
      exact hnx _ (by rw [take_next (dist_at hk), List.foldl_append, List.foldl_append]; simp)
    · rintro s nx rfl
      have ht : decide (((l.length - 1 : Nat) : Int) + 1 < (l.length : Int)) = false := by simp; omega
      simp only [GsAreEven.l0, unp3, letK, ht, iteK_if, appK, GsAreEven.e0]
      rw [← hd, List.take_of_length_le (Nat.le_refl _), wrap_in (x := (dist l).foldl max (dAt l 0) - (dist l).foldl min (dAt l 0)) (by omega) (by omega)]
      simp
end Go.Proofs.Ytbpjhmhnicfdfaa.Q5Even

/- Chapter 5: combs, holes, gauges: the plain functions of the program and of the reference agree, and the laws answer true. (Q5Miss) No condition but those of each theorem. -/
namespace Go.Proofs.Ytbpjhmhnicfdfaa.Q5Miss
set_option linter.unusedVariables false
set_option linter.unusedSimpArgs false
open Go.RowKit
open Go.Proofs.Ytbpjhmhnicfdfaa.GoP Go.Proofs.Ytbpjhmhnicfdfaa.PlainStamp Go.Proofs.Ytbpjhmhnicfdfaa.QBase Go.Proofs.Ytbpjhmhnicfdfaa.Q5Distances Go.Proofs.Ytbpjhmhnicfdfaa.Q5Dist Go.Proofs.Ytbpjhmhnicfdfaa.Q5Holes Go.Proofs.Ytbpjhmhnicfdfaa.Q5Gauge Go.Proofs.Ytbpjhmhnicfdfaa.Q5Most Go.Proofs.Ytbpjhmhnicfdfaa.QUp Go.Proofs.Ytbpjhmhnicfdfaa.QLoop Go.Proofs.Ytbpjhmhnicfdfaa.QAll

def miss1 (g d : Int) : Int := max ((d * g + 100000) / 200000 - 1) 0
theorem prod_in {d g : Int} (hd : 1 ≤ d ∧ d ≤ 9999) (hg : 500 ≤ g ∧ g ≤ 2000) : 0 ≤ d * g ∧ d * g ≤ 19998000 := by
  have h1 : d * g ≤ 9999 * 2000 := Int.mul_le_mul hd.2 hg.2 (by omega) (by omega)
  have h2 : 0 ≤ d * g := Int.mul_nonneg (by omega) (by omega)
  omega
theorem miss1_in {d g : Int} (hd : 1 ≤ d ∧ d ≤ 9999) (hg : 500 ≤ g ∧ g ≤ 2000) : 0 ≤ miss1 g d ∧ miss1 g d ≤ 1000 := by
  have := prod_in hd hg
  unfold miss1; omega
theorem miss1_impl {d g : Int} (hd : 1 ≤ d ∧ d ≤ 9999) (hg : 500 ≤ g ∧ g ≤ 2000) : max (IntKind.i64.wrap (IntKind.i64.wrap (Int.tdiv (IntKind.i64.wrap (IntKind.i64.wrap (d * g) + 100000)) 200000) - 1)) 0 = miss1 g d := by
  have h := prod_in hd hg
  rw [wrap_in (x := d * g) (by omega) (by omega), wrap_in (x := d * g + 100000) (by omega) (by omega), Int.tdiv_eq_ediv_of_nonneg (by omega)]
  unfold miss1
  generalize d * g = p at *
  rw [wrap_in (x := (p + 100000) / 200000) (by omega) (by omega), wrap_in (x := (p + 100000) / 200000 - 1) (by omega) (by omega)]
theorem miss1_spec {d g : Int} (hd : 1 ≤ d ∧ d ≤ 9999) (hg : 500 ≤ g ∧ g ≤ 2000) : max 0 (IntKind.i64.wrap (IntKind.i64.wrap (Int.tdiv (IntKind.i64.wrap (IntKind.i64.wrap (IntKind.i64.wrap (2 * d) * g) + 200000)) 400000) - 1)) = miss1 g d := by
  have h := prod_in hd hg
  rw [wrap_in (x := 2 * d) (by omega) (by omega), Int.mul_assoc]
  unfold miss1
  generalize d * g = p at *
  rw [wrap_in (x := 2 * p) (by omega) (by omega), wrap_in (x := 2 * p + 200000) (by omega) (by omega), Int.tdiv_eq_ediv_of_nonneg (by omega), wrap_in (x := (2 * p + 200000) / 400000) (by omega) (by omega), wrap_in (x := (2 * p + 200000) / 400000 - 1) (by omega) (by omega)]
  omega
def missSum (l : List Int) (g : Int) (k : Nat) : Int := ((List.range k).map (fun i => miss1 g (dAt l i))).sum
theorem missSum_succ (l : List Int) (g : Int) (k : Nat) : missSum l g (k + 1) = missSum l g k + miss1 g (dAt l k) := by
  unfold missSum; rw [List.range_succ, List.map_append, List.sum_append]; simp
theorem missSum_in {l : List Int} {g : Int} (h : holesB l = true) (hg : 500 ≤ g ∧ g ≤ 2000) : ∀ k, k ≤ l.length - 1 → 0 ≤ missSum l g k ∧ missSum l g k ≤ 1000 * (k : Int) := by
  intro k
  induction k with
  | zero => intro _; simp [missSum]
  | succ k ih =>
    intro hk
    have h1 := ih (by omega)
    have h2 := miss1_in (dist_in h (k := k) (by omega)) hg
    rw [missSum_succ]; omega
def missRes (l : List Int) (g : Int) : Int × Bool := if (holesB l && inB g 500 2000) = true then (missSum l g (l.length - 1), true) else (0, false)
theorem miss_impl (l : List Int) (g : Int) (hl : l.length ≤ 9223372036854775807) {fuel : Nat} (hf : 1048577 ≤ fuel) : GiMissingHoles.P fuel l g = some (missRes l g) := by
  simp only [GiMissingHoles.P, areHoles_eq l hl, isGauge_eq, Option.bind_some, letK, joinK, appK, iteK_if, missRes]
  cases h : holesB l with
  | false => simp
  | true =>
    cases hg : inB g 500 2000 with
    | false => simp
    | true =>
      have hn := holes_len h
      have hgb := inB_of hg
      have hd := dist_len l
      simp only [Bool.not_true, Bool.false_eq_true, if_false, distances_eq h hf, Option.bind_some, Bool.and_self, if_true]
      refine cnt_is _ (fun k s => s = missSum l g k) ?_ ?_ _ rfl
      · rintro k s nx hk rfl hnx
        have hk' : k < l.length - 1 := by omega
        have hi : idx (dist l) (k : Int) = some (dAt l k) := by rw [idx_nat, dist_at hk']
        have hdi := dist_in h hk'
        simp only [GiMissingHoles.l0, letK, hi, Option.bind_some, appK, miss1_impl hdi hgb]
        have h1 := missSum_in h hgb k (by omega)
        have h2 := miss1_in hdi hgb
        rw [wrap_in (by omega) (by omega)]
        exact hnx _ (missSum_succ l g k).symm
      · rintro s rfl
        rw [hd]; rfl
theorem miss_spec (l : List Int) (g : Int) (hl : l.length ≤ 9223372036854775807) {fuel : Nat} (hf : 1048577 ≤ fuel) : GsMissingHoles.P fuel l g = some (missRes l g) := by
  simp only [GsMissingHoles.P, l5Holes_eq l hl, l5Gauge_eq, Option.bind_some, letK, joinK, appK, iteK_if, missRes]
  cases h : holesB l with
  | false => simp
  | true =>
    cases hg : inB g 500 2000 with
    | false => simp
    | true =>
      have hn := holes_len h
      have hgb := inB_of hg
      simp only [Bool.not_true, Bool.false_eq_true, if_false, Bool.and_self, if_true]
      refine lp_is (n := l.length - 1) _ (fun k s => s = (missSum l g k, (k : Int) + 1)) ?_ ?_ fuel 0 _ (by omega) (by omega) rfl
      · rintro k s nx hk rfl hnx
        obtain ⟨x, y, hy, hx, hw⟩ := two_at h hk
        have ht : decide ((k : Int) + 1 < (l.length : Int)) = true := by simp; omega
        have hdi := dist_in h hk
        simp only [GsMissingHoles.l0, unp2, letK, ht, iteK_if, if_true, hy, hx, hw, Option.bind_some, appK, most_is, miss1_spec hdi hgb]
        have h1 := missSum_in h hgb k (by omega)
        have h2 := miss1_in hdi hgb
        rw [wrap_in (x := missSum l g k + miss1 g (dAt l k)) (by omega) (by omega), wrap_in (x := (k : Int) + 1 + 1) (by omega) (by omega)]
        exact hnx _ (by rw [missSum_succ]; simp)
      · rintro s nx rfl
        have ht : decide (((l.length - 1 : Nat) : Int) + 1 < (l.length : Int)) = false := by simp; omega
        simp only [GsMissingHoles.l0, unp2, letK, ht, iteK_if, appK, GsMissingHoles.e0]
        simp
end Go.Proofs.Ytbpjhmhnicfdfaa.Q5Miss

/- Chapter 5: combs, holes, gauges: the plain functions of the program and of the reference agree, and the laws answer true. (Q5Pair) No condition but those of each theorem. -/
namespace Go.Proofs.Ytbpjhmhnicfdfaa.Q5Pair
set_option linter.unusedVariables false
set_option linter.unusedSimpArgs false
open Go.RowKit
open Go.Proofs.Ytbpjhmhnicfdfaa.GoP Go.Proofs.Ytbpjhmhnicfdfaa.PlainStamp Go.Proofs.Ytbpjhmhnicfdfaa.QBase Go.Proofs.Ytbpjhmhnicfdfaa.Q5Holes Go.Proofs.Ytbpjhmhnicfdfaa.QUp Go.Proofs.Ytbpjhmhnicfdfaa.QLoop Go.Proofs.Ytbpjhmhnicfdfaa.QAll

/-- each number from c on and below n is good, found by a loop with fuel -/
theorem all_from {ρ : Type} {n c : Nat} {p : Nat → Bool} {no yes : ρ} {f : Int → (Int → Option ρ) → (Int → Option ρ) → Option ρ} {fin : Int → Option ρ}
    (step : ∀ (k : Nat) nx, c ≤ k → k < n → (p k = false → f (k : Int) nx fin = some no) ∧ (p k = true → f (k : Int) nx fin = nx ((k + 1 : Nat) : Int))) (stop : ∀ nx, f (n : Int) nx fin = some yes)
    (fuel : Nat) (hf : n < fuel) (hc : c ≤ n) : loopK f fuel (c : Int) fin = some (if allN n (fun i => decide (i < c) || p i) = true then yes else no) := by
  have key : ∀ fuel k, c ≤ k → k ≤ n → n - k < fuel → (∀ i, i < k → (decide (i < c) || p i) = true) → loopK f fuel (k : Int) fin = some (if allN n (fun i => decide (i < c) || p i) = true then yes else no) := by
    intro fuel
    induction fuel with
    | zero => intro k hc hk hf; omega
    | succ m ih =>
      intro k hc hk hf hu
      show f (k : Int) _ fin = _
      by_cases he : k = n
      · subst he; rw [stop, allN_iff.2 hu]; rfl
      · obtain ⟨h1, h2⟩ := step k (fun s' => loopK f m s' fin) hc (by omega)
        cases hp : p k with
        | false => rw [h1 hp, allN_no (k := k) (by omega) (by simp [hp, hc])]; rfl
        | true =>
          rw [h2 hp]
          refine ih (k + 1) (by omega) (by omega) (by omega) (fun i hi => ?_)
          by_cases he : i = k
          · rw [he]; simp [hp]
          · exact hu i (by omega)
  exact key fuel c (Nat.le_refl _) hc (by omega) (fun i hi => by simp [hi])
def pairAt (a b : List Int) (o : Int) (k : Nat) : Bool := inB (a.getD k 0 - a.getD 0 0 - (b.getD k 0 - b.getD 0 0)) (-o) o
def pairRes (a b : List Int) (o : Int) : Bool × Bool := if (holesB a && holesB b && (a.length == b.length) && inB o 0 50) = true then (allN a.length (pairAt a b o), true) else (false, false)
theorem getD_is {l : List Int} {k : Nat} {x : Int} (h : l[k]? = some x) : l.getD k 0 = x := by rw [List.getD_eq_getElem?_getD, h]; rfl
theorem pair_impl (a b : List Int) (o : Int) (hla : a.length ≤ 9223372036854775807) (hlb : b.length ≤ 9223372036854775807) : GiIsPair.P a b o = some (pairRes a b o) := by
  simp only [GiIsPair.P, areHoles_eq a hla, areHoles_eq b hlb, within_eq, Option.bind_some, letK, joinK, appK, iteK_if, pairRes]
  cases ha : holesB a with
  | false => simp
  | true =>
    cases hb : holesB b with
    | false => simp
    | true =>
      by_cases hn : a.length = b.length
      · cases ho : inB o 0 50 with
        | false => simp
        | true =>
          have hob := inB_of ho
          have hna := holes_len ha
          obtain ⟨x0, hx0, hx0i⟩ := at_lt (l := a) (k := 0) (by omega)
          obtain ⟨y0, hy0, hy0i⟩ := at_lt (l := b) (k := 0) (by omega)
          have bx := holes_in ha hx0
          have bY := holes_in hb hy0
          have hx0j : idx a 0 = some x0 := hx0i
          have hy0j : idx b 0 = some y0 := hy0i
          have e1 : ((a.length : Int) != (b.length : Int)) = false := by rw [hn]; simp
          have e2 : (a.length == b.length) = true := by rw [hn]; simp
          simp only [e1, e2, Bool.not_true, Bool.false_eq_true, if_false, Bool.and_self, if_true]
          rw [all_cnt (p := pairAt a b o) (no := (false, true))]
          · cases allN a.length (pairAt a b o) <;> simp [GiIsPair.e0]
          · intro k nx hk
            obtain ⟨x, hx, hxi⟩ := at_lt (l := a) (k := k) hk
            obtain ⟨y, hy, hyi⟩ := at_lt (l := b) (k := k) (by omega)
            have b1 := holes_in ha hx
            have b2 := holes_in hb hy
            simp only [GiIsPair.l0, hxi, hyi, hx0j, hy0j, Option.bind_some, letK, appK, iteK_if, within_eq]
            rw [wrap_in (x := x - x0) (by omega) (by omega), wrap_in (x := y - y0) (by omega) (by omega), wrap_in (x := x - x0 - (y - y0)) (by omega) (by omega), wrap_in (x := -o) (by omega) (by omega)]
            unfold pairAt
            rw [getD_is hx, getD_is hx0, getD_is hy, getD_is hy0]
            exact ⟨fun h => by simp [h], fun h => by simp [h]⟩
      · have e1 : ((a.length : Int) != (b.length : Int)) = true := by simp; omega
        have e2 : (a.length == b.length) = false := by simp; omega
        simp [e1, e2]
theorem pair_spec (a b : List Int) (o : Int) (hla : a.length ≤ 9223372036854775807) (hlb : b.length ≤ 9223372036854775807) {fuel : Nat} (hf : 1048577 ≤ fuel) : GsIsPair.P fuel a b o = some (pairRes a b o) := by
  simp only [GsIsPair.P, l5Holes_eq a hla, l5Holes_eq b hlb, l1In_eq, Option.bind_some, letK, joinK, appK, iteK_if, pairRes]
  cases ha : holesB a with
  | false => simp
  | true =>
    cases hb : holesB b with
    | false => simp
    | true =>
      by_cases hn : a.length = b.length
      · cases ho : inB o 0 50 with
        | false => simp
        | true =>
          have hob := inB_of ho
          have hna := holes_len ha
          obtain ⟨x0, hx0, hx0i⟩ := at_lt (l := a) (k := 0) (by omega)
          obtain ⟨y0, hy0, hy0i⟩ := at_lt (l := b) (k := 0) (by omega)
          have bx := holes_in ha hx0
          have bY := holes_in hb hy0
          have hx0j : idx a 0 = some x0 := hx0i
          have hy0j : idx b 0 = some y0 := hy0i
          have e1 : ((a.length : Int) != (b.length : Int)) = false := by rw [hn]; simp
          have e2 : (a.length == b.length) = true := by rw [hn]; simp
          simp only [e1, e2, Bool.not_true, Bool.false_eq_true, if_false, Bool.and_self, if_true]
          have key := all_from (n := a.length) (c := 1) (p := pairAt a b o) (no := (false, true)) (yes := (true, true)) (f := GsIsPair.l0 a b o) (fin := GsIsPair.e0) ?_ ?_ fuel (by omega) (by omega)
          · have eA : allN a.length (fun i => decide (i < 1) || pairAt a b o i) = allN a.length (pairAt a b o) := by
              refine allN_eq ⟨fun h i hi => ?_, fun h i hi => by simp [h i hi]⟩
              by_cases h0 : i = 0
              · subst h0
                unfold pairAt
                exact inB_yes (by omega) (by omega)
              · have := h i hi
                simpa [h0] using this
            rw [eA] at key
            refine Eq.trans key ?_
            cases allN a.length (pairAt a b o) <;> simp
          · intro k nx hk1 hk
            obtain ⟨x, hx, hxi⟩ := at_lt (l := a) (k := k) hk
            obtain ⟨y, hy, hyi⟩ := at_lt (l := b) (k := k) (by omega)
            have b1 := holes_in ha hx
            have b2 := holes_in hb hy
            have ht : decide ((k : Int) < (a.length : Int)) = true := by simp; omega
            simp only [GsIsPair.l0, ht, if_true, hxi, hyi, hx0j, hy0j, Option.bind_some, letK, appK, iteK_if, l1In_eq]
            rw [wrap_in (x := x - x0) (by omega) (by omega), wrap_in (x := x - x0 - y) (by omega) (by omega), wrap_in (x := x - x0 - y + y0) (by omega) (by omega), wrap_in (x := -o) (by omega) (by omega), next_i (by omega), show x - x0 - y + y0 = x - x0 - (y - y0) by omega]
            unfold pairAt
            rw [getD_is hx, getD_is hx0, getD_is hy, getD_is hy0]
            exact ⟨fun h => by simp [h], fun h => by simp [h]⟩
          · intro nx
            have ht : decide ((a.length : Int) < (a.length : Int)) = false := by simp
            simp only [GsIsPair.l0, ht, letK, iteK_if, appK]
            rfl
      · have e1 : ((a.length : Int) != (b.length : Int)) = true := by simp; omega
        have e2 : (a.length == b.length) = false := by simp; omega
        simp [e1, e2]
end Go.Proofs.Ytbpjhmhnicfdfaa.Q5Pair

/- Chapter 5: combs, holes, gauges: the plain functions of the program and of the reference agree, and the laws answer true. (Q5On) No condition but those of each theorem. -/
namespace Go.Proofs.Ytbpjhmhnicfdfaa.Q5On
set_option linter.unusedVariables false
set_option linter.unusedSimpArgs false
open Go.RowKit
open Go.Proofs.Ytbpjhmhnicfdfaa.GoP Go.Proofs.Ytbpjhmhnicfdfaa.PlainStamp Go.Proofs.Ytbpjhmhnicfdfaa.QBase Go.Proofs.Ytbpjhmhnicfdfaa.Q5Gauge Go.Proofs.Ytbpjhmhnicfdfaa.QLoop

theorem on_same (n g : Int) : GiHolesOn.P n g = GsHolesOn.P n g := by
  simp only [GiHolesOn.P, GsHolesOn.P, within_eq, l1In_eq, isGauge_eq, l5Gauge_eq, Option.bind_some]
theorem on_some (n g : Int) : ∃ a b, GsHolesOn.P n g = some (a, b) := by
  simp only [GsHolesOn.P, l1In_eq, l5Gauge_eq, Option.bind_some, letK, joinK, appK, iteK_if]
  cases inB n 500 9999 <;> cases inB g 500 2000 <;> simp
end Go.Proofs.Ytbpjhmhnicfdfaa.Q5On

