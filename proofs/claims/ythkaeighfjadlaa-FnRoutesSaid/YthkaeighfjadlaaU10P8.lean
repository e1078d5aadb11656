/- Texts on which the proofs of several laws stand, one behind the other (8 of 11). No condition of their own. -/
import Derived.Test.YthkaeighfjadlaaChecked
import Derived.Test.YthkaeighfjadlaaU10P1
import Derived.Test.YthkaeighfjadlaaU10P3
import Derived.Test.YthkaeighfjadlaaU10P2
import Derived.Test.YthkaeighfjadlaaU10P7
import Derived.WalkKit
import Derived.WalkSpells
import Derived.WalkLawsBesides
import Derived.BigQuiet
import Derived.OwnWalk
import Derived.Deep.LoopGhost
import Derived.Deep.QuietTactic
import Derived.IntWalk
import Derived.Lib.QuietBelow
import Derived.Test.YthkaeighfjadlaaU10P4
import Derived.Test.YthkaeighfjadlaaU10P6
/- loop.example/g01062/spec.DrawIsRoute as a plain function, and the contract of the program's: where the plain one has an answer, the program has it. Conditions: slices read as lists. -/
namespace Go.Proofs.Ythkaeighfjadlaa.GsDrawIsRoute
set_option linter.unusedVariables false
set_option linter.unusedSimpArgs false
open Go.RowKit
open Go.Proofs.Ythkaeighfjadlaa.Rowed Go.Proofs.Ythkaeighfjadlaa.Turn Go.Proofs.Ythkaeighfjadlaa.Aid Go.Proofs.Ythkaeighfjadlaa.GoP Go.Proofs.Ythkaeighfjadlaa.GoM

def P (fuel : Nat) (tapes : List Int → Go.Proofs.Ythkaeighfjadlaa.GoC.Tape) (code : (List Int)) : Option ((List Go.Proofs.Ythkaeighfjadlaa.PMail.Mail) × Int × Int × (List Int)) :=
  letK (tapes code) fun (t_6 : Go.Proofs.Ythkaeighfjadlaa.GoC.Tape) =>
  bind2 (Go.Proofs.Ythkaeighfjadlaa.GsL1CurTimetable.P fuel t_6) fun (t_9 : (List Go.Proofs.Ythkaeighfjadlaa.PMail.Mail)) (t_9_tp : Go.Proofs.Ythkaeighfjadlaa.GoC.Tape) =>
  letK ([0, 1, 2, 3, 9, 10]) fun (t_11 : (List Int)) =>
  bind2 (Go.Proofs.Ythkaeighfjadlaa.GsL1CurAmong.P t_9_tp t_11) fun (t_12 : Int) (t_12_tp : Go.Proofs.Ythkaeighfjadlaa.GoC.Tape) =>
  letK ([0, 0, 5, 10, 11, 9999, 10000]) fun (t_14 : (List Int)) =>
  bind2 (Go.Proofs.Ythkaeighfjadlaa.GsL1CurAmong.P t_12_tp t_14) fun (t_15 : Int) (t_15_tp : Go.Proofs.Ythkaeighfjadlaa.GoC.Tape) =>
  bind2 (Go.Proofs.Ythkaeighfjadlaa.GsL1CurRouteOf.P t_15_tp t_9 t_12 t_15) fun (t_26 : (List Int)) (t_26_tp : Go.Proofs.Ythkaeighfjadlaa.GoC.Tape) =>
  some (t_9, t_12, t_15, t_26)

set_option maxRecDepth 100000 in
set_option maxHeartbeats 2000000 in
theorem C (fuel : Nat) (tapes : List Int → Go.Proofs.Ythkaeighfjadlaa.GoC.Tape) (code : (List Int)) (A0 : Option Addr) (c0 : Nat)  (w : World) (HE : Hid (Go.Proofs.Ythkaeighfjadlaa.GoC.Tells tapes)) (M0 : Hid (Cells w 1 A0 code.length (Go.Proofs.Ythkaeighfjadlaa.GoC.u8s code))) (N0 : Hid (code.length ≤ 9223372036854775807)) (V0 : Hid (∀ z ∈ code, 0 ≤ z ∧ z ≤ 255))  {r0 : (List Go.Proofs.Ythkaeighfjadlaa.PMail.Mail)} {r1 : Int} {r2 : Int} {r3 : (List Int)} (H : Hid (P fuel tapes code = some (r0, r1, r2, r3))) :
    Calls Try.prog 20 #[.slice A0 code.length c0] w (fun e w' => ∃ A_r0 c_r0 A_r3 c_r3, e = .returned (.tuple #[.slice A_r0 r0.length c_r0, .int .i64 r1, .int .i64 r2, .slice A_r3 r3.length c_r3]) ∧ w'.ownsRow w.heap.size 93 4 (.slice A_r0 r0.length c_r0) r0.length (Go.Proofs.Ythkaeighfjadlaa.PMail.flat r0) ∧ (Cells w' 1 A_r3 r3.length (Go.Proofs.Ythkaeighfjadlaa.HelpInt.iv r3) ∧ r3.length ≤ 9223372036854775807 ∧ Room A_r3 r3.length c_r3) ∧ Below w.heap.size w w') := by
  have HB := Lib.hid (Below.refl w.heap.size w)
  unfold P at H
  have N0o := N0.out
  go_enter Try.func20, Try.ntmps20
  replace H := let_hid H
  obtain ⟨t_6, ht_6, H⟩ := H
  obtain ⟨w_t_6, hw_t_6⟩ : ∃ x, w.alloc (.cells #[.slice A0 code.length c0, .int .i64 0, .int .u64 0] 104) = x := ⟨_, rfl⟩
  have bw_t_6 : Below w.heap.size w w_t_6 := by rw [← hw_t_6]; exact (Below.refl _ _).alloc (Nat.le_refl _) _
  have Kt_6 : Hid (Go.Proofs.Ythkaeighfjadlaa.GoC.CurIs w_t_6 w.heap.size w.heap.size A0 c0 t_6) := Lib.hid (by rw [← hw_t_6, ← ht_6]; exact Go.Proofs.Ythkaeighfjadlaa.GoC.cur_new HB.out.size (Cells.below M0.out HB.out) (fun a_ ha_ h0_ => by subst ha_; exact Go.Proofs.Ythkaeighfjadlaa.GoC.cells_lt M0.out (by unfold Go.Proofs.Ythkaeighfjadlaa.GoC.u8s; rw [List.length_map]; exact h0_)) (HE.out.2.2 code V0.out N0.out))
  have hht_6 := Lib.hid ht_6
  clear ht_6
  have HBw_t_6 := Lib.hid (Below.step HB.out bw_t_6)
  clear bw_t_6
  replace H := bind2_hid H
  obtain ⟨t_9, t_9_tp, qt_9, H⟩ := H
  go_wp2_with fail
  go_at_call 74
  refine (Go.Proofs.Ythkaeighfjadlaa.GsL1CurTimetable.C fuel (t_6) (w.heap.size) (A0) (c0) (w.heap.size) _   Kt_6 qt_9).mono ?_
  rintro e_t_9 wt_9 ⟨At_9, ct_9, rfl, ot_9, kt_9, gt_9⟩
  have Dt_9_t_6 := Lib.hid (Go.Proofs.Ythkaeighfjadlaa.GoC.apart_callcur ot_9 Kt_6.out)
  have Ot_9 := Lib.hid (own_lower ot_9 HBw_t_6.out.size)
  clear ot_9
  have Kt_9 := Lib.hid kt_9
  have Gt_9 : Hid (w_t_6.grownBy wt_9 (Value.slice (some ⟨w.heap.size, 0, none⟩) 1 1).ownBlock) := Lib.hid gt_9
  clear kt_9 gt_9
  have HBwt_9 := Lib.hid (Go.Proofs.Ythkaeighfjadlaa.GoC.below_cur HBw_t_6.out Gt_9.out HBw_t_6.out.size (Go.Proofs.Ythkaeighfjadlaa.GoC.cur_lt Kt_6.out).1)
  clear Kt_6 Gt_9
  replace H := let_hid H
  obtain ⟨t_11, ht_11, H⟩ := H
  obtain ⟨w_t_11, hw_t_11⟩ : ∃ x, wt_9.alloc (.cells #[.int .i64 0, .int .i64 1, .int .i64 2, .int .i64 3, .int .i64 9, .int .i64 10] 3) = x := ⟨_, rfl⟩
  have bw_t_11 : Below wt_9.heap.size wt_9 w_t_11 := by rw [← hw_t_11]; exact (Below.refl _ _).alloc (Nat.le_refl _) _
  have hs_t_11 := HBwt_9.out.size
  have nt_11 : t_11.length = 6 := by rw [← ht_11]; rfl
  have Ot_11 : Hid (w_t_11.ownsRow w.heap.size 3 1 (.slice (some ⟨wt_9.heap.size, 0, none⟩) 6 6) 6 (Go.Proofs.Ythkaeighfjadlaa.HelpInt.iv t_11)) := by
    rw [← hw_t_11, ← ht_11]
    have e_ : ([.int .i64 0, .int .i64 1, .int .i64 2, .int .i64 3, .int .i64 9, .int .i64 10] : List Value) = (Go.Proofs.Ythkaeighfjadlaa.HelpInt.iv ([0, 1, 2, 3, 9, 10] : List Int)) := rfl
    exact Lib.hid (own_laid (n := 6) hs_t_11 e_ rfl (by unfold maxLen; omega))
  clear hs_t_11
  have hht_11 := Lib.hid ht_11
  clear ht_11
  replace nt_11 := Lib.hid nt_11
  have Dt_11_t_9 := Lib.hid (apart_fresh Ot_9.out)
  have Dt_11_t_6 := Lib.hid (Go.Proofs.Ythkaeighfjadlaa.GoC.apart_cur Kt_9.out)
  have HBw_t_11 := Lib.hid (Below.step HBwt_9.out bw_t_11)
  replace Ot_9 := Lib.hid (own_below Ot_9.out bw_t_11)
  replace Kt_9 := Lib.hid (Go.Proofs.Ythkaeighfjadlaa.GoC.cur_below Kt_9.out bw_t_11)
  clear bw_t_11
  replace H := bind2_hid H
  obtain ⟨t_12, t_12_tp, qt_12, H⟩ := H
  go_wp2_with fail
  have hc_ := nt_11.out
  have hv_ : (Value.slice (some ⟨wt_9.heap.size, 0, none⟩) 6 6 : Value) = Value.slice (some ⟨wt_9.heap.size, 0, none⟩) t_11.length 6 := by rw [hc_]
  try rw [hv_]
  replace Ot_11 := Lib.hid (own_len hc_ Ot_11.out)
  clear hc_ hv_
  go_wp2_with fail
  go_at_call 75
  refine (Go.Proofs.Ythkaeighfjadlaa.GsL1CurAmong.C (t_9_tp) (t_11) (some ⟨wt_9.heap.size, 0, none⟩) 6 (w.heap.size) (A0) (c0) (w.heap.size) _   (Lib.hid (own_cells Ot_11.out)) (Lib.hid (own_max Ot_11.out)) Kt_9 (Lib.hid (fun _ => Dt_11_t_6.out)) qt_12).mono ?_
  rintro e_t_12 wt_12 ⟨rfl, kt_12, gt_12⟩
  have Kt_12 := Lib.hid kt_12
  have Gt_12 : Hid (w_t_11.grownBy wt_12 (Value.slice (some ⟨w.heap.size, 0, none⟩) 1 1).ownBlock) := Lib.hid gt_12
  clear kt_12 gt_12
  have HBwt_12 := Lib.hid (Go.Proofs.Ythkaeighfjadlaa.GoC.below_cur HBw_t_11.out Gt_12.out HBw_t_11.out.size (Go.Proofs.Ythkaeighfjadlaa.GoC.cur_lt Kt_9.out).1)
  replace Ot_9 := Lib.hid (own_other Ot_9.out Gt_12.out (Apart.symm Dt_9_t_6.out))
  replace Ot_11 := Lib.hid (own_other Ot_11.out Gt_12.out (Apart.symm Dt_11_t_6.out))
  clear Kt_9 Gt_12
  replace H := let_hid H
  obtain ⟨t_14, ht_14, H⟩ := H
  obtain ⟨w_t_14, hw_t_14⟩ : ∃ x, wt_12.alloc (.cells #[.int .i64 0, .int .i64 0, .int .i64 5, .int .i64 10, .int .i64 11, .int .i64 9999, .int .i64 10000] 3) = x := ⟨_, rfl⟩
  have bw_t_14 : Below wt_12.heap.size wt_12 w_t_14 := by rw [← hw_t_14]; exact (Below.refl _ _).alloc (Nat.le_refl _) _
  have hs_t_14 := HBwt_12.out.size
  have nt_14 : t_14.length = 7 := by rw [← ht_14]; rfl
  have Ot_14 : Hid (w_t_14.ownsRow w.heap.size 3 1 (.slice (some ⟨wt_12.heap.size, 0, none⟩) 7 7) 7 (Go.Proofs.Ythkaeighfjadlaa.HelpInt.iv t_14)) := by
    rw [← hw_t_14, ← ht_14]
    have e_ : ([.int .i64 0, .int .i64 0, .int .i64 5, .int .i64 10, .int .i64 11, .int .i64 9999, .int .i64 10000] : List Value) = (Go.Proofs.Ythkaeighfjadlaa.HelpInt.iv ([0, 0, 5, 10, 11, 9999, 10000] : List Int)) := rfl
    exact Lib.hid (own_laid (n := 7) hs_t_14 e_ rfl (by unfold maxLen; omega))
  clear hs_t_14
  have hht_14 := Lib.hid ht_14
  clear ht_14
  replace nt_14 := Lib.hid nt_14
  have Dt_14_t_9 := Lib.hid (apart_fresh Ot_9.out)
  have Dt_14_t_11 := Lib.hid (apart_fresh Ot_11.out)
  have Dt_14_t_6 := Lib.hid (Go.Proofs.Ythkaeighfjadlaa.GoC.apart_cur Kt_12.out)
  have HBw_t_14 := Lib.hid (Below.step HBwt_12.out bw_t_14)
  replace Ot_9 := Lib.hid (own_below Ot_9.out bw_t_14)
  replace Ot_11 := Lib.hid (own_below Ot_11.out bw_t_14)
  replace Kt_12 := Lib.hid (Go.Proofs.Ythkaeighfjadlaa.GoC.cur_below Kt_12.out bw_t_14)
  clear bw_t_14
  replace H := bind2_hid H
  obtain ⟨t_15, t_15_tp, qt_15, H⟩ := H
  go_wp2_with fail
  have hc_ := nt_14.out
  have hv_ : (Value.slice (some ⟨wt_12.heap.size, 0, none⟩) 7 7 : Value) = Value.slice (some ⟨wt_12.heap.size, 0, none⟩) t_14.length 7 := by rw [hc_]
  try rw [hv_]
  replace Ot_14 := Lib.hid (own_len hc_ Ot_14.out)
  clear hc_ hv_
  go_wp2_with fail
  go_at_call 75
  refine (Go.Proofs.Ythkaeighfjadlaa.GsL1CurAmong.C (t_12_tp) (t_14) (some ⟨wt_12.heap.size, 0, none⟩) 7 (w.heap.size) (A0) (c0) (w.heap.size) _   (Lib.hid (own_cells Ot_14.out)) (Lib.hid (own_max Ot_14.out)) Kt_12 (Lib.hid (fun _ => Dt_14_t_6.out)) qt_15).mono ?_
  rintro e_t_15 wt_15 ⟨rfl, kt_15, gt_15⟩
  have Kt_15 := Lib.hid kt_15
  have Gt_15 : Hid (w_t_14.grownBy wt_15 (Value.slice (some ⟨w.heap.size, 0, none⟩) 1 1).ownBlock) := Lib.hid gt_15
  clear kt_15 gt_15
  have HBwt_15 := Lib.hid (Go.Proofs.Ythkaeighfjadlaa.GoC.below_cur HBw_t_14.out Gt_15.out HBw_t_14.out.size (Go.Proofs.Ythkaeighfjadlaa.GoC.cur_lt Kt_12.out).1)
  replace Ot_9 := Lib.hid (own_other Ot_9.out Gt_15.out (Apart.symm Dt_9_t_6.out))
  replace Ot_11 := Lib.hid (own_other Ot_11.out Gt_15.out (Apart.symm Dt_11_t_6.out))
  replace Ot_14 := Lib.hid (own_other Ot_14.out Gt_15.out (Apart.symm Dt_14_t_6.out))
  clear Kt_12 Gt_15
  replace H := bind2_hid H
  obtain ⟨t_26, t_26_tp, qt_26, H⟩ := H
  go_wp2_with fail
  go_at_call 76
  refine (Go.Proofs.Ythkaeighfjadlaa.GsL1CurRouteOf.C (t_15_tp) (t_9) (t_12) (t_15) At_9 ct_9 (w.heap.size) (A0) (c0) (w.heap.size) _   (Lib.hid (own_cells Ot_9.out)) (Lib.hid (own_max Ot_9.out)) Kt_15 (Lib.hid (fun _ => Dt_9_t_6.out)) qt_26).mono ?_
  rintro e_t_26 wt_26 ⟨At_26, ct_26, rfl, ⟨rm_t_26, rn_t_26, rq_t_26⟩, kt_26, gt_26⟩
  have Ot_26 := Lib.hid rm_t_26
  have Nt_26 := Lib.hid rn_t_26
  have Qt_26 := Lib.hid rq_t_26
  clear rm_t_26 rq_t_26
  have Kt_26 := Lib.hid kt_26
  have Gt_26 : Hid (wt_15.grownBy wt_26 (Value.slice (some ⟨w.heap.size, 0, none⟩) 1 1).ownBlock) := Lib.hid gt_26
  clear kt_26 gt_26
  have HBwt_26 := Lib.hid (Go.Proofs.Ythkaeighfjadlaa.GoC.below_cur HBwt_15.out Gt_26.out HBwt_15.out.size (Go.Proofs.Ythkaeighfjadlaa.GoC.cur_lt Kt_15.out).1)
  replace Ot_9 := Lib.hid (own_other Ot_9.out Gt_26.out (Apart.symm Dt_9_t_6.out))
  replace Ot_11 := Lib.hid (own_other Ot_11.out Gt_26.out (Apart.symm Dt_11_t_6.out))
  replace Ot_14 := Lib.hid (own_other Ot_14.out Gt_26.out (Apart.symm Dt_14_t_6.out))
  clear Kt_15 Gt_26
  cases ret_hid H
  go_wp2_with fail
  (try simp only [Exit.inBlock, Exit.then]); refine bodyPost_ret (results_tmp4 rfl _ _ _) rfl ?_
  exact ⟨At_9, ct_9, At_26, ct_26, rfl, Ot_9.out, ⟨Ot_26.out, Nt_26.out, Qt_26.out⟩, HBwt_26.out⟩
end Go.Proofs.Ythkaeighfjadlaa.GsDrawIsRoute

/- loop.example/g01062/impl.IsRoute as a plain function, and the contract of the program's: where the plain one has an answer, the program has it. Conditions: slices read as lists. -/
namespace Go.Proofs.Ythkaeighfjadlaa.GiIsRoute
set_option linter.unusedVariables false
set_option linter.unusedSimpArgs false
open Go.RowKit
open Go.Proofs.Ythkaeighfjadlaa.Rowed Go.Proofs.Ythkaeighfjadlaa.Turn Go.Proofs.Ythkaeighfjadlaa.Aid Go.Proofs.Ythkaeighfjadlaa.GoP Go.Proofs.Ythkaeighfjadlaa.GoM

def P (list : (List Go.Proofs.Ythkaeighfjadlaa.PMail.Mail)) (from_1 : Int) (minute : Int) (route : (List Int)) : Option (Bool × Bool) :=
  Option.bind (Go.Proofs.Ythkaeighfjadlaa.GiCanBegin.P list from_1 minute) fun (t_5 : Bool) =>
  letK (!t_5) fun (t_6 : Bool) =>
  joinK (fun (t_11 : Bool) =>
  iteK t_11
  (some (false, false))
  (bind3 (Go.Proofs.Ythkaeighfjadlaa.GiEndOfRoute.P list from_1 minute route) fun (t_18a : Int) (t_18b : Int) (t_18c : Bool) =>
  some (t_18c, true))) fun jt_11 => iteK t_6 (appK jt_11 true) (letK (decide (20 < (route.length : Int))) fun (t_10 : Bool) =>
  appK jt_11 t_10)

set_option maxRecDepth 100000 in
set_option maxHeartbeats 2000000 in
theorem C (list : (List Go.Proofs.Ythkaeighfjadlaa.PMail.Mail)) (from_1 : Int) (minute : Int) (route : (List Int)) (A0 : Option Addr) (c0 : Nat) (A3 : Option Addr) (c3 : Nat)  (w : World) (M0 : Hid (Cells w 4 A0 list.length (Go.Proofs.Ythkaeighfjadlaa.PMail.flat list))) (N0 : Hid (list.length ≤ 9223372036854775807)) (M3 : Hid (Cells w 1 A3 route.length (Go.Proofs.Ythkaeighfjadlaa.HelpInt.iv route))) (N3 : Hid (route.length ≤ 9223372036854775807))  {r0 : Bool} {r1 : Bool} (H : Hid (P list from_1 minute route = some (r0, r1))) :
    Calls Try.prog 21 #[.slice A0 list.length c0, .int .i64 from_1, .int .i64 minute, .slice A3 route.length c3] w (Gives (.tuple #[.bool r0, .bool r1]) w) := by
  have HB := Lib.hid (Below.refl w.heap.size w)
  unfold P at H
  have N0o := N0.out
  have N3o := N3.out
  go_enter Try.func21, Try.ntmps21
  replace H := bind_hid H
  obtain ⟨t_5, qt_5, H⟩ := H
  go_wp2_with fail
  go_at_call 66
  refine (Go.Proofs.Ythkaeighfjadlaa.GiCanBegin.C (list) (from_1) (minute) A0 c0 _   (Lib.hid (Cells.below M0.out HB.out)) N0 qt_5).mono ?_
  rintro e_t_5 wt_5 ⟨rfl, bt_5⟩
  have HBwt_5 := Lib.hid (Below.step HB.out bt_5)
  clear bt_5
  cases t_5 with
  | false =>
    replace H := let_hid H
    obtain ⟨t_6, ht_6, H⟩ := H
    obtain rfl : t_6 = true := ht_6.symm
    replace H := join_hid H
    replace H := ite_t H
    replace H := app_hid H
    replace H := ite_t H
    cases ret_hid H
    go_wp2_with fail
    go_ret2
    exact ⟨rfl, HBwt_5.out⟩
  | true =>
    replace H := let_hid H
    obtain ⟨t_6, ht_6, H⟩ := H
    obtain rfl : t_6 = false := ht_6.symm
    replace H := join_hid H
    replace H := ite_f H
    replace H := let_hid H
    obtain ⟨t_10, ht_10, H⟩ := H
    replace H := app_hid H
    cases t_10 with
    | false =>
      have nht_10 : ¬ (20 < route.length) := by have := of_decide_eq_false ht_10; omega
      replace H := ite_f H
      replace H := bind3_hid H
      obtain ⟨t_18a, t_18b, t_18c, qt_18, H⟩ := H
      go_wp2_with fail
      go_at_call 17
      refine (Go.Proofs.Ythkaeighfjadlaa.GiEndOfRoute.C (list) (from_1) (minute) (route) A0 c0 A3 c3 _   (Lib.hid (Cells.below M0.out HBwt_5.out)) N0 (Lib.hid (Cells.below M3.out HBwt_5.out)) N3 qt_18).mono ?_
      rintro e_t_18 wt_18 ⟨rfl, bt_18⟩
      have HBwt_18 := Lib.hid (Below.step HBwt_5.out bt_18)
      clear bt_18
      cases ret_hid H
      go_wp2_with fail
      go_ret2
      exact ⟨rfl, HBwt_18.out⟩
    | true =>
      have nht_10 : 20 < route.length := by have := of_decide_eq_true ht_10; omega
      replace H := ite_t H
      cases ret_hid H
      go_wp2_with fail
      go_ret2
      exact ⟨rfl, HBwt_5.out⟩
end Go.Proofs.Ythkaeighfjadlaa.GiIsRoute

/- loop.example/g01062/spec.l9End as a plain function, and the contract of the program's: where the plain one has an answer, the program has it. Conditions: slices read as lists. -/
namespace Go.Proofs.Ythkaeighfjadlaa.GsL9End
set_option linter.unusedVariables false
set_option linter.unusedSimpArgs false
open Go.RowKit
open Go.Proofs.Ythkaeighfjadlaa.Rowed Go.Proofs.Ythkaeighfjadlaa.Turn Go.Proofs.Ythkaeighfjadlaa.Aid Go.Proofs.Ythkaeighfjadlaa.GoP Go.Proofs.Ythkaeighfjadlaa.GoM

def l0 (list : (List Go.Proofs.Ythkaeighfjadlaa.PMail.Mail)) (route : (List Int)) (k0 : Nat) (s : Int × Int) (nx0 bk0 : Int × Int → Option (Int × Int × Bool)) : Option (Int × Int × Bool) :=
  unp2 s fun from_1l0 minute_2l0 =>
  Option.bind (idx route (k0 : Int)) fun (yt_10 : Int) =>
  letK (decide (yt_10 < 0)) fun (t_12 : Bool) =>
  joinK (fun (t_21 : Bool) =>
  iteK t_21
  (some (0, 0, false))
  (Option.bind (idx route (k0 : Int)) fun (yt_28 : Int) =>
  Option.bind (idx list yt_28) fun (yt_30 : Go.Proofs.Ythkaeighfjadlaa.PMail.Mail) =>
  unMail yt_30 fun (t_30_leave : Int) (t_30_from_ : Int) (t_30_to_ : Int) (t_30_arrive : Int) =>
  letK (t_30_from_ != from_1l0) fun (t_37 : Bool) =>
  joinK (fun (t_43 : Bool) =>
  iteK t_43
  (some (0, 0, false))
  (appK nx0 (t_30_to_, t_30_arrive))) fun jt_43 => iteK t_37 (appK jt_43 true) (letK (decide (t_30_leave < minute_2l0)) fun (t_42 : Bool) =>
  appK jt_43 t_42))) fun jt_21 => iteK t_12 (appK jt_21 true) (Option.bind (idx route (k0 : Int)) fun (yt_16 : Int) =>
  letK (decide ((list.length : Int) ≤ yt_16)) fun (t_20 : Bool) =>
  appK jt_21 t_20)

def e0  (s : Int × Int) : Option (Int × Int × Bool) :=
  unp2 s fun from_1l0 minute_2l0 =>
  some (from_1l0, minute_2l0, true)

def P (list : (List Go.Proofs.Ythkaeighfjadlaa.PMail.Mail)) (from_1 : Int) (minute : Int) (route : (List Int)) : Option (Int × Int × Bool) :=
  cntK (l0 list route) (route.length) 0 (from_1, minute) (e0 )

set_option maxRecDepth 100000 in
set_option maxHeartbeats 2000000 in
theorem C (list : (List Go.Proofs.Ythkaeighfjadlaa.PMail.Mail)) (from_1 : Int) (minute : Int) (route : (List Int)) (A0 : Option Addr) (c0 : Nat) (A3 : Option Addr) (c3 : Nat)  (w : World) (M0 : Hid (Cells w 4 A0 list.length (Go.Proofs.Ythkaeighfjadlaa.PMail.flat list))) (N0 : Hid (list.length ≤ 9223372036854775807)) (M3 : Hid (Cells w 1 A3 route.length (Go.Proofs.Ythkaeighfjadlaa.HelpInt.iv route))) (N3 : Hid (route.length ≤ 9223372036854775807))  {r0 : Int} {r1 : Int} {r2 : Bool} (H : Hid (P list from_1 minute route = some (r0, r1, r2))) :
    Calls Try.prog 77 #[.slice A0 list.length c0, .int .i64 from_1, .int .i64 minute, .slice A3 route.length c3] w (Gives (.tuple #[.int .i64 r0, .int .i64 r1, .bool r2]) w) := by
  have HB := Lib.hid (Below.refl w.heap.size w)
  unfold P at H
  have N0o := N0.out
  have N3o := N3.out
  go_enter Try.func77, Try.ntmps77
  go_wp2_with fail
  go_loopg [11, 1, 2] (route.length) (fun m_ v11_ v1_ v2_ wr => ∃ (k0 : Nat) (from_1l0 : Int) (minute_2l0 : Int), k0 + m_ = route.length ∧ v11_ = .int .i64 (k0 : Int) ∧ v1_ = .int .i64 from_1l0 ∧ v2_ = .int .i64 minute_2l0 ∧ Hid (cntK (l0 list route) m_ k0 (from_1l0, minute_2l0) (e0 ) = some (r0, r1, r2)) ∧ Hid (Below w.heap.size w wr))
  case atStart => exact ⟨0, _, _, by omega, rfl, rfl, rfl, H, HB⟩
  case round =>
    obtain ⟨k0, from_1l0, minute_2l0, hkm0, rfl, rfl, rfl, H, HBwr0⟩ := hrel
    rename World => wr0
    cases gk with
    | zero =>
      obtain rfl : k0 = route.length := by omega
      have hc0 : decide (((route.length : Nat) : Int) < ((route.length : Nat) : Int)) = false := by simp
      replace H := cnt_zero H
      unfold e0 at H
      replace H := unp2_hid H
      cases ret_hid H
      go_wp2_with fail
      go_ret3
      exact ⟨rfl, HBwr0.out⟩
    | succ m0 =>
      have hlt0 : k0 < route.length := by omega
      have hc0 : decide ((k0 : Int) < ((route.length : Nat) : Int)) = true := by simp; omega
      replace H := cnt_succ H
      unfold l0 at H
      replace H := unp2_hid H
      replace H := idx_hid H
      obtain ⟨nt_10, yt_10, et_10, lt_10, gt_10, H⟩ := H
      obtain rfl : k0 = nt_10 := by omega
      clear et_10
      obtain ⟨ab_t_10, ao_t_10, zt_10, At_10, z_t_10, ct_10_0⟩ := Go.Proofs.Ythkaeighfjadlaa.HelpInt.Ints.at_ M3.out lt_10
      obtain rfl := Option.some.inj (gt_10.out.symm.trans z_t_10)
      subst At_10
      have ltt_10 := cell_lt ct_10_0
      replace ct_10_0 := cell_below HBwr0.out ct_10_0
      clear z_t_10
      have b0t_10 : (0 : Int) ≤ (k0 : Int) := by omega
      have b1t_10 : (k0 : Int) < ((route.length : Nat) : Int) := by omega
      have b2t_10 : ((k0 : Int)).toNat = k0 := by omega
      replace H := let_hid H
      obtain ⟨t_12, ht_12, H⟩ := H
      replace H := join_hid H
      cases t_12 with
      | false =>
        replace H := ite_f H
        replace H := idx_hid H
        obtain ⟨nt_16, yt_16, et_16, lt_16, gt_16, H⟩ := H
        obtain rfl : k0 = nt_16 := by omega
        clear et_16
        obtain rfl := Option.some.inj (gt_10.out.symm.trans gt_16.out)
        clear gt_16 lt_16
        replace H := let_hid H
        obtain ⟨t_20, ht_20, H⟩ := H
        replace H := app_hid H
        cases t_20 with
        | false =>
          replace H := ite_f H
          replace H := idx_hid H
          obtain ⟨nt_28, yt_28, et_28, lt_28, gt_28, H⟩ := H
          obtain rfl : k0 = nt_28 := by omega
          clear et_28
          obtain rfl := Option.some.inj (gt_10.out.symm.trans gt_28.out)
          clear gt_28 lt_28
          replace H := idx_hid H
          obtain ⟨nt_30, yt_30, et_30, lt_30, gt_30, H⟩ := H
          subst et_30
          have nc_369 : ¬ (nt_30 < 0) := by have := of_decide_eq_false ht_12; omega
          have nc_370 : ¬ (list.length ≤ nt_30) := by have := of_decide_eq_false ht_20; omega
          obtain ⟨t_30_leave, t_30_from_, t_30_to_, t_30_arrive⟩ := yt_30
          replace H := unMail_hid H
          obtain ⟨ab_t_30, ao_t_30, zt_30, At_30, z_t_30, ct_30_0, ct_30_1, ct_30_2, ct_30_3⟩ := Go.Proofs.Ythkaeighfjadlaa.OMail.at_ M0.out lt_30
          obtain rfl := Option.some.inj (gt_30.out.symm.trans z_t_30)
          subst At_30
          have ltt_30 := cell_lt ct_30_0
          replace ct_30_0 := cell_below HBwr0.out ct_30_0
          replace ct_30_1 := cell_below HBwr0.out ct_30_1
          replace ct_30_2 := cell_below HBwr0.out ct_30_2
          replace ct_30_3 := cell_below HBwr0.out ct_30_3
          clear z_t_30
          have b0t_30 : (0 : Int) ≤ (nt_30 : Int) := by omega
          have b1t_30 : (nt_30 : Int) < ((list.length : Nat) : Int) := by omega
          have b2t_30 : ((nt_30 : Int)).toNat = nt_30 := by omega
          obtain ⟨w_x_32, hw_x_32⟩ : ∃ x, wr0.alloc (.cells #[.int .i64 t_30_leave, .int .i64 t_30_from_, .int .i64 t_30_to_, .int .i64 t_30_arrive] 93) = x := ⟨_, rfl⟩
          have bw_x_32 : Below wr0.heap.size wr0 w_x_32 := by rw [← hw_x_32]; exact (Below.refl _ _).alloc (Nat.le_refl _) _
          have HBw_x_32 := Lib.hid (Below.step HBwr0.out bw_x_32)
          have ct_10_0__371 := cell_below bw_x_32 ct_10_0
          have ct_30_0__372 := cell_below bw_x_32 ct_30_0
          have ct_30_1__373 := cell_below bw_x_32 ct_30_1
          have ct_30_2__374 := cell_below bw_x_32 ct_30_2
          have ct_30_3__375 := cell_below bw_x_32 ct_30_3
          clear bw_x_32
          have kx_32_0 : w_x_32.cell? ⟨wr0.heap.size, 0, none⟩ = some (.int .i64 t_30_leave) := by rw [← hw_x_32]; exact box_new _ _ _ 0 _ rfl
          have kx_32_1 : w_x_32.cell? ⟨wr0.heap.size, 1, none⟩ = some (.int .i64 t_30_from_) := by rw [← hw_x_32]; exact box_new _ _ _ 1 _ rfl
          have kx_32_2 : w_x_32.cell? ⟨wr0.heap.size, 2, none⟩ = some (.int .i64 t_30_to_) := by rw [← hw_x_32]; exact box_new _ _ _ 2 _ rfl
          have kx_32_3 : w_x_32.cell? ⟨wr0.heap.size, 3, none⟩ = some (.int .i64 t_30_arrive) := by rw [← hw_x_32]; exact box_new _ _ _ 3 _ rfl
          replace H := let_hid H
          obtain ⟨t_37, ht_37, H⟩ := H
          replace H := join_hid H
          cases t_37 with
          | false =>
            replace H := ite_f H
            replace H := let_hid H
            obtain ⟨t_42, ht_42, H⟩ := H
            replace H := app_hid H
            cases t_42 with
            | false =>
              replace H := ite_f H
              replace H := app_hid H
              go_wp2_with fail
              clear ct_10_0 ct_30_0 ct_30_1 ct_30_2 ct_30_3
              go_roundg m0
              case measure => omega
              case rel => exact ⟨k0 + 1, _, _, by omega, by go_num, rfl, rfl, H, HBw_x_32⟩
            | true =>
              replace H := ite_t H
              cases ret_hid H
              go_wp2_with fail
              go_ret3
              exact ⟨rfl, HBw_x_32.out⟩
          | true =>
            replace H := ite_t H
            replace H := app_hid H
            replace H := ite_t H
            cases ret_hid H
            go_wp2_with fail
            go_ret3
            exact ⟨rfl, HBw_x_32.out⟩
        | true =>
          replace H := ite_t H
          cases ret_hid H
          go_wp2_with fail
          go_ret3
          exact ⟨rfl, HBwr0.out⟩
      | true =>
        replace H := ite_t H
        replace H := app_hid H
        replace H := ite_t H
        cases ret_hid H
        go_wp2_with fail
        go_ret3
        exact ⟨rfl, HBwr0.out⟩
end Go.Proofs.Ythkaeighfjadlaa.GsL9End

/- loop.example/g01062/spec.IsRoute as a plain function, and the contract of the program's: where the plain one has an answer, the program has it. Conditions: slices read as lists. -/
namespace Go.Proofs.Ythkaeighfjadlaa.GsIsRoute
set_option linter.unusedVariables false
set_option linter.unusedSimpArgs false
open Go.RowKit
open Go.Proofs.Ythkaeighfjadlaa.Rowed Go.Proofs.Ythkaeighfjadlaa.Turn Go.Proofs.Ythkaeighfjadlaa.Aid Go.Proofs.Ythkaeighfjadlaa.GoP Go.Proofs.Ythkaeighfjadlaa.GoM

def P (list : (List Go.Proofs.Ythkaeighfjadlaa.PMail.Mail)) (from_1 : Int) (minute : Int) (route : (List Int)) : Option (Bool × Bool) :=
  Option.bind (Go.Proofs.Ythkaeighfjadlaa.GsL9Asked.P list from_1 minute) fun (t_5 : Bool) =>
  letK (!t_5) fun (t_6 : Bool) =>
  joinK (fun (t_11 : Bool) =>
  iteK t_11
  (some (false, false))
  (bind3 (Go.Proofs.Ythkaeighfjadlaa.GsL9End.P list from_1 minute route) fun (t_18a : Int) (t_18b : Int) (t_18c : Bool) =>
  some (t_18c, true))) fun jt_11 => iteK t_6 (appK jt_11 true) (letK (decide (20 < (route.length : Int))) fun (t_10 : Bool) =>
  appK jt_11 t_10)

set_option maxRecDepth 100000 in
set_option maxHeartbeats 2000000 in
theorem C (list : (List Go.Proofs.Ythkaeighfjadlaa.PMail.Mail)) (from_1 : Int) (minute : Int) (route : (List Int)) (A0 : Option Addr) (c0 : Nat) (A3 : Option Addr) (c3 : Nat)  (w : World) (M0 : Hid (Cells w 4 A0 list.length (Go.Proofs.Ythkaeighfjadlaa.PMail.flat list))) (N0 : Hid (list.length ≤ 9223372036854775807)) (M3 : Hid (Cells w 1 A3 route.length (Go.Proofs.Ythkaeighfjadlaa.HelpInt.iv route))) (N3 : Hid (route.length ≤ 9223372036854775807))  {r0 : Bool} {r1 : Bool} (H : Hid (P list from_1 minute route = some (r0, r1))) :
    Calls Try.prog 22 #[.slice A0 list.length c0, .int .i64 from_1, .int .i64 minute, .slice A3 route.length c3] w (Gives (.tuple #[.bool r0, .bool r1]) w) := by
  have HB := Lib.hid (Below.refl w.heap.size w)
  unfold P at H
  have N0o := N0.out
  have N3o := N3.out
  go_enter Try.func22, Try.ntmps22
  replace H := bind_hid H
  obtain ⟨t_5, qt_5, H⟩ := H
  go_wp2_with fail
  go_at_call 69
  refine (Go.Proofs.Ythkaeighfjadlaa.GsL9Asked.C (list) (from_1) (minute) A0 c0 _   (Lib.hid (Cells.below M0.out HB.out)) N0 qt_5).mono ?_
  rintro e_t_5 wt_5 ⟨rfl, bt_5⟩
  have HBwt_5 := Lib.hid (Below.step HB.out bt_5)
  clear bt_5
  cases t_5 with
  | false =>
    replace H := let_hid H
    obtain ⟨t_6, ht_6, H⟩ := H
    obtain rfl : t_6 = true := ht_6.symm
    replace H := join_hid H
    replace H := ite_t H
    replace H := app_hid H
    replace H := ite_t H
    cases ret_hid H
    go_wp2_with fail
    go_ret2
    exact ⟨rfl, HBwt_5.out⟩
  | true =>
    replace H := let_hid H
    obtain ⟨t_6, ht_6, H⟩ := H
    obtain rfl : t_6 = false := ht_6.symm
    replace H := join_hid H
    replace H := ite_f H
    replace H := let_hid H
    obtain ⟨t_10, ht_10, H⟩ := H
    replace H := app_hid H
    cases t_10 with
    | false =>
      have nht_10 : ¬ (20 < route.length) := by have := of_decide_eq_false ht_10; omega
      replace H := ite_f H
      replace H := bind3_hid H
      obtain ⟨t_18a, t_18b, t_18c, qt_18, H⟩ := H
      go_wp2_with fail
      go_at_call 77
      refine (Go.Proofs.Ythkaeighfjadlaa.GsL9End.C (list) (from_1) (minute) (route) A0 c0 A3 c3 _   (Lib.hid (Cells.below M0.out HBwt_5.out)) N0 (Lib.hid (Cells.below M3.out HBwt_5.out)) N3 qt_18).mono ?_
      rintro e_t_18 wt_18 ⟨rfl, bt_18⟩
      have HBwt_18 := Lib.hid (Below.step HBwt_5.out bt_18)
      clear bt_18
      cases ret_hid H
      go_wp2_with fail
      go_ret2
      exact ⟨rfl, HBwt_18.out⟩
    | true =>
      have nht_10 : 20 < route.length := by have := of_decide_eq_true ht_10; omega
      replace H := ite_t H
      cases ret_hid H
      go_wp2_with fail
      go_ret2
      exact ⟨rfl, HBwt_5.out⟩
end Go.Proofs.Ythkaeighfjadlaa.GsIsRoute

/- loop.example/g01062/spec.EndOfRoute as a plain function, and the contract of the program's: where the plain one has an answer, the program has it. Conditions: slices read as lists. -/
namespace Go.Proofs.Ythkaeighfjadlaa.GsEndOfRoute
set_option linter.unusedVariables false
set_option linter.unusedSimpArgs false
open Go.RowKit
open Go.Proofs.Ythkaeighfjadlaa.Rowed Go.Proofs.Ythkaeighfjadlaa.Turn Go.Proofs.Ythkaeighfjadlaa.Aid Go.Proofs.Ythkaeighfjadlaa.GoP Go.Proofs.Ythkaeighfjadlaa.GoM

def P (list : (List Go.Proofs.Ythkaeighfjadlaa.PMail.Mail)) (from_1 : Int) (minute : Int) (route : (List Int)) : Option (Int × Int × Bool) :=
  Option.bind (Go.Proofs.Ythkaeighfjadlaa.GsL9Asked.P list from_1 minute) fun (t_6 : Bool) =>
  letK (!t_6) fun (t_7 : Bool) =>
  iteK t_7
  (some (0, 0, false))
  (bind3 (Go.Proofs.Ythkaeighfjadlaa.GsL9End.P list from_1 minute route) fun (t_15a : Int) (t_15b : Int) (t_15c : Bool) =>
  some (t_15a, t_15b, t_15c))

set_option maxRecDepth 100000 in
set_option maxHeartbeats 2000000 in
theorem C (list : (List Go.Proofs.Ythkaeighfjadlaa.PMail.Mail)) (from_1 : Int) (minute : Int) (route : (List Int)) (A0 : Option Addr) (c0 : Nat) (A3 : Option Addr) (c3 : Nat)  (w : World) (M0 : Hid (Cells w 4 A0 list.length (Go.Proofs.Ythkaeighfjadlaa.PMail.flat list))) (N0 : Hid (list.length ≤ 9223372036854775807)) (M3 : Hid (Cells w 1 A3 route.length (Go.Proofs.Ythkaeighfjadlaa.HelpInt.iv route))) (N3 : Hid (route.length ≤ 9223372036854775807))  {r0 : Int} {r1 : Int} {r2 : Bool} (H : Hid (P list from_1 minute route = some (r0, r1, r2))) :
    Calls Try.prog 23 #[.slice A0 list.length c0, .int .i64 from_1, .int .i64 minute, .slice A3 route.length c3] w (Gives (.tuple #[.int .i64 r0, .int .i64 r1, .bool r2]) w) := by
  have HB := Lib.hid (Below.refl w.heap.size w)
  unfold P at H
  have N0o := N0.out
  have N3o := N3.out
  go_enter Try.func23, Try.ntmps23
  replace H := bind_hid H
  obtain ⟨t_6, qt_6, H⟩ := H
  go_wp2_with fail
  go_at_call 69
  refine (Go.Proofs.Ythkaeighfjadlaa.GsL9Asked.C (list) (from_1) (minute) A0 c0 _   (Lib.hid (Cells.below M0.out HB.out)) N0 qt_6).mono ?_
  rintro e_t_6 wt_6 ⟨rfl, bt_6⟩
  have HBwt_6 := Lib.hid (Below.step HB.out bt_6)
  clear bt_6
  cases t_6 with
  | false =>
    replace H := let_hid H
    obtain ⟨t_7, ht_7, H⟩ := H
    obtain rfl : t_7 = true := ht_7.symm
    replace H := ite_t H
    cases ret_hid H
    go_wp2_with fail
    go_ret3
    exact ⟨rfl, HBwt_6.out⟩
  | true =>
    replace H := let_hid H
    obtain ⟨t_7, ht_7, H⟩ := H
    obtain rfl : t_7 = false := ht_7.symm
    replace H := ite_f H
    replace H := bind3_hid H
    obtain ⟨t_15a, t_15b, t_15c, qt_15, H⟩ := H
    go_wp2_with fail
    go_at_call 77
    refine (Go.Proofs.Ythkaeighfjadlaa.GsL9End.C (list) (from_1) (minute) (route) A0 c0 A3 c3 _   (Lib.hid (Cells.below M0.out HBwt_6.out)) N0 (Lib.hid (Cells.below M3.out HBwt_6.out)) N3 qt_15).mono ?_
    rintro e_t_15 wt_15 ⟨rfl, bt_15⟩
    have HBwt_15 := Lib.hid (Below.step HBwt_6.out bt_15)
    clear bt_15
    cases ret_hid H
    go_wp2_with fail
    go_ret3
    exact ⟨rfl, HBwt_15.out⟩
end Go.Proofs.Ythkaeighfjadlaa.GsEndOfRoute

/- loop.example/g01062/impl.WaitsOn as a plain function, and the contract of the program's: where the plain one has an answer, the program has it. Conditions: slices read as lists. -/
namespace Go.Proofs.Ythkaeighfjadlaa.GiWaitsOn
set_option linter.unusedVariables false
set_option linter.unusedSimpArgs false
open Go.RowKit
open Go.Proofs.Ythkaeighfjadlaa.Rowed Go.Proofs.Ythkaeighfjadlaa.Turn Go.Proofs.Ythkaeighfjadlaa.Aid Go.Proofs.Ythkaeighfjadlaa.GoP Go.Proofs.Ythkaeighfjadlaa.GoM

def l0 (list : (List Go.Proofs.Ythkaeighfjadlaa.PMail.Mail)) (route : (List Int)) (k0 : Nat) (s : Int) (nx0 bk0 : Int → Option (Int × Bool)) : Option (Int × Bool) :=
  letK s fun waits_13l0 =>
  Option.bind (idx route (k0 : Int)) fun (yt_26 : Int) =>
  Option.bind (idx list yt_26) fun (yt_32 : Go.Proofs.Ythkaeighfjadlaa.PMail.Mail) =>
  unMail yt_32 fun (t_32_leave : Int) (t_32_from_ : Int) (t_32_to_ : Int) (t_32_arrive : Int) =>
  Option.bind (idx list yt_26) fun (yt_37 : Go.Proofs.Ythkaeighfjadlaa.PMail.Mail) =>
  unMail yt_37 fun (t_37_leave : Int) (t_37_from_ : Int) (t_37_to_ : Int) (t_37_arrive : Int) =>
  letK (IntKind.i64.wrap (t_32_arrive - t_37_leave)) fun (t_40 : Int) =>
  letK (IntKind.i64.wrap (waits_13l0 - t_40)) fun (t_41 : Int) =>
  appK nx0 (t_41)

def e0  (s : Int) : Option (Int × Bool) :=
  letK s fun waits_13l0 =>
  some (waits_13l0, true)

def P (list : (List Go.Proofs.Ythkaeighfjadlaa.PMail.Mail)) (from_1 : Int) (minute : Int) (route : (List Int)) : Option (Int × Bool) :=
  bind3 (Go.Proofs.Ythkaeighfjadlaa.GiEndOfRoute.P list from_1 minute route) fun (t_6a : Int) (t_6b : Int) (t_6c : Bool) =>
  letK (!t_6c) fun (t_15 : Bool) =>
  iteK t_15
  (some (0, false))
  (letK (IntKind.i64.wrap (t_6b - minute)) fun (t_20 : Int) =>
  cntK (l0 list route) (route.length) 0 (t_20) (e0 ))

set_option maxRecDepth 100000 in
set_option maxHeartbeats 2000000 in
theorem C (list : (List Go.Proofs.Ythkaeighfjadlaa.PMail.Mail)) (from_1 : Int) (minute : Int) (route : (List Int)) (A0 : Option Addr) (c0 : Nat) (A3 : Option Addr) (c3 : Nat)  (w : World) (M0 : Hid (Cells w 4 A0 list.length (Go.Proofs.Ythkaeighfjadlaa.PMail.flat list))) (N0 : Hid (list.length ≤ 9223372036854775807)) (M3 : Hid (Cells w 1 A3 route.length (Go.Proofs.Ythkaeighfjadlaa.HelpInt.iv route))) (N3 : Hid (route.length ≤ 9223372036854775807))  {r0 : Int} {r1 : Bool} (H : Hid (P list from_1 minute route = some (r0, r1))) :
    Calls Try.prog 24 #[.slice A0 list.length c0, .int .i64 from_1, .int .i64 minute, .slice A3 route.length c3] w (Gives (.tuple #[.int .i64 r0, .bool r1]) w) := by
  have HB := Lib.hid (Below.refl w.heap.size w)
  unfold P at H
  have N0o := N0.out
  have N3o := N3.out
  go_enter Try.func24, Try.ntmps24
  replace H := bind3_hid H
  obtain ⟨t_6a, t_6b, t_6c, qt_6, H⟩ := H
  go_wp2_with fail
  go_at_call 17
  refine (Go.Proofs.Ythkaeighfjadlaa.GiEndOfRoute.C (list) (from_1) (minute) (route) A0 c0 A3 c3 _   (Lib.hid (Cells.below M0.out HB.out)) N0 (Lib.hid (Cells.below M3.out HB.out)) N3 qt_6).mono ?_
  rintro e_t_6 wt_6 ⟨rfl, bt_6⟩
  have HBwt_6 := Lib.hid (Below.step HB.out bt_6)
  clear bt_6
  cases t_6c with
  | false =>
    replace H := let_hid H
    obtain ⟨t_15, ht_15, H⟩ := H
    obtain rfl : t_15 = true := ht_15.symm
    replace H := ite_t H
    cases ret_hid H
    go_wp2_with fail
    go_ret2
    exact ⟨rfl, HBwt_6.out⟩
  | true =>
    replace H := let_hid H
    obtain ⟨t_15, ht_15, H⟩ := H
    obtain rfl : t_15 = false := ht_15.symm
    replace H := ite_f H
    replace H := let_hid H
    obtain ⟨t_20, ht_20, H⟩ := H
    go_wp2_with fail
    go_loopg [32, 13] (route.length) (fun m_ v32_ v13_ wr => ∃ (k0 : Nat) (waits_13l0 : Int), k0 + m_ = route.length ∧ v32_ = .int .i64 (k0 : Int) ∧ v13_ = .int .i64 waits_13l0 ∧ Hid (cntK (l0 list route) m_ k0 (waits_13l0) (e0 ) = some (r0, r1)) ∧ Hid (Below w.heap.size w wr))
    case atStart => exact ⟨0, _, by omega, rfl, rfl, H, HBwt_6⟩
    case round =>
      obtain ⟨k0, waits_13l0, hkm0, rfl, rfl, H, HBwr0⟩ := hrel
      rename World => wr0
      cases gk with
      | zero =>
        obtain rfl : k0 = route.length := by omega
        have hc0 : decide (((route.length : Nat) : Int) < ((route.length : Nat) : Int)) = false := by simp
        replace H := cnt_zero H
        unfold e0 at H
        replace H := let_hid H
        obtain ⟨_, rfl, H⟩ := H
        cases ret_hid H
        go_wp2_with fail
        go_ret2
        exact ⟨rfl, HBwr0.out⟩
      | succ m0 =>
        have hlt0 : k0 < route.length := by omega
        have hc0 : decide ((k0 : Int) < ((route.length : Nat) : Int)) = true := by simp; omega
        replace H := cnt_succ H
        unfold l0 at H
        replace H := let_hid H
        obtain ⟨_, rfl, H⟩ := H
        replace H := idx_hid H
        obtain ⟨nt_26, yt_26, et_26, lt_26, gt_26, H⟩ := H
        obtain rfl : k0 = nt_26 := by omega
        clear et_26
        obtain ⟨ab_t_26, ao_t_26, zt_26, At_26, z_t_26, ct_26_0⟩ := Go.Proofs.Ythkaeighfjadlaa.HelpInt.Ints.at_ M3.out lt_26
        obtain rfl := Option.some.inj (gt_26.out.symm.trans z_t_26)
        subst At_26
        have ltt_26 := cell_lt ct_26_0
        replace ct_26_0 := cell_below HBwr0.out ct_26_0
        clear z_t_26
        have b0t_26 : (0 : Int) ≤ (k0 : Int) := by omega
        have b1t_26 : (k0 : Int) < ((route.length : Nat) : Int) := by omega
        have b2t_26 : ((k0 : Int)).toNat = k0 := by omega
        go_wp2_with fail
        have Hct_26_0 := Lib.hid ct_26_0
        replace ct_26_0 := cell_regrown ct_26_0
        replace H := idx_hid H
        obtain ⟨nt_32, yt_32, et_32, lt_32, gt_32, H⟩ := H
        subst et_32
        obtain ⟨t_32_leave, t_32_from_, t_32_to_, t_32_arrive⟩ := yt_32
        replace H := unMail_hid H
        obtain ⟨ab_t_32, ao_t_32, zt_32, At_32, z_t_32, ct_32_0, ct_32_1, ct_32_2, ct_32_3⟩ := Go.Proofs.Ythkaeighfjadlaa.OMail.at_ M0.out lt_32
        obtain rfl := Option.some.inj (gt_32.out.symm.trans z_t_32)
        subst At_32
        have ltt_32 := cell_lt ct_32_0
        replace ct_32_0 := cell_below HBwr0.out ct_32_0
        replace ct_32_1 := cell_below HBwr0.out ct_32_1
        replace ct_32_2 := cell_below HBwr0.out ct_32_2
        replace ct_32_3 := cell_below HBwr0.out ct_32_3
        clear z_t_32
        have b0t_32 : (0 : Int) ≤ (nt_32 : Int) := by omega
        have b1t_32 : (nt_32 : Int) < ((list.length : Nat) : Int) := by omega
        have b2t_32 : ((nt_32 : Int)).toNat = nt_32 := by omega
        have Hct_32_0 := Lib.hid ct_32_0
        replace ct_32_0 := cell_regrown ct_32_0
        have Hct_32_1 := Lib.hid ct_32_1
        replace ct_32_1 := cell_regrown ct_32_1
        have Hct_32_2 := Lib.hid ct_32_2
        replace ct_32_2 := cell_regrown ct_32_2
        have Hct_32_3 := Lib.hid ct_32_3
        replace ct_32_3 := cell_regrown ct_32_3
        replace H := idx_hid H
        obtain ⟨nt_37, yt_37, et_37, lt_37, gt_37, H⟩ := H
        obtain rfl : nt_32 = nt_37 := by omega
        clear et_37
        obtain rfl := Option.some.inj (gt_32.out.symm.trans gt_37.out)
        clear gt_37 lt_37
        replace H := unMail_hid H
        replace H := let_hid H
        obtain ⟨t_40, ht_40, H⟩ := H
        replace H := let_hid H
        obtain ⟨t_41, ht_41, H⟩ := H
        refine wp_region_quiet_below (by kernel_rfl) (by kernel_rfl) ?_
        repeat (go_big_quiet_step (fail))
        refine wpQuiet_nil ?_
        intro Y8 hY8
        replace hY8 := below_class hY8
        replace ct_26_0 := Hct_26_0.out
        clear Hct_26_0
        replace ct_32_0 := Hct_32_0.out
        clear Hct_32_0
        replace ct_32_1 := Hct_32_1.out
        clear Hct_32_1
        replace ct_32_2 := Hct_32_2.out
        clear Hct_32_2
        replace ct_32_3 := Hct_32_3.out
        clear Hct_32_3
        have HBY8 := Lib.hid (Below.step HBwr0.out hY8)
        replace ct_26_0 := cell_below hY8 ct_26_0
        replace ct_32_0 := cell_below hY8 ct_32_0
        replace ct_32_1 := cell_below hY8 ct_32_1
        replace ct_32_2 := cell_below hY8 ct_32_2
        replace ct_32_3 := cell_below hY8 ct_32_3
        clear hY8
        replace H := app_hid H
        go_wp2_with fail
        go_roundg m0
        case measure => omega
        case rel => exact ⟨k0 + 1, _, by omega, by go_num, rfl, H, HBY8⟩
end Go.Proofs.Ythkaeighfjadlaa.GiWaitsOn

/- loop.example/g01062/spec.WaitsOn as a plain function, and the contract of the program's: where the plain one has an answer, the program has it. Conditions: slices read as lists. -/
namespace Go.Proofs.Ythkaeighfjadlaa.GsWaitsOn
set_option linter.unusedVariables false
set_option linter.unusedSimpArgs false
open Go.RowKit
open Go.Proofs.Ythkaeighfjadlaa.Rowed Go.Proofs.Ythkaeighfjadlaa.Turn Go.Proofs.Ythkaeighfjadlaa.Aid Go.Proofs.Ythkaeighfjadlaa.GoP Go.Proofs.Ythkaeighfjadlaa.GoM

def l0 (list : (List Go.Proofs.Ythkaeighfjadlaa.PMail.Mail)) (route : (List Int)) (k0 : Nat) (s : Int) (nx0 bk0 : Int → Option (Int × Bool)) : Option (Int × Bool) :=
  letK s fun waits_13l0 =>
  Option.bind (idx route (k0 : Int)) fun (yt_31 : Int) =>
  Option.bind (idx list yt_31) fun (yt_33 : Go.Proofs.Ythkaeighfjadlaa.PMail.Mail) =>
  unMail yt_33 fun (t_33_leave : Int) (t_33_from_ : Int) (t_33_to_ : Int) (t_33_arrive : Int) =>
  letK (IntKind.i64.wrap (waits_13l0 - t_33_arrive)) fun (t_36 : Int) =>
  Option.bind (idx route (k0 : Int)) fun (yt_40 : Int) =>
  Option.bind (idx list yt_40) fun (yt_42 : Go.Proofs.Ythkaeighfjadlaa.PMail.Mail) =>
  unMail yt_42 fun (t_42_leave : Int) (t_42_from_ : Int) (t_42_to_ : Int) (t_42_arrive : Int) =>
  letK (IntKind.i64.wrap (t_36 + t_42_leave)) fun (t_45 : Int) =>
  appK nx0 (t_45)

def e0  (s : Int) : Option (Int × Bool) :=
  letK s fun waits_13l0 =>
  some (waits_13l0, true)

def P (list : (List Go.Proofs.Ythkaeighfjadlaa.PMail.Mail)) (from_1 : Int) (minute : Int) (route : (List Int)) : Option (Int × Bool) :=
  bind3 (Go.Proofs.Ythkaeighfjadlaa.GsEndOfRoute.P list from_1 minute route) fun (t_6a : Int) (t_6b : Int) (t_6c : Bool) =>
  letK (!t_6c) fun (t_15 : Bool) =>
  iteK t_15
  (some (0, false))
  (letK (IntKind.i64.wrap (t_6b - minute)) fun (t_20 : Int) =>
  cntK (l0 list route) (route.length) 0 (t_20) (e0 ))

set_option maxRecDepth 100000 in
set_option maxHeartbeats 2000000 in
theorem C (list : (List Go.Proofs.Ythkaeighfjadlaa.PMail.Mail)) (from_1 : Int) (minute : Int) (route : (List Int)) (A0 : Option Addr) (c0 : Nat) (A3 : Option Addr) (c3 : Nat)  (w : World) (M0 : Hid (Cells w 4 A0 list.length (Go.Proofs.Ythkaeighfjadlaa.PMail.flat list))) (N0 : Hid (list.length ≤ 9223372036854775807)) (M3 : Hid (Cells w 1 A3 route.length (Go.Proofs.Ythkaeighfjadlaa.HelpInt.iv route))) (N3 : Hid (route.length ≤ 9223372036854775807))  {r0 : Int} {r1 : Bool} (H : Hid (P list from_1 minute route = some (r0, r1))) :
    Calls Try.prog 25 #[.slice A0 list.length c0, .int .i64 from_1, .int .i64 minute, .slice A3 route.length c3] w (Gives (.tuple #[.int .i64 r0, .bool r1]) w) := by
  have HB := Lib.hid (Below.refl w.heap.size w)
  unfold P at H
  have N0o := N0.out
  have N3o := N3.out
  go_enter Try.func25, Try.ntmps25
  replace H := bind3_hid H
  obtain ⟨t_6a, t_6b, t_6c, qt_6, H⟩ := H
  go_wp2_with fail
  go_at_call 23
  refine (Go.Proofs.Ythkaeighfjadlaa.GsEndOfRoute.C (list) (from_1) (minute) (route) A0 c0 A3 c3 _   (Lib.hid (Cells.below M0.out HB.out)) N0 (Lib.hid (Cells.below M3.out HB.out)) N3 qt_6).mono ?_
  rintro e_t_6 wt_6 ⟨rfl, bt_6⟩
  have HBwt_6 := Lib.hid (Below.step HB.out bt_6)
  clear bt_6
  cases t_6c with
  | false =>
    replace H := let_hid H
    obtain ⟨t_15, ht_15, H⟩ := H
    obtain rfl : t_15 = true := ht_15.symm
    replace H := ite_t H
    cases ret_hid H
    go_wp2_with fail
    go_ret2
    exact ⟨rfl, HBwt_6.out⟩
  | true =>
    replace H := let_hid H
    obtain ⟨t_15, ht_15, H⟩ := H
    obtain rfl : t_15 = false := ht_15.symm
    replace H := ite_f H
    replace H := let_hid H
    obtain ⟨t_20, ht_20, H⟩ := H
    go_wp2_with fail
    go_loopg [14, 13] (route.length) (fun m_ v14_ v13_ wr => ∃ (k0 : Nat) (waits_13l0 : Int), k0 + m_ = route.length ∧ v14_ = .int .i64 (k0 : Int) ∧ v13_ = .int .i64 waits_13l0 ∧ Hid (cntK (l0 list route) m_ k0 (waits_13l0) (e0 ) = some (r0, r1)) ∧ Hid (Below w.heap.size w wr))
    case atStart => exact ⟨0, _, by omega, rfl, rfl, H, HBwt_6⟩
    case round =>
      obtain ⟨k0, waits_13l0, hkm0, rfl, rfl, H, HBwr0⟩ := hrel
      rename World => wr0
      cases gk with
      | zero =>
        obtain rfl : k0 = route.length := by omega
        have hc0 : decide (((route.length : Nat) : Int) < ((route.length : Nat) : Int)) = false := by simp
        replace H := cnt_zero H
        unfold e0 at H
        replace H := let_hid H
        obtain ⟨_, rfl, H⟩ := H
        cases ret_hid H
        go_wp2_with fail
        go_ret2
        exact ⟨rfl, HBwr0.out⟩
      | succ m0 =>
        have hlt0 : k0 < route.length := by omega
        have hc0 : decide ((k0 : Int) < ((route.length : Nat) : Int)) = true := by simp; omega
        replace H := cnt_succ H
        unfold l0 at H
        replace H := let_hid H
        obtain ⟨_, rfl, H⟩ := H
        go_wp2_with fail
        replace H := idx_hid H
        obtain ⟨nt_31, yt_31, et_31, lt_31, gt_31, H⟩ := H
        obtain rfl : k0 = nt_31 := by omega
        clear et_31
        obtain ⟨ab_t_31, ao_t_31, zt_31, At_31, z_t_31, ct_31_0⟩ := Go.Proofs.Ythkaeighfjadlaa.HelpInt.Ints.at_ M3.out lt_31
        obtain rfl := Option.some.inj (gt_31.out.symm.trans z_t_31)
        subst At_31
        have ltt_31 := cell_lt ct_31_0
        replace ct_31_0 := cell_below HBwr0.out ct_31_0
        clear z_t_31
        have b0t_31 : (0 : Int) ≤ (k0 : Int) := by omega
        have b1t_31 : (k0 : Int) < ((route.length : Nat) : Int) := by omega
        have b2t_31 : ((k0 : Int)).toNat = k0 := by omega
        have Hct_31_0 := Lib.hid ct_31_0
        replace ct_31_0 := cell_regrown ct_31_0
        replace H := idx_hid H
        obtain ⟨nt_33, yt_33, et_33, lt_33, gt_33, H⟩ := H
        subst et_33
        obtain ⟨t_33_leave, t_33_from_, t_33_to_, t_33_arrive⟩ := yt_33
        replace H := unMail_hid H
        obtain ⟨ab_t_33, ao_t_33, zt_33, At_33, z_t_33, ct_33_0, ct_33_1, ct_33_2, ct_33_3⟩ := Go.Proofs.Ythkaeighfjadlaa.OMail.at_ M0.out lt_33
        obtain rfl := Option.some.inj (gt_33.out.symm.trans z_t_33)
        subst At_33
        have ltt_33 := cell_lt ct_33_0
        replace ct_33_0 := cell_below HBwr0.out ct_33_0
        replace ct_33_1 := cell_below HBwr0.out ct_33_1
        replace ct_33_2 := cell_below HBwr0.out ct_33_2
        replace ct_33_3 := cell_below HBwr0.out ct_33_3
        clear z_t_33
        have b0t_33 : (0 : Int) ≤ (nt_33 : Int) := by omega
        have b1t_33 : (nt_33 : Int) < ((list.length : Nat) : Int) := by omega
        have b2t_33 : ((nt_33 : Int)).toNat = nt_33 := by omega
        have Hct_33_0 := Lib.hid ct_33_0
        replace ct_33_0 := cell_regrown ct_33_0
        have Hct_33_1 := Lib.hid ct_33_1
        replace ct_33_1 := cell_regrown ct_33_1
        have Hct_33_2 := Lib.hid ct_33_2
        replace ct_33_2 := cell_regrown ct_33_2
        have Hct_33_3 := Lib.hid ct_33_3
        replace ct_33_3 := cell_regrown ct_33_3
        replace H := let_hid H
        obtain ⟨t_36, ht_36, H⟩ := H
        replace H := idx_hid H
        obtain ⟨nt_40, yt_40, et_40, lt_40, gt_40, H⟩ := H
        obtain rfl : k0 = nt_40 := by omega
        clear et_40
        obtain rfl := Option.some.inj (gt_31.out.symm.trans gt_40.out)
        clear gt_40 lt_40
        replace H := idx_hid H
        obtain ⟨nt_42, yt_42, et_42, lt_42, gt_42, H⟩ := H
        obtain rfl : nt_33 = nt_42 := by omega
        clear et_42
        obtain rfl := Option.some.inj (gt_33.out.symm.trans gt_42.out)
        clear gt_42 lt_42
        replace H := unMail_hid H
        replace H := let_hid H
        obtain ⟨t_45, ht_45, H⟩ := H
        refine wp_region_quiet_below (by kernel_rfl) (by kernel_rfl) ?_
        repeat (go_big_quiet_step (fail))
        refine wpQuiet_nil ?_
        intro Y8 hY8
        replace hY8 := below_class hY8
        replace ct_31_0 := Hct_31_0.out
        clear Hct_31_0
        replace ct_33_0 := Hct_33_0.out
        clear Hct_33_0
        replace ct_33_1 := Hct_33_1.out
        clear Hct_33_1
        replace ct_33_2 := Hct_33_2.out
        clear Hct_33_2
        replace ct_33_3 := Hct_33_3.out
        clear Hct_33_3
        have HBY8 := Lib.hid (Below.step HBwr0.out hY8)
        replace ct_31_0 := cell_below hY8 ct_31_0
        replace ct_33_0 := cell_below hY8 ct_33_0
        replace ct_33_1 := cell_below hY8 ct_33_1
        replace ct_33_2 := cell_below hY8 ct_33_2
        replace ct_33_3 := cell_below hY8 ct_33_3
        clear hY8
        replace H := app_hid H
        go_wp2_with fail
        go_roundg m0
        case measure => omega
        case rel => exact ⟨k0 + 1, _, by omega, by go_num, rfl, H, HBY8⟩
end Go.Proofs.Ythkaeighfjadlaa.GsWaitsOn

