/- Texts on which the proofs of several laws stand, one behind the other (4 of 11). No condition of their own. -/
import Derived.Test.YthkaeighfjadlaaChecked
import Derived.Test.YthkaeighfjadlaaU10P1
import Derived.Test.YthkaeighfjadlaaU10P3
import Derived.Test.YthkaeighfjadlaaU10P2
import Derived.WalkKit
import Derived.WalkSpells
import Derived.WalkLawsBesides
import Derived.BigQuiet
import Derived.OwnWalk
import Derived.Deep.LoopGhost
import Derived.Deep.QuietTactic
import Derived.IntWalk
import Derived.Lib.QuietBelow
import Derived.Deep.RegionHeld3
import Derived.ScopeJumps
/- loop.example/g01062/spec.DrawEarliestAt as a plain function, and the contract of the program's: where the plain one has an answer, the program has it. Conditions: slices read as lists. -/
namespace Go.Proofs.Ythkaeighfjadlaa.GsDrawEarliestAt
set_option linter.unusedVariables false
set_option linter.unusedSimpArgs false
open Go.RowKit
open Go.Proofs.Ythkaeighfjadlaa.Rowed Go.Proofs.Ythkaeighfjadlaa.Turn Go.Proofs.Ythkaeighfjadlaa.Aid Go.Proofs.Ythkaeighfjadlaa.GoP Go.Proofs.Ythkaeighfjadlaa.GoM

def P (fuel : Nat) (tapes : List Int → Go.Proofs.Ythkaeighfjadlaa.GoC.Tape) (code : (List Int)) : Option ((List Go.Proofs.Ythkaeighfjadlaa.PMail.Mail) × Int × Int × Int) :=
  letK (tapes code) fun (t_6 : Go.Proofs.Ythkaeighfjadlaa.GoC.Tape) =>
  bind2 (Go.Proofs.Ythkaeighfjadlaa.GsL1CurTimetable.P fuel t_6) fun (t_9 : (List Go.Proofs.Ythkaeighfjadlaa.PMail.Mail)) (t_9_tp : Go.Proofs.Ythkaeighfjadlaa.GoC.Tape) =>
  letK ([0, 1, 2, 3, 9, 10]) fun (t_11 : (List Int)) =>
  bind2 (Go.Proofs.Ythkaeighfjadlaa.GsL1CurAmong.P t_9_tp t_11) fun (t_12 : Int) (t_12_tp : Go.Proofs.Ythkaeighfjadlaa.GoC.Tape) =>
  letK ([0, 0, 5, 10, 11, 9999, 10000]) fun (t_14 : (List Int)) =>
  bind2 (Go.Proofs.Ythkaeighfjadlaa.GsL1CurAmong.P t_12_tp t_14) fun (t_15 : Int) (t_15_tp : Go.Proofs.Ythkaeighfjadlaa.GoC.Tape) =>
  letK ([0, 1, 2, 3, 9, (-1)]) fun (t_17 : (List Int)) =>
  bind2 (Go.Proofs.Ythkaeighfjadlaa.GsL1CurAmong.P t_15_tp t_17) fun (t_18 : Int) (t_18_tp : Go.Proofs.Ythkaeighfjadlaa.GoC.Tape) =>
  some (t_9, t_12, t_15, t_18)

set_option maxRecDepth 100000 in
set_option maxHeartbeats 2000000 in
theorem C (fuel : Nat) (tapes : List Int → Go.Proofs.Ythkaeighfjadlaa.GoC.Tape) (code : (List Int)) (A0 : Option Addr) (c0 : Nat)  (w : World) (HE : Hid (Go.Proofs.Ythkaeighfjadlaa.GoC.Tells tapes)) (M0 : Hid (Cells w 1 A0 code.length (Go.Proofs.Ythkaeighfjadlaa.GoC.u8s code))) (N0 : Hid (code.length ≤ 9223372036854775807)) (V0 : Hid (∀ z ∈ code, 0 ≤ z ∧ z ≤ 255))  {r0 : (List Go.Proofs.Ythkaeighfjadlaa.PMail.Mail)} {r1 : Int} {r2 : Int} {r3 : Int} (H : Hid (P fuel tapes code = some (r0, r1, r2, r3))) :
    Calls Try.prog 59 #[.slice A0 code.length c0] w (fun e w' => ∃ A_r0 c_r0, e = .returned (.tuple #[.slice A_r0 r0.length c_r0, .int .i64 r1, .int .i64 r2, .int .i64 r3]) ∧ w'.ownsRow w.heap.size 93 4 (.slice A_r0 r0.length c_r0) r0.length (Go.Proofs.Ythkaeighfjadlaa.PMail.flat r0) ∧ Below w.heap.size w w') := by
  have HB := Lib.hid (Below.refl w.heap.size w)
  unfold P at H
  have N0o := N0.out
  go_enter Try.func59, Try.ntmps59
  replace H := let_hid H
  obtain ⟨t_6, ht_6, H⟩ := H
  obtain ⟨w_t_6, hw_t_6⟩ : ∃ x, w.alloc (.cells #[.slice A0 code.length c0, .int .i64 0, .int .u64 0] 104) = x := ⟨_, rfl⟩
  have bw_t_6 : Below w.heap.size w w_t_6 := by rw [← hw_t_6]; exact (Below.refl _ _).alloc (Nat.le_refl _) _
  have Kt_6 : Hid (Go.Proofs.Ythkaeighfjadlaa.GoC.CurIs w_t_6 w.heap.size w.heap.size A0 c0 t_6) := Lib.hid (by rw [← hw_t_6, ← ht_6]; exact Go.Proofs.Ythkaeighfjadlaa.GoC.cur_new HB.out.size (Cells.below M0.out HB.out) (fun a_ ha_ h0_ => by subst ha_; exact Go.Proofs.Ythkaeighfjadlaa.GoC.cells_lt M0.out (by unfold Go.Proofs.Ythkaeighfjadlaa.GoC.u8s; rw [List.length_map]; exact h0_)) (HE.out.2.2 code V0.out N0.out))
  have hht_6 := Lib.hid ht_6
  clear ht_6
  have HBw_t_6 := Lib.hid (Below.step HB.out bw_t_6)
  clear bw_t_6
  replace H := bind2_hid H
  obtain ⟨t_9, t_9_tp, qt_9, H⟩ := H
  go_wp2_with fail
  go_at_call 74
  refine (Go.Proofs.Ythkaeighfjadlaa.GsL1CurTimetable.C fuel (t_6) (w.heap.size) (A0) (c0) (w.heap.size) _   Kt_6 qt_9).mono ?_
  rintro e_t_9 wt_9 ⟨At_9, ct_9, rfl, ot_9, kt_9, gt_9⟩
  have Dt_9_t_6 := Lib.hid (Go.Proofs.Ythkaeighfjadlaa.GoC.apart_callcur ot_9 Kt_6.out)
  have Ot_9 := Lib.hid (own_lower ot_9 HBw_t_6.out.size)
  clear ot_9
  have Kt_9 := Lib.hid kt_9
  have Gt_9 : Hid (w_t_6.grownBy wt_9 (Value.slice (some ⟨w.heap.size, 0, none⟩) 1 1).ownBlock) := Lib.hid gt_9
  clear kt_9 gt_9
  have HBwt_9 := Lib.hid (Go.Proofs.Ythkaeighfjadlaa.GoC.below_cur HBw_t_6.out Gt_9.out HBw_t_6.out.size (Go.Proofs.Ythkaeighfjadlaa.GoC.cur_lt Kt_6.out).1)
  clear Kt_6 Gt_9
  replace H := let_hid H
  obtain ⟨t_11, ht_11, H⟩ := H
  obtain ⟨w_t_11, hw_t_11⟩ : ∃ x, wt_9.alloc (.cells #[.int .i64 0, .int .i64 1, .int .i64 2, .int .i64 3, .int .i64 9, .int .i64 10] 3) = x := ⟨_, rfl⟩
  have bw_t_11 : Below wt_9.heap.size wt_9 w_t_11 := by rw [← hw_t_11]; exact (Below.refl _ _).alloc (Nat.le_refl _) _
  have hs_t_11 := HBwt_9.out.size
  have nt_11 : t_11.length = 6 := by rw [← ht_11]; rfl
  have Ot_11 : Hid (w_t_11.ownsRow w.heap.size 3 1 (.slice (some ⟨wt_9.heap.size, 0, none⟩) 6 6) 6 (Go.Proofs.Ythkaeighfjadlaa.HelpInt.iv t_11)) := by
    rw [← hw_t_11, ← ht_11]
    have e_ : ([.int .i64 0, .int .i64 1, .int .i64 2, .int .i64 3, .int .i64 9, .int .i64 10] : List Value) = (Go.Proofs.Ythkaeighfjadlaa.HelpInt.iv ([0, 1, 2, 3, 9, 10] : List Int)) := rfl
    exact Lib.hid (own_laid (n := 6) hs_t_11 e_ rfl (by unfold maxLen; omega))
  clear hs_t_11
  have hht_11 := Lib.hid ht_11
  clear ht_11
  replace nt_11 := Lib.hid nt_11
  have Dt_11_t_9 := Lib.hid (apart_fresh Ot_9.out)
  have Dt_11_t_6 := Lib.hid (Go.Proofs.Ythkaeighfjadlaa.GoC.apart_cur Kt_9.out)
  have HBw_t_11 := Lib.hid (Below.step HBwt_9.out bw_t_11)
  replace Ot_9 := Lib.hid (own_below Ot_9.out bw_t_11)
  replace Kt_9 := Lib.hid (Go.Proofs.Ythkaeighfjadlaa.GoC.cur_below Kt_9.out bw_t_11)
  clear bw_t_11
  replace H := bind2_hid H
  obtain ⟨t_12, t_12_tp, qt_12, H⟩ := H
  go_wp2_with fail
  have hc_ := nt_11.out
  have hv_ : (Value.slice (some ⟨wt_9.heap.size, 0, none⟩) 6 6 : Value) = Value.slice (some ⟨wt_9.heap.size, 0, none⟩) t_11.length 6 := by rw [hc_]
  try rw [hv_]
  replace Ot_11 := Lib.hid (own_len hc_ Ot_11.out)
  clear hc_ hv_
  go_wp2_with fail
  go_at_call 75
  refine (Go.Proofs.Ythkaeighfjadlaa.GsL1CurAmong.C (t_9_tp) (t_11) (some ⟨wt_9.heap.size, 0, none⟩) 6 (w.heap.size) (A0) (c0) (w.heap.size) _   (Lib.hid (own_cells Ot_11.out)) (Lib.hid (own_max Ot_11.out)) Kt_9 (Lib.hid (fun _ => Dt_11_t_6.out)) qt_12).mono ?_
  rintro e_t_12 wt_12 ⟨rfl, kt_12, gt_12⟩
  have Kt_12 := Lib.hid kt_12
  have Gt_12 : Hid (w_t_11.grownBy wt_12 (Value.slice (some ⟨w.heap.size, 0, none⟩) 1 1).ownBlock) := Lib.hid gt_12
  clear kt_12 gt_12
  have HBwt_12 := Lib.hid (Go.Proofs.Ythkaeighfjadlaa.GoC.below_cur HBw_t_11.out Gt_12.out HBw_t_11.out.size (Go.Proofs.Ythkaeighfjadlaa.GoC.cur_lt Kt_9.out).1)
  replace Ot_9 := Lib.hid (own_other Ot_9.out Gt_12.out (Apart.symm Dt_9_t_6.out))
  replace Ot_11 := Lib.hid (own_other Ot_11.out Gt_12.out (Apart.symm Dt_11_t_6.out))
  clear Kt_9 Gt_12
  replace H := let_hid H
  obtain ⟨t_14, ht_14, H⟩ := H
  obtain ⟨w_t_14, hw_t_14⟩ : ∃ x, wt_12.alloc (.cells #[.int .i64 0, .int .i64 0, .int .i64 5, .int .i64 10, .int .i64 11, .int .i64 9999, .int .i64 10000] 3) = x := ⟨_, rfl⟩
  have bw_t_14 : Below wt_12.heap.size wt_12 w_t_14 := by rw [← hw_t_14]; exact (Below.refl _ _).alloc (Nat.le_refl _) _
  have hs_t_14 := HBwt_12.out.size
  have nt_14 : t_14.length = 7 := by rw [← ht_14]; rfl
  have Ot_14 : Hid (w_t_14.ownsRow w.heap.size 3 1 (.slice (some ⟨wt_12.heap.size, 0, none⟩) 7 7) 7 (Go.Proofs.Ythkaeighfjadlaa.HelpInt.iv t_14)) := by
    rw [← hw_t_14, ← ht_14]
    have e_ : ([.int .i64 0, .int .i64 0, .int .i64 5, .int .i64 10, .int .i64 11, .int .i64 9999, .int .i64 10000] : List Value) = (Go.Proofs.Ythkaeighfjadlaa.HelpInt.iv ([0, 0, 5, 10, 11, 9999, 10000] : List Int)) := rfl
    exact Lib.hid (own_laid (n := 7) hs_t_14 e_ rfl (by unfold maxLen; omega))
  clear hs_t_14
  have hht_14 := Lib.hid ht_14
  clear ht_14
  replace nt_14 := Lib.hid nt_14
  have Dt_14_t_9 := Lib.hid (apart_fresh Ot_9.out)
  have Dt_14_t_11 := Lib.hid (apart_fresh Ot_11.out)
  have Dt_14_t_6 := Lib.hid (Go.Proofs.Ythkaeighfjadlaa.GoC.apart_cur Kt_12.out)
  have HBw_t_14 := Lib.hid (Below.step HBwt_12.out bw_t_14)
  replace Ot_9 := Lib.hid (own_below Ot_9.out bw_t_14)
  replace Ot_11 := Lib.hid (own_below Ot_11.out bw_t_14)
  replace Kt_12 := Lib.hid (Go.Proofs.Ythkaeighfjadlaa.GoC.cur_below Kt_12.out bw_t_14)
  clear bw_t_14
  replace H := bind2_hid H
  obtain ⟨t_15, t_15_tp, qt_15, H⟩ := H
  go_wp2_with fail
  have hc_ := nt_14.out
  have hv_ : (Value.slice (some ⟨wt_12.heap.size, 0, none⟩) 7 7 : Value) = Value.slice (some ⟨wt_12.heap.size, 0, none⟩) t_14.length 7 := by rw [hc_]
  try rw [hv_]
  replace Ot_14 := Lib.hid (own_len hc_ Ot_14.out)
  clear hc_ hv_
  go_wp2_with fail
  go_at_call 75
  refine (Go.Proofs.Ythkaeighfjadlaa.GsL1CurAmong.C (t_12_tp) (t_14) (some ⟨wt_12.heap.size, 0, none⟩) 7 (w.heap.size) (A0) (c0) (w.heap.size) _   (Lib.hid (own_cells Ot_14.out)) (Lib.hid (own_max Ot_14.out)) Kt_12 (Lib.hid (fun _ => Dt_14_t_6.out)) qt_15).mono ?_
  rintro e_t_15 wt_15 ⟨rfl, kt_15, gt_15⟩
  have Kt_15 := Lib.hid kt_15
  have Gt_15 : Hid (w_t_14.grownBy wt_15 (Value.slice (some ⟨w.heap.size, 0, none⟩) 1 1).ownBlock) := Lib.hid gt_15
  clear kt_15 gt_15
  have HBwt_15 := Lib.hid (Go.Proofs.Ythkaeighfjadlaa.GoC.below_cur HBw_t_14.out Gt_15.out HBw_t_14.out.size (Go.Proofs.Ythkaeighfjadlaa.GoC.cur_lt Kt_12.out).1)
  replace Ot_9 := Lib.hid (own_other Ot_9.out Gt_15.out (Apart.symm Dt_9_t_6.out))
  replace Ot_11 := Lib.hid (own_other Ot_11.out Gt_15.out (Apart.symm Dt_11_t_6.out))
  replace Ot_14 := Lib.hid (own_other Ot_14.out Gt_15.out (Apart.symm Dt_14_t_6.out))
  clear Kt_12 Gt_15
  replace H := let_hid H
  obtain ⟨t_17, ht_17, H⟩ := H
  obtain ⟨w_t_17, hw_t_17⟩ : ∃ x, wt_15.alloc (.cells #[.int .i64 0, .int .i64 1, .int .i64 2, .int .i64 3, .int .i64 9, .int .i64 (-1)] 3) = x := ⟨_, rfl⟩
  have bw_t_17 : Below wt_15.heap.size wt_15 w_t_17 := by rw [← hw_t_17]; exact (Below.refl _ _).alloc (Nat.le_refl _) _
  have hs_t_17 := HBwt_15.out.size
  have nt_17 : t_17.length = 6 := by rw [← ht_17]; rfl
  have Ot_17 : Hid (w_t_17.ownsRow w.heap.size 3 1 (.slice (some ⟨wt_15.heap.size, 0, none⟩) 6 6) 6 (Go.Proofs.Ythkaeighfjadlaa.HelpInt.iv t_17)) := by
    rw [← hw_t_17, ← ht_17]
    have e_ : ([.int .i64 0, .int .i64 1, .int .i64 2, .int .i64 3, .int .i64 9, .int .i64 (-1)] : List Value) = (Go.Proofs.Ythkaeighfjadlaa.HelpInt.iv ([0, 1, 2, 3, 9, (-1)] : List Int)) := rfl
    exact Lib.hid (own_laid (n := 6) hs_t_17 e_ rfl (by unfold maxLen; omega))
  clear hs_t_17
  have hht_17 := Lib.hid ht_17
  clear ht_17
  replace nt_17 := Lib.hid nt_17
  have Dt_17_t_9 := Lib.hid (apart_fresh Ot_9.out)
  have Dt_17_t_11 := Lib.hid (apart_fresh Ot_11.out)
  have Dt_17_t_14 := Lib.hid (apart_fresh Ot_14.out)
  have Dt_17_t_6 := Lib.hid (Go.Proofs.Ythkaeighfjadlaa.GoC.apart_cur Kt_15.out)
  have HBw_t_17 := Lib.hid (Below.step HBwt_15.out bw_t_17)
  replace Ot_9 := Lib.hid (own_below Ot_9.out bw_t_17)
  replace Ot_11 := Lib.hid (own_below Ot_11.out bw_t_17)
  replace Ot_14 := Lib.hid (own_below Ot_14.out bw_t_17)
  replace Kt_15 := Lib.hid (Go.Proofs.Ythkaeighfjadlaa.GoC.cur_below Kt_15.out bw_t_17)
  clear bw_t_17
  replace H := bind2_hid H
  obtain ⟨t_18, t_18_tp, qt_18, H⟩ := H
  go_wp2_with fail
  have hc_ := nt_17.out
  have hv_ : (Value.slice (some ⟨wt_15.heap.size, 0, none⟩) 6 6 : Value) = Value.slice (some ⟨wt_15.heap.size, 0, none⟩) t_17.length 6 := by rw [hc_]
  try rw [hv_]
  replace Ot_17 := Lib.hid (own_len hc_ Ot_17.out)
  clear hc_ hv_
  go_wp2_with fail
  go_at_call 75
  refine (Go.Proofs.Ythkaeighfjadlaa.GsL1CurAmong.C (t_15_tp) (t_17) (some ⟨wt_15.heap.size, 0, none⟩) 6 (w.heap.size) (A0) (c0) (w.heap.size) _   (Lib.hid (own_cells Ot_17.out)) (Lib.hid (own_max Ot_17.out)) Kt_15 (Lib.hid (fun _ => Dt_17_t_6.out)) qt_18).mono ?_
  rintro e_t_18 wt_18 ⟨rfl, kt_18, gt_18⟩
  have Kt_18 := Lib.hid kt_18
  have Gt_18 : Hid (w_t_17.grownBy wt_18 (Value.slice (some ⟨w.heap.size, 0, none⟩) 1 1).ownBlock) := Lib.hid gt_18
  clear kt_18 gt_18
  have HBwt_18 := Lib.hid (Go.Proofs.Ythkaeighfjadlaa.GoC.below_cur HBw_t_17.out Gt_18.out HBw_t_17.out.size (Go.Proofs.Ythkaeighfjadlaa.GoC.cur_lt Kt_15.out).1)
  replace Ot_9 := Lib.hid (own_other Ot_9.out Gt_18.out (Apart.symm Dt_9_t_6.out))
  replace Ot_11 := Lib.hid (own_other Ot_11.out Gt_18.out (Apart.symm Dt_11_t_6.out))
  replace Ot_14 := Lib.hid (own_other Ot_14.out Gt_18.out (Apart.symm Dt_14_t_6.out))
  replace Ot_17 := Lib.hid (own_other Ot_17.out Gt_18.out (Apart.symm Dt_17_t_6.out))
  clear Kt_15 Gt_18
  cases ret_hid H
  go_wp2_with fail
  (try simp only [Exit.inBlock, Exit.then]); refine bodyPost_ret (results_tmp4 rfl _ _ _) rfl ?_
  exact ⟨At_9, ct_9, rfl, Ot_9.out, HBwt_18.out⟩
end Go.Proofs.Ythkaeighfjadlaa.GsDrawEarliestAt

/- loop.example/g01062/spec.DrawBestRoute as a plain function, and the contract of the program's: where the plain one has an answer, the program has it. Conditions: slices read as lists. -/
namespace Go.Proofs.Ythkaeighfjadlaa.GsDrawBestRoute
set_option linter.unusedVariables false
set_option linter.unusedSimpArgs false
open Go.RowKit
open Go.Proofs.Ythkaeighfjadlaa.Rowed Go.Proofs.Ythkaeighfjadlaa.Turn Go.Proofs.Ythkaeighfjadlaa.Aid Go.Proofs.Ythkaeighfjadlaa.GoP Go.Proofs.Ythkaeighfjadlaa.GoM

def P (fuel : Nat) (tapes : List Int → Go.Proofs.Ythkaeighfjadlaa.GoC.Tape) (code : (List Int)) : Option ((List Go.Proofs.Ythkaeighfjadlaa.PMail.Mail) × Int × Int × Int) :=
  bind4 (Go.Proofs.Ythkaeighfjadlaa.GsDrawEarliestAt.P fuel tapes code) fun (t_5a : (List Go.Proofs.Ythkaeighfjadlaa.PMail.Mail)) (t_5b : Int) (t_5c : Int) (t_5d : Int) =>
  some (t_5a, t_5b, t_5c, t_5d)

set_option maxRecDepth 100000 in
set_option maxHeartbeats 2000000 in
theorem C (fuel : Nat) (tapes : List Int → Go.Proofs.Ythkaeighfjadlaa.GoC.Tape) (code : (List Int)) (A0 : Option Addr) (c0 : Nat)  (w : World) (HE : Hid (Go.Proofs.Ythkaeighfjadlaa.GoC.Tells tapes)) (M0 : Hid (Cells w 1 A0 code.length (Go.Proofs.Ythkaeighfjadlaa.GoC.u8s code))) (N0 : Hid (code.length ≤ 9223372036854775807)) (V0 : Hid (∀ z ∈ code, 0 ≤ z ∧ z ≤ 255))  {r0 : (List Go.Proofs.Ythkaeighfjadlaa.PMail.Mail)} {r1 : Int} {r2 : Int} {r3 : Int} (H : Hid (P fuel tapes code = some (r0, r1, r2, r3))) :
    Calls Try.prog 9 #[.slice A0 code.length c0] w (fun e w' => ∃ A_r0 c_r0, e = .returned (.tuple #[.slice A_r0 r0.length c_r0, .int .i64 r1, .int .i64 r2, .int .i64 r3]) ∧ w'.ownsRow w.heap.size 93 4 (.slice A_r0 r0.length c_r0) r0.length (Go.Proofs.Ythkaeighfjadlaa.PMail.flat r0) ∧ Below w.heap.size w w') := by
  have HB := Lib.hid (Below.refl w.heap.size w)
  unfold P at H
  have N0o := N0.out
  go_enter Try.func9, Try.ntmps9
  replace H := bind4_hid H
  obtain ⟨t_5a, t_5b, t_5c, t_5d, qt_5, H⟩ := H
  go_wp2_with fail
  go_at_call 59
  refine (Go.Proofs.Ythkaeighfjadlaa.GsDrawEarliestAt.C fuel tapes (code) A0 c0 _  HE (Lib.hid (Cells.below M0.out HB.out)) N0 V0 qt_5).mono ?_
  rintro e_t_5 wt_5 ⟨At_5a, ct_5a, rfl, ot_5a, bt_5⟩
  have Ot_5a := Lib.hid (own_lower ot_5a HB.out.size)
  clear ot_5a
  have HBwt_5 := Lib.hid (Below.step HB.out bt_5)
  clear bt_5
  cases ret_hid H
  go_wp2_with fail
  (try simp only [Exit.inBlock, Exit.then]); refine bodyPost_ret (results_tmp4 rfl _ _ _) rfl ?_
  exact ⟨At_5a, ct_5a, rfl, Ot_5a.out, HBwt_5.out⟩
end Go.Proofs.Ythkaeighfjadlaa.GsDrawBestRoute

/- Plain words on the arrays of 10 numbers: the cells, a list of them as cells one after the other. No condition. -/
namespace Go.Proofs.Ythkaeighfjadlaa.PIntA10
set_option linter.unusedVariables false
set_option maxRecDepth 100000

structure IntA10 where
  x0 : Int
  x1 : Int
  x2 : Int
  x3 : Int
  x4 : Int
  x5 : Int
  x6 : Int
  x7 : Int
  x8 : Int
  x9 : Int
def IntA10.cells (s : IntA10) : List Value := [.int .i64 s.x0, .int .i64 s.x1, .int .i64 s.x2, .int .i64 s.x3, .int .i64 s.x4, .int .i64 s.x5, .int .i64 s.x6, .int .i64 s.x7, .int .i64 s.x8, .int .i64 s.x9]
def IntA10.val (s : IntA10) : Value := .agg #[.int .i64 s.x0, .int .i64 s.x1, .int .i64 s.x2, .int .i64 s.x3, .int .i64 s.x4, .int .i64 s.x5, .int .i64 s.x6, .int .i64 s.x7, .int .i64 s.x8, .int .i64 s.x9]
def IntA10.list (s : IntA10) : List Int := [s.x0, s.x1, s.x2, s.x3, s.x4, s.x5, s.x6, s.x7, s.x8, s.x9]
/-- the array with v at j -/
def IntA10.put (s : IntA10) (j v : Int) : IntA10 := if j = 0 then ⟨v, s.x1, s.x2, s.x3, s.x4, s.x5, s.x6, s.x7, s.x8, s.x9⟩ else if j = 1 then ⟨s.x0, v, s.x2, s.x3, s.x4, s.x5, s.x6, s.x7, s.x8, s.x9⟩ else if j = 2 then ⟨s.x0, s.x1, v, s.x3, s.x4, s.x5, s.x6, s.x7, s.x8, s.x9⟩ else if j = 3 then ⟨s.x0, s.x1, s.x2, v, s.x4, s.x5, s.x6, s.x7, s.x8, s.x9⟩ else if j = 4 then ⟨s.x0, s.x1, s.x2, s.x3, v, s.x5, s.x6, s.x7, s.x8, s.x9⟩ else if j = 5 then ⟨s.x0, s.x1, s.x2, s.x3, s.x4, v, s.x6, s.x7, s.x8, s.x9⟩ else if j = 6 then ⟨s.x0, s.x1, s.x2, s.x3, s.x4, s.x5, v, s.x7, s.x8, s.x9⟩ else if j = 7 then ⟨s.x0, s.x1, s.x2, s.x3, s.x4, s.x5, s.x6, v, s.x8, s.x9⟩ else if j = 8 then ⟨s.x0, s.x1, s.x2, s.x3, s.x4, s.x5, s.x6, s.x7, v, s.x9⟩ else ⟨s.x0, s.x1, s.x2, s.x3, s.x4, s.x5, s.x6, s.x7, s.x8, v⟩
theorem cells_put (s : IntA10) {n : Nat} (h : n < 10) (v : Int) : s.cells.set n (.int .i64 v) = (s.put (n : Int) v).cells := by
  rcases n with _ | _ | _ | _ | _ | _ | _ | _ | _ | _ | n
  · rfl
  · rfl
  · rfl
  · rfl
  · rfl
  · rfl
  · rfl
  · rfl
  · rfl
  · rfl
  · omega
theorem cell_at {w : World} {b q : Nat} {x0 x1 x2 x3 x4 x5 x6 x7 x8 x9 y : Int} {n : Nat} (h0 : w.cell? ⟨b, q, none⟩ = some (.int .i64 x0)) (h1 : w.cell? ⟨b, q + 1, none⟩ = some (.int .i64 x1)) (h2 : w.cell? ⟨b, q + 2, none⟩ = some (.int .i64 x2)) (h3 : w.cell? ⟨b, q + 3, none⟩ = some (.int .i64 x3)) (h4 : w.cell? ⟨b, q + 4, none⟩ = some (.int .i64 x4)) (h5 : w.cell? ⟨b, q + 5, none⟩ = some (.int .i64 x5)) (h6 : w.cell? ⟨b, q + 6, none⟩ = some (.int .i64 x6)) (h7 : w.cell? ⟨b, q + 7, none⟩ = some (.int .i64 x7)) (h8 : w.cell? ⟨b, q + 8, none⟩ = some (.int .i64 x8)) (h9 : w.cell? ⟨b, q + 9, none⟩ = some (.int .i64 x9)) (g : [x0, x1, x2, x3, x4, x5, x6, x7, x8, x9][n]? = some y) : w.cell? ⟨b, q + n, none⟩ = some (.int .i64 y) := by
  rcases n with _ | _ | _ | _ | _ | _ | _ | _ | _ | _ | n
  · obtain rfl := Option.some.inj g; exact h0
  · obtain rfl := Option.some.inj g; exact h1
  · obtain rfl := Option.some.inj g; exact h2
  · obtain rfl := Option.some.inj g; exact h3
  · obtain rfl := Option.some.inj g; exact h4
  · obtain rfl := Option.some.inj g; exact h5
  · obtain rfl := Option.some.inj g; exact h6
  · obtain rfl := Option.some.inj g; exact h7
  · obtain rfl := Option.some.inj g; exact h8
  · obtain rfl := Option.some.inj g; exact h9
  · simp at g
/-- the cells of a list of arrays, one after the other -/
def flat (l : List IntA10) : List Value := l.flatMap IntA10.cells
theorem flat_nil : flat [] = [] := rfl
theorem flat_cons (s : IntA10) (l : List IntA10) : flat (s :: l) = s.cells ++ flat l := by simp [flat]
theorem flat_snoc (l : List IntA10) (s : IntA10) : flat (l ++ [s]) = flat l ++ s.cells := by simp [flat]
theorem flat_len (l : List IntA10) : (flat l).length = l.length * 10 := by
  induction l with
  | nil => rfl
  | cons s l ih => rw [flat_cons, List.length_append, ih]; simp [IntA10.cells]; omega
theorem flat_at : ∀ (l : List IntA10) (k : Nat) (s : IntA10), l[k]? = some s → ∀ j, j < 10 → (flat l)[k * 10 + j]? = s.cells[j]?
  | [], k, s, h, _, _ => by simp at h
  | r :: l, 0, s, h, j, hj => by
    obtain rfl : r = s := by simpa using h
    rw [flat_cons, List.getElem?_append_left (by simp [IntA10.cells]; omega)]; simp
  | r :: l, k + 1, s, h, j, hj => by
    rw [flat_cons, List.getElem?_append_right (by simp [IntA10.cells]; omega), show (k + 1) * 10 + j - r.cells.length = k * 10 + j by simp [IntA10.cells]; omega]
    exact flat_at l k s (by simpa using h) j hj
end Go.Proofs.Ythkaeighfjadlaa.PIntA10

/- A record IntA10 opened into its fields. No condition. -/
namespace Go.Proofs.Ythkaeighfjadlaa.GoP
set_option linter.unusedVariables false
open Go.RowKit
def unIntA10 {ρ : Type} (s : Go.Proofs.Ythkaeighfjadlaa.PIntA10.IntA10) (f : Int → Int → Int → Int → Int → Int → Int → Int → Int → Int → Option ρ) : Option ρ := f s.x0 s.x1 s.x2 s.x3 s.x4 s.x5 s.x6 s.x7 s.x8 s.x9
theorem unIntA10_hid {ρ : Type} {x0 : Int} {x1 : Int} {x2 : Int} {x3 : Int} {x4 : Int} {x5 : Int} {x6 : Int} {x7 : Int} {x8 : Int} {x9 : Int} {f : Int → Int → Int → Int → Int → Int → Int → Int → Int → Int → Option ρ} {r : ρ} (H : Hid (unIntA10 ⟨x0, x1, x2, x3, x4, x5, x6, x7, x8, x9⟩ f = some r)) : Hid (f x0 x1 x2 x3 x4 x5 x6 x7 x8 x9 = some r) := H
end Go.Proofs.Ythkaeighfjadlaa.GoP

/- loop.example/g01062/impl.within as a plain function, and the contract of the program's: where the plain one has an answer, the program has it. Conditions: slices read as lists. -/
namespace Go.Proofs.Ythkaeighfjadlaa.GiWithin
set_option linter.unusedVariables false
set_option linter.unusedSimpArgs false
open Go.RowKit
open Go.Proofs.Ythkaeighfjadlaa.Rowed Go.Proofs.Ythkaeighfjadlaa.Turn Go.Proofs.Ythkaeighfjadlaa.Aid Go.Proofs.Ythkaeighfjadlaa.GoP Go.Proofs.Ythkaeighfjadlaa.GoM

def P (n_0 : Int) (low : Int) (high : Int) : Option (Bool) :=
  letK (decide (low ≤ n_0)) fun (t_3 : Bool) =>
  joinK (fun (t_8 : Bool) =>
  some t_8) fun jt_8 => iteK t_3 (letK (decide (n_0 ≤ high)) fun (t_7 : Bool) =>
  appK jt_8 t_7) (appK jt_8 false)

set_option maxRecDepth 100000 in
set_option maxHeartbeats 2000000 in
theorem C (n_0 : Int) (low : Int) (high : Int)   (w : World)   {r : Bool} (H : Hid (P n_0 low high = some r)) :
    Calls Try.prog 71 #[.int .i64 n_0, .int .i64 low, .int .i64 high] w (Gives (.bool r) w) := by
  have HB := Lib.hid (Below.refl w.heap.size w)
  unfold P at H
  go_enter Try.func71, Try.ntmps71
  replace H := let_hid H
  obtain ⟨t_3, ht_3, H⟩ := H
  replace H := join_hid H
  cases t_3 with
  | false =>
    replace H := ite_f H
    replace H := app_hid H
    obtain rfl := ret_hid H
    go_wp2_with fail
    go_ret
    exact ⟨rfl, HB.out⟩
  | true =>
    replace H := ite_t H
    replace H := let_hid H
    obtain ⟨t_7, ht_7, H⟩ := H
    replace H := app_hid H
    obtain rfl := ret_hid H
    go_wp2_with fail
    go_ret
    exact ⟨rfl, HB.out⟩

set_option maxRecDepth 100000 in
set_option maxHeartbeats 2000000 in
theorem C0 (n_0 : Int) (low : Int) (high : Int)   (w : World)   {r : Bool} (H : Hid (P n_0 low high = some r)) :
    Calls Try.prog 71 #[.int .i64 n_0, .int .i64 low, .int .i64 high] w (fun e w'' => e = .returned (.bool r) ∧ w'' = w) := by
  have HB := Lib.hid (Below.refl w.heap.size w)
  unfold P at H
  go_enter Try.func71, Try.ntmps71
  replace H := let_hid H
  obtain ⟨t_3, ht_3, H⟩ := H
  replace H := join_hid H
  cases t_3 with
  | false =>
    replace H := ite_f H
    replace H := app_hid H
    obtain rfl := ret_hid H
    go_wp2_with fail
    go_ret
    exact ⟨rfl, rfl⟩
  | true =>
    replace H := ite_t H
    replace H := let_hid H
    obtain ⟨t_7, ht_7, H⟩ := H
    replace H := app_hid H
    obtain rfl := ret_hid H
    go_wp2_with fail
    go_ret
    exact ⟨rfl, rfl⟩
end Go.Proofs.Ythkaeighfjadlaa.GiWithin

/- loop.example/g01062/impl.isPostOffice as a plain function, and the contract of the program's: where the plain one has an answer, the program has it. Conditions: slices read as lists. -/
namespace Go.Proofs.Ythkaeighfjadlaa.GiIsPostOffice
set_option linter.unusedVariables false
set_option linter.unusedSimpArgs false
open Go.RowKit
open Go.Proofs.Ythkaeighfjadlaa.Rowed Go.Proofs.Ythkaeighfjadlaa.Turn Go.Proofs.Ythkaeighfjadlaa.Aid Go.Proofs.Ythkaeighfjadlaa.GoP Go.Proofs.Ythkaeighfjadlaa.GoM

def P (office : Int) : Option (Bool) :=
  Option.bind (Go.Proofs.Ythkaeighfjadlaa.GiWithin.P office 0 9) fun (t_2 : Bool) =>
  some t_2

set_option maxRecDepth 100000 in
set_option maxHeartbeats 2000000 in
theorem C (office : Int)   (w : World)   {r : Bool} (H : Hid (P office = some r)) :
    Calls Try.prog 67 #[.int .i64 office] w (Gives (.bool r) w) := by
  have HB := Lib.hid (Below.refl w.heap.size w)
  unfold P at H
  go_enter Try.func67, Try.ntmps67
  replace H := bind_hid H
  obtain ⟨t_2, qt_2, H⟩ := H
  go_wp2_with fail
  go_at_call 71
  refine (Go.Proofs.Ythkaeighfjadlaa.GiWithin.C (office) (0) (9)  _    qt_2).mono ?_
  rintro e_t_2 wt_2 ⟨rfl, bt_2⟩
  have HBwt_2 := Lib.hid (Below.step HB.out bt_2)
  clear bt_2
  obtain rfl := ret_hid H
  go_wp2_with fail
  go_ret
  exact ⟨rfl, HBwt_2.out⟩
end Go.Proofs.Ythkaeighfjadlaa.GiIsPostOffice

/- loop.example/g01062/impl.isMinute as a plain function, and the contract of the program's: where the plain one has an answer, the program has it. Conditions: slices read as lists. -/
namespace Go.Proofs.Ythkaeighfjadlaa.GiIsMinute
set_option linter.unusedVariables false
set_option linter.unusedSimpArgs false
open Go.RowKit
open Go.Proofs.Ythkaeighfjadlaa.Rowed Go.Proofs.Ythkaeighfjadlaa.Turn Go.Proofs.Ythkaeighfjadlaa.Aid Go.Proofs.Ythkaeighfjadlaa.GoP Go.Proofs.Ythkaeighfjadlaa.GoM

def P (minute : Int) : Option (Bool) :=
  Option.bind (Go.Proofs.Ythkaeighfjadlaa.GiWithin.P minute 0 9999) fun (t_2 : Bool) =>
  some t_2

set_option maxRecDepth 100000 in
set_option maxHeartbeats 2000000 in
theorem C (minute : Int)   (w : World)   {r : Bool} (H : Hid (P minute = some r)) :
    Calls Try.prog 73 #[.int .i64 minute] w (Gives (.bool r) w) := by
  have HB := Lib.hid (Below.refl w.heap.size w)
  unfold P at H
  go_enter Try.func73, Try.ntmps73
  replace H := bind_hid H
  obtain ⟨t_2, qt_2, H⟩ := H
  go_wp2_with fail
  go_at_call 71
  refine (Go.Proofs.Ythkaeighfjadlaa.GiWithin.C (minute) (0) (9999)  _    qt_2).mono ?_
  rintro e_t_2 wt_2 ⟨rfl, bt_2⟩
  have HBwt_2 := Lib.hid (Below.step HB.out bt_2)
  clear bt_2
  obtain rfl := ret_hid H
  go_wp2_with fail
  go_ret
  exact ⟨rfl, HBwt_2.out⟩
end Go.Proofs.Ythkaeighfjadlaa.GiIsMinute

/- loop.example/g01062/impl.isMail as a plain function, and the contract of the program's: where the plain one has an answer, the program has it. Conditions: slices read as lists. -/
namespace Go.Proofs.Ythkaeighfjadlaa.GiIsMail
set_option linter.unusedVariables false
set_option linter.unusedSimpArgs false
open Go.RowKit
open Go.Proofs.Ythkaeighfjadlaa.Rowed Go.Proofs.Ythkaeighfjadlaa.Turn Go.Proofs.Ythkaeighfjadlaa.Aid Go.Proofs.Ythkaeighfjadlaa.GoP Go.Proofs.Ythkaeighfjadlaa.GoM

def P (x : Go.Proofs.Ythkaeighfjadlaa.PMail.Mail) : Option (Bool) :=
  unMail x fun (x_leave : Int) (x_from_ : Int) (x_to_ : Int) (x_arrive : Int) =>
  Option.bind (Go.Proofs.Ythkaeighfjadlaa.GiIsPostOffice.P x_from_) fun (t_4 : Bool) =>
  joinK (fun (t_9 : Bool) =>
  joinK (fun (t_16 : Bool) =>
  joinK (fun (t_21 : Bool) =>
  joinK (fun (t_26 : Bool) =>
  joinK (fun (t_33 : Bool) =>
  some t_33) fun jt_33 => iteK t_26 (letK (decide (x_leave < x_arrive)) fun (t_32 : Bool) =>
  appK jt_33 t_32) (appK jt_33 false)) fun jt_26 => iteK t_21 (Option.bind (Go.Proofs.Ythkaeighfjadlaa.GiIsMinute.P x_arrive) fun (t_25 : Bool) =>
  appK jt_26 t_25) (appK jt_26 false)) fun jt_21 => iteK t_16 (Option.bind (Go.Proofs.Ythkaeighfjadlaa.GiIsMinute.P x_leave) fun (t_20 : Bool) =>
  appK jt_21 t_20) (appK jt_21 false)) fun jt_16 => iteK t_9 (letK (x_from_ != x_to_) fun (t_15 : Bool) =>
  appK jt_16 t_15) (appK jt_16 false)) fun jt_9 => iteK t_4 (Option.bind (Go.Proofs.Ythkaeighfjadlaa.GiIsPostOffice.P x_to_) fun (t_8 : Bool) =>
  appK jt_9 t_8) (appK jt_9 false)

set_option maxRecDepth 100000 in
set_option maxHeartbeats 2000000 in
theorem C (x : Go.Proofs.Ythkaeighfjadlaa.PMail.Mail)   (w : World)   {r : Bool} (H : Hid (P x = some r)) :
    Calls Try.prog 63 #[x.val] w (Gives (.bool r) w) := by
  have HB := Lib.hid (Below.refl w.heap.size w)
  unfold P at H
  obtain ⟨x_leave, x_from_, x_to_, x_arrive⟩ := x
  replace H := unMail_hid H
  unfold Go.Proofs.Ythkaeighfjadlaa.PMail.Mail.val
  go_enter Try.func63, Try.ntmps63
  obtain ⟨w_x_0, hw_x_0⟩ : ∃ x, w.alloc (.cells #[.int .i64 x_leave, .int .i64 x_from_, .int .i64 x_to_, .int .i64 x_arrive] 93) = x := ⟨_, rfl⟩
  have bw_x_0 : Below w.heap.size w w_x_0 := by rw [← hw_x_0]; exact (Below.refl _ _).alloc (Nat.le_refl _) _
  have HBw_x_0 := Lib.hid (Below.step HB.out bw_x_0)
  clear bw_x_0
  have kx_0_0 : w_x_0.cell? ⟨w.heap.size, 0, none⟩ = some (.int .i64 x_leave) := by rw [← hw_x_0]; exact box_new _ _ _ 0 _ rfl
  have kx_0_1 : w_x_0.cell? ⟨w.heap.size, 1, none⟩ = some (.int .i64 x_from_) := by rw [← hw_x_0]; exact box_new _ _ _ 1 _ rfl
  have kx_0_2 : w_x_0.cell? ⟨w.heap.size, 2, none⟩ = some (.int .i64 x_to_) := by rw [← hw_x_0]; exact box_new _ _ _ 2 _ rfl
  have kx_0_3 : w_x_0.cell? ⟨w.heap.size, 3, none⟩ = some (.int .i64 x_arrive) := by rw [← hw_x_0]; exact box_new _ _ _ 3 _ rfl
  replace H := bind_hid H
  obtain ⟨t_4, qt_4, H⟩ := H
  go_wp2_with fail
  go_at_call 67
  refine (Go.Proofs.Ythkaeighfjadlaa.GiIsPostOffice.C (x_from_)  _    qt_4).mono ?_
  rintro e_t_4 wt_4 ⟨rfl, bt_4⟩
  have HBwt_4 := Lib.hid (Below.step HBw_x_0.out bt_4)
  replace kx_0_0 := cell_below bt_4 kx_0_0
  replace kx_0_1 := cell_below bt_4 kx_0_1
  replace kx_0_2 := cell_below bt_4 kx_0_2
  replace kx_0_3 := cell_below bt_4 kx_0_3
  clear bt_4
  replace H := join_hid H
  cases t_4 with
  | false =>
    replace H := ite_f H
    replace H := app_hid H
    replace H := join_hid H
    replace H := ite_f H
    replace H := app_hid H
    replace H := join_hid H
    replace H := ite_f H
    replace H := app_hid H
    replace H := join_hid H
    replace H := ite_f H
    replace H := app_hid H
    replace H := join_hid H
    replace H := ite_f H
    replace H := app_hid H
    obtain rfl := ret_hid H
    go_wp2_with fail
    go_ret
    exact ⟨rfl, HBwt_4.out⟩
  | true =>
    replace H := ite_t H
    replace H := bind_hid H
    obtain ⟨t_8, qt_8, H⟩ := H
    go_wp2_with fail
    go_at_call 67
    refine (Go.Proofs.Ythkaeighfjadlaa.GiIsPostOffice.C (x_to_)  _    qt_8).mono ?_
    rintro e_t_8 wt_8 ⟨rfl, bt_8⟩
    have HBwt_8 := Lib.hid (Below.step HBwt_4.out bt_8)
    replace kx_0_0 := cell_below bt_8 kx_0_0
    replace kx_0_1 := cell_below bt_8 kx_0_1
    replace kx_0_2 := cell_below bt_8 kx_0_2
    replace kx_0_3 := cell_below bt_8 kx_0_3
    clear bt_8
    replace H := app_hid H
    replace H := join_hid H
    cases t_8 with
    | false =>
      replace H := ite_f H
      replace H := app_hid H
      replace H := join_hid H
      replace H := ite_f H
      replace H := app_hid H
      replace H := join_hid H
      replace H := ite_f H
      replace H := app_hid H
      replace H := join_hid H
      replace H := ite_f H
      replace H := app_hid H
      obtain rfl := ret_hid H
      go_wp2_with fail
      go_ret
      exact ⟨rfl, HBwt_8.out⟩
    | true =>
      replace H := ite_t H
      replace H := let_hid H
      obtain ⟨t_15, ht_15, H⟩ := H
      replace H := app_hid H
      replace H := join_hid H
      cases t_15 with
      | false =>
        replace H := ite_f H
        replace H := app_hid H
        replace H := join_hid H
        replace H := ite_f H
        replace H := app_hid H
        replace H := join_hid H
        replace H := ite_f H
        replace H := app_hid H
        obtain rfl := ret_hid H
        go_wp2_with fail
        go_ret
        exact ⟨rfl, HBwt_8.out⟩
      | true =>
        replace H := ite_t H
        replace H := bind_hid H
        obtain ⟨t_20, qt_20, H⟩ := H
        go_wp2_with fail
        go_at_call 73
        refine (Go.Proofs.Ythkaeighfjadlaa.GiIsMinute.C (x_leave)  _    qt_20).mono ?_
        rintro e_t_20 wt_20 ⟨rfl, bt_20⟩
        have HBwt_20 := Lib.hid (Below.step HBwt_8.out bt_20)
        replace kx_0_0 := cell_below bt_20 kx_0_0
        replace kx_0_1 := cell_below bt_20 kx_0_1
        replace kx_0_2 := cell_below bt_20 kx_0_2
        replace kx_0_3 := cell_below bt_20 kx_0_3
        clear bt_20
        replace H := app_hid H
        replace H := join_hid H
        cases t_20 with
        | false =>
          replace H := ite_f H
          replace H := app_hid H
          replace H := join_hid H
          replace H := ite_f H
          replace H := app_hid H
          obtain rfl := ret_hid H
          go_wp2_with fail
          go_ret
          exact ⟨rfl, HBwt_20.out⟩
        | true =>
          replace H := ite_t H
          replace H := bind_hid H
          obtain ⟨t_25, qt_25, H⟩ := H
          go_wp2_with fail
          go_at_call 73
          refine (Go.Proofs.Ythkaeighfjadlaa.GiIsMinute.C (x_arrive)  _    qt_25).mono ?_
          rintro e_t_25 wt_25 ⟨rfl, bt_25⟩
          have HBwt_25 := Lib.hid (Below.step HBwt_20.out bt_25)
          replace kx_0_0 := cell_below bt_25 kx_0_0
          replace kx_0_1 := cell_below bt_25 kx_0_1
          replace kx_0_2 := cell_below bt_25 kx_0_2
          replace kx_0_3 := cell_below bt_25 kx_0_3
          clear bt_25
          replace H := app_hid H
          replace H := join_hid H
          cases t_25 with
          | false =>
            replace H := ite_f H
            replace H := app_hid H
            obtain rfl := ret_hid H
            go_wp2_with fail
            go_ret
            exact ⟨rfl, HBwt_25.out⟩
          | true =>
            replace H := ite_t H
            replace H := let_hid H
            obtain ⟨t_32, ht_32, H⟩ := H
            replace H := app_hid H
            obtain rfl := ret_hid H
            go_wp2_with fail
            go_ret
            exact ⟨rfl, HBwt_25.out⟩
end Go.Proofs.Ythkaeighfjadlaa.GiIsMail

/- cmp.isNaN[int] as a plain function, and the contract of the program's: where the plain one has an answer, the program has it. Conditions: slices read as lists. -/
namespace Go.Proofs.Ythkaeighfjadlaa.GxCmpIsNaNInt
set_option linter.unusedVariables false
set_option linter.unusedSimpArgs false
open Go.RowKit
open Go.Proofs.Ythkaeighfjadlaa.Rowed Go.Proofs.Ythkaeighfjadlaa.Turn Go.Proofs.Ythkaeighfjadlaa.Aid Go.Proofs.Ythkaeighfjadlaa.GoP Go.Proofs.Ythkaeighfjadlaa.GoM

def P (x : Int) : Option (Bool) :=
  some false

set_option maxRecDepth 100000 in
set_option maxHeartbeats 2000000 in
theorem C (x : Int)   (w : World)   {r : Bool} (H : Hid (P x = some r)) :
    Calls Try.prog 141 #[.int .i64 x] w (Gives (.bool r) w) := by
  have HB := Lib.hid (Below.refl w.heap.size w)
  unfold P at H
  go_enter Try.func141, Try.ntmps141
  obtain rfl := ret_hid H
  go_wp2_with fail
  go_ret
  exact ⟨rfl, HB.out⟩

set_option maxRecDepth 100000 in
set_option maxHeartbeats 2000000 in
theorem C0 (x : Int)   (w : World)   {r : Bool} (H : Hid (P x = some r)) :
    Calls Try.prog 141 #[.int .i64 x] w (fun e w'' => e = .returned (.bool r) ∧ w'' = w) := by
  have HB := Lib.hid (Below.refl w.heap.size w)
  unfold P at H
  go_enter Try.func141, Try.ntmps141
  obtain rfl := ret_hid H
  go_wp2_with fail
  go_ret
  exact ⟨rfl, rfl⟩
end Go.Proofs.Ythkaeighfjadlaa.GxCmpIsNaNInt

/- cmp.Compare[int] as a plain function, and the contract of the program's: where the plain one has an answer, the program has it. Conditions: slices read as lists. -/
namespace Go.Proofs.Ythkaeighfjadlaa.GxCmpCompareInt
set_option linter.unusedVariables false
set_option linter.unusedSimpArgs false
open Go.RowKit
open Go.Proofs.Ythkaeighfjadlaa.Rowed Go.Proofs.Ythkaeighfjadlaa.Turn Go.Proofs.Ythkaeighfjadlaa.Aid Go.Proofs.Ythkaeighfjadlaa.GoP Go.Proofs.Ythkaeighfjadlaa.GoM

def P (x : Int) (y : Int) : Option (Int) :=
  Option.bind (Go.Proofs.Ythkaeighfjadlaa.GxCmpIsNaNInt.P x) fun (t_2 : Bool) =>
  Option.bind (Go.Proofs.Ythkaeighfjadlaa.GxCmpIsNaNInt.P y) fun (t_5 : Bool) =>
  iteK t_2
  (iteK t_5
  (some 0)
  (some (-1)))
  (iteK t_5
  (some 1)
  (letK (decide (x < y)) fun (t_15 : Bool) =>
  iteK t_15
  (some (-1))
  (letK (decide (y < x)) fun (t_19 : Bool) =>
  iteK t_19
  (some 1)
  (some 0))))

set_option maxRecDepth 100000 in
set_option maxHeartbeats 2000000 in
theorem C (x : Int) (y : Int)   (w : World)   {r : Int} (H : Hid (P x y = some r)) :
    Calls Try.prog 115 #[.int .i64 x, .int .i64 y] w (Gives (.int .i64 r) w) := by
  have HB := Lib.hid (Below.refl w.heap.size w)
  unfold P at H
  go_enter Try.func115, Try.ntmps115
  replace H := bind_hid H
  obtain ⟨t_2, qt_2, H⟩ := H
  go_wp2_with fail
  go_at_call 141
  refine (Go.Proofs.Ythkaeighfjadlaa.GxCmpIsNaNInt.C (x)  _    qt_2).mono ?_
  rintro e_t_2 wt_2 ⟨rfl, bt_2⟩
  have HBwt_2 := Lib.hid (Below.step HB.out bt_2)
  clear bt_2
  replace H := bind_hid H
  obtain ⟨t_5, qt_5, H⟩ := H
  go_wp2_with fail
  go_at_call 141
  refine (Go.Proofs.Ythkaeighfjadlaa.GxCmpIsNaNInt.C (y)  _    qt_5).mono ?_
  rintro e_t_5 wt_5 ⟨rfl, bt_5⟩
  have HBwt_5 := Lib.hid (Below.step HBwt_2.out bt_5)
  clear bt_5
  cases t_2 with
  | false =>
    replace H := ite_f H
    cases t_5 with
    | false =>
      replace H := ite_f H
      replace H := let_hid H
      obtain ⟨t_15, ht_15, H⟩ := H
      cases t_15 with
      | false =>
        replace H := ite_f H
        replace H := let_hid H
        obtain ⟨t_19, ht_19, H⟩ := H
        cases t_19 with
        | false =>
          replace H := ite_f H
          obtain rfl := ret_hid H
          go_wp2_with fail
          go_ret
          exact ⟨rfl, HBwt_5.out⟩
        | true =>
          replace H := ite_t H
          obtain rfl := ret_hid H
          go_wp2_with fail
          go_ret
          exact ⟨rfl, HBwt_5.out⟩
      | true =>
        replace H := ite_t H
        obtain rfl := ret_hid H
        go_wp2_with fail
        go_ret
        exact ⟨rfl, HBwt_5.out⟩
    | true =>
      replace H := ite_t H
      obtain rfl := ret_hid H
      go_wp2_with fail
      go_ret
      exact ⟨rfl, HBwt_5.out⟩
  | true =>
    replace H := ite_t H
    cases t_5 with
    | false =>
      replace H := ite_f H
      obtain rfl := ret_hid H
      go_wp2_with fail
      go_ret
      exact ⟨rfl, HBwt_5.out⟩
    | true =>
      replace H := ite_t H
      obtain rfl := ret_hid H
      go_wp2_with fail
      go_ret
      exact ⟨rfl, HBwt_5.out⟩
end Go.Proofs.Ythkaeighfjadlaa.GxCmpCompareInt

/- cmp.Or[int] as a plain function, and the contract of the program's: where the plain one has an answer, the program has it. Conditions: slices read as lists. -/
namespace Go.Proofs.Ythkaeighfjadlaa.GxCmpOrInt
set_option linter.unusedVariables false
set_option linter.unusedSimpArgs false
open Go.RowKit
open Go.Proofs.Ythkaeighfjadlaa.Rowed Go.Proofs.Ythkaeighfjadlaa.Turn Go.Proofs.Ythkaeighfjadlaa.Aid Go.Proofs.Ythkaeighfjadlaa.GoP Go.Proofs.Ythkaeighfjadlaa.GoM

def l0 (vals : (List Int)) (k0 : Nat) (s : Unit) (nx0 bk0 : Unit → Option (Int)) : Option (Int) :=
  
  Option.bind (idx vals (k0 : Int)) fun (yt_6 : Int) =>
  letK (yt_6 != 0) fun (t_11 : Bool) =>
  iteK t_11
  (some yt_6)
  (appK nx0 ())

def e0  (s : Unit) : Option (Int) :=
  
  some 0

def P (vals : (List Int)) : Option (Int) :=
  cntK (l0 vals) (vals.length) 0 () (e0 )

set_option maxRecDepth 100000 in
set_option maxHeartbeats 2000000 in
theorem C (vals : (List Int)) (A0 : Option Addr) (c0 : Nat)  (w : World) (M0 : Hid (Cells w 1 A0 vals.length (Go.Proofs.Ythkaeighfjadlaa.HelpInt.iv vals))) (N0 : Hid (vals.length ≤ 9223372036854775807))  {r : Int} (H : Hid (P vals = some r)) :
    Calls Try.prog 118 #[.slice A0 vals.length c0] w (Gives (.int .i64 r) w) := by
  have HB := Lib.hid (Below.refl w.heap.size w)
  unfold P at H
  have N0o := N0.out
  go_enter Try.func118, Try.ntmps118
  go_wp2_with fail
  go_loopg [8] (vals.length) (fun m_ v8_ wr => ∃ (k0 : Nat) , k0 + m_ = vals.length ∧ v8_ = .int .i64 (k0 : Int) ∧ Hid (cntK (l0 vals) m_ k0 () (e0 ) = some r) ∧ Hid (Below w.heap.size w wr))
  case atStart => exact ⟨0, by omega, rfl, H, HB⟩
  case round =>
    obtain ⟨k0, hkm0, rfl, H, HBwr0⟩ := hrel
    rename World => wr0
    cases gk with
    | zero =>
      obtain rfl : k0 = vals.length := by omega
      have hc0 : decide (((vals.length : Nat) : Int) < ((vals.length : Nat) : Int)) = false := by simp
      replace H := cnt_zero H
      unfold e0 at H
      obtain rfl := ret_hid H
      go_wp2_with fail
      go_ret
      exact ⟨rfl, HBwr0.out⟩
    | succ m0 =>
      have hlt0 : k0 < vals.length := by omega
      have hc0 : decide ((k0 : Int) < ((vals.length : Nat) : Int)) = true := by simp; omega
      replace H := cnt_succ H
      unfold l0 at H
      replace H := idx_hid H
      obtain ⟨nt_6, yt_6, et_6, lt_6, gt_6, H⟩ := H
      obtain rfl : k0 = nt_6 := by omega
      clear et_6
      obtain ⟨ab_t_6, ao_t_6, zt_6, At_6, z_t_6, ct_6_0⟩ := Go.Proofs.Ythkaeighfjadlaa.HelpInt.Ints.at_ M0.out lt_6
      obtain rfl := Option.some.inj (gt_6.out.symm.trans z_t_6)
      subst At_6
      have ltt_6 := cell_lt ct_6_0
      replace ct_6_0 := cell_below HBwr0.out ct_6_0
      clear z_t_6
      have b0t_6 : (0 : Int) ≤ (k0 : Int) := by omega
      have b1t_6 : (k0 : Int) < ((vals.length : Nat) : Int) := by omega
      have b2t_6 : ((k0 : Int)).toNat = k0 := by omega
      replace H := let_hid H
      obtain ⟨t_11, ht_11, H⟩ := H
      cases t_11 with
      | false =>
        replace H := ite_f H
        replace H := app_hid H
        go_wp2_with fail
        go_roundg m0
        case measure => omega
        case rel => exact ⟨k0 + 1, by omega, by go_num, H, HBwr0⟩
      | true =>
        replace H := ite_t H
        obtain rfl := ret_hid H
        go_wp2_with fail
        go_ret
        exact ⟨rfl, HBwr0.out⟩
end Go.Proofs.Ythkaeighfjadlaa.GxCmpOrInt

/- loop.example/g01062/impl.compareMails as a plain function, and the contract of the program's: where the plain one has an answer, the program has it. Conditions: slices read as lists. -/
namespace Go.Proofs.Ythkaeighfjadlaa.GiCompareMails
set_option linter.unusedVariables false
set_option linter.unusedSimpArgs false
open Go.RowKit
open Go.Proofs.Ythkaeighfjadlaa.Rowed Go.Proofs.Ythkaeighfjadlaa.Turn Go.Proofs.Ythkaeighfjadlaa.Aid Go.Proofs.Ythkaeighfjadlaa.GoP Go.Proofs.Ythkaeighfjadlaa.GoM

def P (a : Go.Proofs.Ythkaeighfjadlaa.PMail.Mail) (b : Go.Proofs.Ythkaeighfjadlaa.PMail.Mail) : Option (Int) :=
  unMail a fun (a_leave : Int) (a_from_ : Int) (a_to_ : Int) (a_arrive : Int) =>
  unMail b fun (b_leave : Int) (b_from_ : Int) (b_to_ : Int) (b_arrive : Int) =>
  Option.bind (Go.Proofs.Ythkaeighfjadlaa.GxCmpCompareInt.P a_leave b_leave) fun (t_7 : Int) =>
  Option.bind (Go.Proofs.Ythkaeighfjadlaa.GxCmpCompareInt.P a_from_ b_from_) fun (t_12 : Int) =>
  Option.bind (Go.Proofs.Ythkaeighfjadlaa.GxCmpCompareInt.P a_to_ b_to_) fun (t_17 : Int) =>
  Option.bind (Go.Proofs.Ythkaeighfjadlaa.GxCmpCompareInt.P a_arrive b_arrive) fun (t_22 : Int) =>
  letK ([t_7, t_12, t_17, t_22]) fun (t_23 : (List Int)) =>
  Option.bind (Go.Proofs.Ythkaeighfjadlaa.GxCmpOrInt.P t_23) fun (t_24 : Int) =>
  some t_24

set_option maxRecDepth 100000 in
set_option maxHeartbeats 2000000 in
theorem C (a : Go.Proofs.Ythkaeighfjadlaa.PMail.Mail) (b : Go.Proofs.Ythkaeighfjadlaa.PMail.Mail)   (w : World)   {r : Int} (H : Hid (P a b = some r)) :
    Calls Try.prog 64 #[a.val, b.val] w (Gives (.int .i64 r) w) := by
  have HB := Lib.hid (Below.refl w.heap.size w)
  unfold P at H
  obtain ⟨a_leave, a_from_, a_to_, a_arrive⟩ := a
  replace H := unMail_hid H
  obtain ⟨b_leave, b_from_, b_to_, b_arrive⟩ := b
  replace H := unMail_hid H
  unfold Go.Proofs.Ythkaeighfjadlaa.PMail.Mail.val
  go_enter Try.func64, Try.ntmps64
  obtain ⟨w_a_0, hw_a_0⟩ : ∃ x, w.alloc (.cells #[.int .i64 a_leave, .int .i64 a_from_, .int .i64 a_to_, .int .i64 a_arrive] 93) = x := ⟨_, rfl⟩
  have bw_a_0 : Below w.heap.size w w_a_0 := by rw [← hw_a_0]; exact (Below.refl _ _).alloc (Nat.le_refl _) _
  have HBw_a_0 := Lib.hid (Below.step HB.out bw_a_0)
  clear bw_a_0
  have ka_0_0 : w_a_0.cell? ⟨w.heap.size, 0, none⟩ = some (.int .i64 a_leave) := by rw [← hw_a_0]; exact box_new _ _ _ 0 _ rfl
  have ka_0_1 : w_a_0.cell? ⟨w.heap.size, 1, none⟩ = some (.int .i64 a_from_) := by rw [← hw_a_0]; exact box_new _ _ _ 1 _ rfl
  have ka_0_2 : w_a_0.cell? ⟨w.heap.size, 2, none⟩ = some (.int .i64 a_to_) := by rw [← hw_a_0]; exact box_new _ _ _ 2 _ rfl
  have ka_0_3 : w_a_0.cell? ⟨w.heap.size, 3, none⟩ = some (.int .i64 a_arrive) := by rw [← hw_a_0]; exact box_new _ _ _ 3 _ rfl
  obtain ⟨w_b_1, hw_b_1⟩ : ∃ x, w_a_0.alloc (.cells #[.int .i64 b_leave, .int .i64 b_from_, .int .i64 b_to_, .int .i64 b_arrive] 93) = x := ⟨_, rfl⟩
  have bw_b_1 : Below w_a_0.heap.size w_a_0 w_b_1 := by rw [← hw_b_1]; exact (Below.refl _ _).alloc (Nat.le_refl _) _
  have HBw_b_1 := Lib.hid (Below.step HBw_a_0.out bw_b_1)
  have ka_0_0__113 := cell_below bw_b_1 ka_0_0
  have ka_0_1__114 := cell_below bw_b_1 ka_0_1
  have ka_0_2__115 := cell_below bw_b_1 ka_0_2
  have ka_0_3__116 := cell_below bw_b_1 ka_0_3
  clear bw_b_1
  have kb_1_0 : w_b_1.cell? ⟨w_a_0.heap.size, 0, none⟩ = some (.int .i64 b_leave) := by rw [← hw_b_1]; exact box_new _ _ _ 0 _ rfl
  have kb_1_1 : w_b_1.cell? ⟨w_a_0.heap.size, 1, none⟩ = some (.int .i64 b_from_) := by rw [← hw_b_1]; exact box_new _ _ _ 1 _ rfl
  have kb_1_2 : w_b_1.cell? ⟨w_a_0.heap.size, 2, none⟩ = some (.int .i64 b_to_) := by rw [← hw_b_1]; exact box_new _ _ _ 2 _ rfl
  have kb_1_3 : w_b_1.cell? ⟨w_a_0.heap.size, 3, none⟩ = some (.int .i64 b_arrive) := by rw [← hw_b_1]; exact box_new _ _ _ 3 _ rfl
  go_wp2_with fail
  clear ka_0_0 ka_0_1 ka_0_2 ka_0_3
  have bd1 : Below w_b_1.heap.size w_b_1 w_b_1.drew := (Below.refl _ _).drew
  have HBw_b_1.drew := Lib.hid (Below.step HBw_b_1.out bd1)
  replace ka_0_0__113 := cell_below bd1 ka_0_0__113
  replace ka_0_1__114 := cell_below bd1 ka_0_1__114
  replace ka_0_2__115 := cell_below bd1 ka_0_2__115
  replace ka_0_3__116 := cell_below bd1 ka_0_3__116
  replace kb_1_0 := cell_below bd1 kb_1_0
  replace kb_1_1 := cell_below bd1 kb_1_1
  replace kb_1_2 := cell_below bd1 kb_1_2
  replace kb_1_3 := cell_below bd1 kb_1_3
  clear bd1
  replace H := bind_hid H
  obtain ⟨t_7, qt_7, H⟩ := H
  replace H := bind_hid H
  obtain ⟨t_12, qt_12, H⟩ := H
  replace H := bind_hid H
  obtain ⟨t_17, qt_17, H⟩ := H
  replace H := bind_hid H
  obtain ⟨t_22, qt_22, H⟩ := H
  replace H := let_hid H
  obtain ⟨t_23, ht_23, H⟩ := H
  replace H := bind_hid H
  obtain ⟨t_24, qt_24, H⟩ := H
  go_region_held3 (fun w' => w'.cell? ⟨w.heap.size, 0, none⟩ = some (.int .i64 a_leave) ∧ w'.cell? ⟨w.heap.size, 1, none⟩ = some (.int .i64 a_from_) ∧ w'.cell? ⟨w.heap.size, 2, none⟩ = some (.int .i64 a_to_) ∧ w'.cell? ⟨w.heap.size, 3, none⟩ = some (.int .i64 a_arrive) ∧ w'.cell? ⟨w_a_0.heap.size, 0, none⟩ = some (.int .i64 b_leave) ∧ w'.cell? ⟨w_a_0.heap.size, 1, none⟩ = some (.int .i64 b_from_) ∧ w'.cell? ⟨w_a_0.heap.size, 2, none⟩ = some (.int .i64 b_to_) ∧ w'.cell? ⟨w_a_0.heap.size, 3, none⟩ = some (.int .i64 b_arrive)) (first | exact ⟨ka_0_0__113, ka_0_1__114, ka_0_2__115, ka_0_3__116, kb_1_0, kb_1_1, kb_1_2, kb_1_3⟩ | exact ⟨ka_0_0__117, ka_0_1__118, ka_0_2__119, ka_0_3__120, kb_1_0__121, kb_1_1__122, kb_1_2__123, kb_1_3__124⟩)
      (first
        | (go_at_call 115
           refine (Go.Proofs.Ythkaeighfjadlaa.GxCmpCompareInt.C (a_leave) (b_leave)  _    qt_7).mono ?_
           rintro e_t_7 wt_7 ⟨rfl, bt_7⟩
           have HBwt_7 := Lib.hid (Below.step HBw_b_1.drew.out bt_7)
           replace ka_0_0__113 := cell_below bt_7 ka_0_0__113
           replace ka_0_1__114 := cell_below bt_7 ka_0_1__114
           replace ka_0_2__115 := cell_below bt_7 ka_0_2__115
           replace ka_0_3__116 := cell_below bt_7 ka_0_3__116
           replace kb_1_0 := cell_below bt_7 kb_1_0
           replace kb_1_1 := cell_below bt_7 kb_1_1
           replace kb_1_2 := cell_below bt_7 kb_1_2
           replace kb_1_3 := cell_below bt_7 kb_1_3
           clear bt_7
           clear qt_7)
        | (go_at_call 115
           refine (Go.Proofs.Ythkaeighfjadlaa.GxCmpCompareInt.C (a_from_) (b_from_)  _    qt_12).mono ?_
           rintro e_t_12 wt_12 ⟨rfl, bt_12⟩
           have HBwt_12 := Lib.hid (Below.step HBwt_7.out bt_12)
           replace ka_0_0__113 := cell_below bt_12 ka_0_0__113
           replace ka_0_1__114 := cell_below bt_12 ka_0_1__114
           replace ka_0_2__115 := cell_below bt_12 ka_0_2__115
           replace ka_0_3__116 := cell_below bt_12 ka_0_3__116
           replace kb_1_0 := cell_below bt_12 kb_1_0
           replace kb_1_1 := cell_below bt_12 kb_1_1
           replace kb_1_2 := cell_below bt_12 kb_1_2
           replace kb_1_3 := cell_below bt_12 kb_1_3
           clear bt_12
           clear qt_12)
        | (go_at_call 115
           refine (Go.Proofs.Ythkaeighfjadlaa.GxCmpCompareInt.C (a_to_) (b_to_)  _    qt_17).mono ?_
           rintro e_t_17 wt_17 ⟨rfl, bt_17⟩
           have HBwt_17 := Lib.hid (Below.step HBwt_12.out bt_17)
           replace ka_0_0__113 := cell_below bt_17 ka_0_0__113
           replace ka_0_1__114 := cell_below bt_17 ka_0_1__114
           replace ka_0_2__115 := cell_below bt_17 ka_0_2__115
           replace ka_0_3__116 := cell_below bt_17 ka_0_3__116
           replace kb_1_0 := cell_below bt_17 kb_1_0
           replace kb_1_1 := cell_below bt_17 kb_1_1
           replace kb_1_2 := cell_below bt_17 kb_1_2
           replace kb_1_3 := cell_below bt_17 kb_1_3
           clear bt_17
           clear qt_17)
        | (go_at_call 115
           refine (Go.Proofs.Ythkaeighfjadlaa.GxCmpCompareInt.C (a_arrive) (b_arrive)  _    qt_22).mono ?_
           rintro e_t_22 wt_22 ⟨rfl, bt_22⟩
           have HBwt_22 := Lib.hid (Below.step HBwt_17.out bt_22)
           replace ka_0_0__113 := cell_below bt_22 ka_0_0__113
           replace ka_0_1__114 := cell_below bt_22 ka_0_1__114
           replace ka_0_2__115 := cell_below bt_22 ka_0_2__115
           replace ka_0_3__116 := cell_below bt_22 ka_0_3__116
           replace kb_1_0 := cell_below bt_22 kb_1_0
           replace kb_1_1 := cell_below bt_22 kb_1_1
           replace kb_1_2 := cell_below bt_22 kb_1_2
           replace kb_1_3 := cell_below bt_22 kb_1_3
           clear bt_22
           clear qt_22
           obtain ⟨w_t_23, hw_t_23⟩ : ∃ x, wt_22.alloc (.cells #[.int .i64 t_7, .int .i64 t_12, .int .i64 t_17, .int .i64 t_22] 3) = x := ⟨_, rfl⟩
           have bw_t_23 : Below wt_22.heap.size wt_22 w_t_23 := by rw [← hw_t_23]; exact (Below.refl _ _).alloc (Nat.le_refl _) _
           have hs_t_23 := HBwt_22.out.size
           have nt_23 : t_23.length = 4 := by rw [← ht_23]; rfl
           have Ot_23 : Hid (w_t_23.ownsRow w.heap.size 3 1 (.slice (some ⟨wt_22.heap.size, 0, none⟩) 4 4) 4 (Go.Proofs.Ythkaeighfjadlaa.HelpInt.iv t_23)) := by
             rw [← hw_t_23, ← ht_23]
             have e_ : ([.int .i64 t_7, .int .i64 t_12, .int .i64 t_17, .int .i64 t_22] : List Value) = (Go.Proofs.Ythkaeighfjadlaa.HelpInt.iv ([t_7, t_12, t_17, t_22] : List Int)) := rfl
             exact Lib.hid (own_laid (n := 4) hs_t_23 e_ rfl (by unfold maxLen; omega))
           clear hs_t_23
           have hht_23 := Lib.hid ht_23
           clear ht_23
           replace nt_23 := Lib.hid nt_23
           have Dt_23_a_0 := Lib.hid (apart_box ka_0_0__113)
           have Dt_23_b_1 := Lib.hid (apart_box kb_1_0)
           have HBw_t_23 := Lib.hid (Below.step HBwt_22.out bw_t_23)
           have ka_0_0__117 := cell_below bw_t_23 ka_0_0__113
           have ka_0_1__118 := cell_below bw_t_23 ka_0_1__114
           have ka_0_2__119 := cell_below bw_t_23 ka_0_2__115
           have ka_0_3__120 := cell_below bw_t_23 ka_0_3__116
           have kb_1_0__121 := cell_below bw_t_23 kb_1_0
           have kb_1_1__122 := cell_below bw_t_23 kb_1_1
           have kb_1_2__123 := cell_below bw_t_23 kb_1_2
           have kb_1_3__124 := cell_below bw_t_23 kb_1_3
           clear bw_t_23)
        | (have hc0_ := nt_23.out
           have Oct_24_1 := Lib.hid (own_len hc0_ Ot_23.out)
           have con_ := Go.Proofs.Ythkaeighfjadlaa.GxCmpOrInt.C (t_23) (some ⟨wt_22.heap.size, 0, none⟩) 4 _   (Lib.hid (own_cells Oct_24_1.out)) (Lib.hid (own_max Oct_24_1.out)) qt_24
           rw [hc0_] at con_
           clear hc0_ Oct_24_1
           go_at_call 118
           refine con_.mono ?_
           rintro e_t_24 wt_24 ⟨rfl, bt_24⟩
           have HBwt_24 := Lib.hid (Below.step HBw_t_23.out bt_24)
           replace ka_0_0__117 := cell_below bt_24 ka_0_0__117
           replace ka_0_1__118 := cell_below bt_24 ka_0_1__118
           replace ka_0_2__119 := cell_below bt_24 ka_0_2__119
           replace ka_0_3__120 := cell_below bt_24 ka_0_3__120
           replace kb_1_0__121 := cell_below bt_24 kb_1_0__121
           replace kb_1_1__122 := cell_below bt_24 kb_1_1__122
           replace kb_1_2__123 := cell_below bt_24 kb_1_2__123
           replace kb_1_3__124 := cell_below bt_24 kb_1_3__124
           replace Ot_23 := Lib.hid (own_below Ot_23.out bt_24)
           clear bt_24
           clear qt_24))
  try clear ka_0_0__113
  try clear ka_0_1__114
  try clear ka_0_2__115
  try clear ka_0_3__116
  try clear kb_1_0
  try clear kb_1_1
  try clear kb_1_2
  try clear kb_1_3
  obtain rfl := ret_hid H
  go_wp2_with fail
  go_ret
  exact ⟨rfl, HBwt_24.out⟩
end Go.Proofs.Ythkaeighfjadlaa.GiCompareMails

/- loop.example/g01062/impl.IsTimetable as a plain function, and the contract of the program's: where the plain one has an answer, the program has it. Conditions: slices read as lists. -/
namespace Go.Proofs.Ythkaeighfjadlaa.GiIsTimetable
set_option linter.unusedVariables false
set_option linter.unusedSimpArgs false
open Go.RowKit
open Go.Proofs.Ythkaeighfjadlaa.Rowed Go.Proofs.Ythkaeighfjadlaa.Turn Go.Proofs.Ythkaeighfjadlaa.Aid Go.Proofs.Ythkaeighfjadlaa.GoP Go.Proofs.Ythkaeighfjadlaa.GoM

def l0 (list : (List Go.Proofs.Ythkaeighfjadlaa.PMail.Mail)) (k0 : Nat) (s : Unit) (nx0 bk0 : Unit → Option (Bool)) : Option (Bool) :=
  
  Option.bind (idx list (k0 : Int)) fun (yt_10 : Go.Proofs.Ythkaeighfjadlaa.PMail.Mail) =>
  unMail yt_10 fun (t_10_leave : Int) (t_10_from_ : Int) (t_10_to_ : Int) (t_10_arrive : Int) =>
  Option.bind (Go.Proofs.Ythkaeighfjadlaa.GiIsMail.P (Go.Proofs.Ythkaeighfjadlaa.PMail.Mail.mk t_10_leave t_10_from_ t_10_to_ t_10_arrive)) fun (t_16 : Bool) =>
  letK (!t_16) fun (t_17 : Bool) =>
  joinK (fun (t_31 : Bool) =>
  iteK t_31
  (some false)
  (appK nx0 ())) fun jt_31 => iteK t_17 (appK jt_31 true) (letK (decide (0 < (k0 : Int))) fun (t_20 : Bool) =>
  joinK (fun (t_30 : Bool) =>
  appK jt_31 t_30) fun jt_30 => iteK t_20 (letK (IntKind.i64.wrap ((k0 : Int) - 1)) fun (t_24 : Int) =>
  Option.bind (idx list t_24) fun (yt_25 : Go.Proofs.Ythkaeighfjadlaa.PMail.Mail) =>
  unMail yt_25 fun (t_25_leave : Int) (t_25_from_ : Int) (t_25_to_ : Int) (t_25_arrive : Int) =>
  Option.bind (Go.Proofs.Ythkaeighfjadlaa.GiCompareMails.P (Go.Proofs.Ythkaeighfjadlaa.PMail.Mail.mk t_25_leave t_25_from_ t_25_to_ t_25_arrive) (Go.Proofs.Ythkaeighfjadlaa.PMail.Mail.mk t_10_leave t_10_from_ t_10_to_ t_10_arrive)) fun (t_28 : Int) =>
  letK (decide (0 ≤ t_28)) fun (t_29 : Bool) =>
  appK jt_30 t_29) (appK jt_30 false))

def e0  (s : Unit) : Option (Bool) :=
  
  some true

def P (list : (List Go.Proofs.Ythkaeighfjadlaa.PMail.Mail)) : Option (Bool) :=
  letK (decide (20 < (list.length : Int))) fun (t_3 : Bool) =>
  iteK t_3
  (some false)
  (cntK (l0 list) (list.length) 0 () (e0 ))

set_option maxRecDepth 100000 in
set_option maxHeartbeats 2000000 in
theorem C (list : (List Go.Proofs.Ythkaeighfjadlaa.PMail.Mail)) (A0 : Option Addr) (c0 : Nat)  (w : World) (M0 : Hid (Cells w 4 A0 list.length (Go.Proofs.Ythkaeighfjadlaa.PMail.flat list))) (N0 : Hid (list.length ≤ 9223372036854775807))  {r : Bool} (H : Hid (P list = some r)) :
    Calls Try.prog 13 #[.slice A0 list.length c0] w (Gives (.bool r) w) := by
  have HB := Lib.hid (Below.refl w.heap.size w)
  unfold P at H
  have N0o := N0.out
  go_enter Try.func13, Try.ntmps13
  replace H := let_hid H
  obtain ⟨t_3, ht_3, H⟩ := H
  cases t_3 with
  | false =>
    have nht_3 : ¬ (20 < list.length) := by have := of_decide_eq_false ht_3; omega
    replace H := ite_f H
    go_wp2_with fail
    go_loopg [10] (list.length) (fun m_ v10_ wr => ∃ (k0 : Nat) , k0 + m_ = list.length ∧ v10_ = .int .i64 (k0 : Int) ∧ Hid (cntK (l0 list) m_ k0 () (e0 ) = some r) ∧ Hid (Below w.heap.size w wr))
    case atStart => exact ⟨0, by omega, rfl, H, HB⟩
    case round =>
      obtain ⟨k0, hkm0, rfl, H, HBwr0⟩ := hrel
      rename World => wr0
      cases gk with
      | zero =>
        obtain rfl : k0 = list.length := by omega
        have hc0 : decide (((list.length : Nat) : Int) < ((list.length : Nat) : Int)) = false := by simp
        replace H := cnt_zero H
        unfold e0 at H
        obtain rfl := ret_hid H
        go_wp2_with fail
        go_ret
        exact ⟨rfl, HBwr0.out⟩
      | succ m0 =>
        have hlt0 : k0 < list.length := by omega
        have hc0 : decide ((k0 : Int) < ((list.length : Nat) : Int)) = true := by simp; omega
        replace H := cnt_succ H
        unfold l0 at H
        replace H := idx_hid H
        obtain ⟨nt_10, yt_10, et_10, lt_10, gt_10, H⟩ := H
        obtain rfl : k0 = nt_10 := by omega
        clear et_10
        obtain ⟨t_10_leave, t_10_from_, t_10_to_, t_10_arrive⟩ := yt_10
        replace H := unMail_hid H
        obtain ⟨ab_t_10, ao_t_10, zt_10, At_10, z_t_10, ct_10_0, ct_10_1, ct_10_2, ct_10_3⟩ := Go.Proofs.Ythkaeighfjadlaa.OMail.at_ M0.out lt_10
        obtain rfl := Option.some.inj (gt_10.out.symm.trans z_t_10)
        subst At_10
        have ltt_10 := cell_lt ct_10_0
        replace ct_10_0 := cell_below HBwr0.out ct_10_0
        replace ct_10_1 := cell_below HBwr0.out ct_10_1
        replace ct_10_2 := cell_below HBwr0.out ct_10_2
        replace ct_10_3 := cell_below HBwr0.out ct_10_3
        clear z_t_10
        have b0t_10 : (0 : Int) ≤ (k0 : Int) := by omega
        have b1t_10 : (k0 : Int) < ((list.length : Nat) : Int) := by omega
        have b2t_10 : ((k0 : Int)).toNat = k0 := by omega
        obtain ⟨w_x_12, hw_x_12⟩ : ∃ x, wr0.alloc (.cells #[.int .i64 t_10_leave, .int .i64 t_10_from_, .int .i64 t_10_to_, .int .i64 t_10_arrive] 93) = x := ⟨_, rfl⟩
        have bw_x_12 : Below wr0.heap.size wr0 w_x_12 := by rw [← hw_x_12]; exact (Below.refl _ _).alloc (Nat.le_refl _) _
        have HBw_x_12 := Lib.hid (Below.step HBwr0.out bw_x_12)
        have ct_10_0__125 := cell_below bw_x_12 ct_10_0
        have ct_10_1__126 := cell_below bw_x_12 ct_10_1
        have ct_10_2__127 := cell_below bw_x_12 ct_10_2
        have ct_10_3__128 := cell_below bw_x_12 ct_10_3
        clear bw_x_12
        have kx_12_0 : w_x_12.cell? ⟨wr0.heap.size, 0, none⟩ = some (.int .i64 t_10_leave) := by rw [← hw_x_12]; exact box_new _ _ _ 0 _ rfl
        have kx_12_1 : w_x_12.cell? ⟨wr0.heap.size, 1, none⟩ = some (.int .i64 t_10_from_) := by rw [← hw_x_12]; exact box_new _ _ _ 1 _ rfl
        have kx_12_2 : w_x_12.cell? ⟨wr0.heap.size, 2, none⟩ = some (.int .i64 t_10_to_) := by rw [← hw_x_12]; exact box_new _ _ _ 2 _ rfl
        have kx_12_3 : w_x_12.cell? ⟨wr0.heap.size, 3, none⟩ = some (.int .i64 t_10_arrive) := by rw [← hw_x_12]; exact box_new _ _ _ 3 _ rfl
        go_wp2_with fail
        clear ct_10_0 ct_10_1 ct_10_2 ct_10_3
        have Hct_10_0__125 := Lib.hid ct_10_0__125
        replace ct_10_0__125 := cell_regrown ct_10_0__125
        have Hct_10_1__126 := Lib.hid ct_10_1__126
        replace ct_10_1__126 := cell_regrown ct_10_1__126
        have Hct_10_2__127 := Lib.hid ct_10_2__127
        replace ct_10_2__127 := cell_regrown ct_10_2__127
        have Hct_10_3__128 := Lib.hid ct_10_3__128
        replace ct_10_3__128 := cell_regrown ct_10_3__128
        have Hkx_12_0 := Lib.hid kx_12_0
        replace kx_12_0 := cell_regrown kx_12_0
        have Hkx_12_1 := Lib.hid kx_12_1
        replace kx_12_1 := cell_regrown kx_12_1
        have Hkx_12_2 := Lib.hid kx_12_2
        replace kx_12_2 := cell_regrown kx_12_2
        have Hkx_12_3 := Lib.hid kx_12_3
        replace kx_12_3 := cell_regrown kx_12_3
        replace H := bind_hid H
        obtain ⟨t_16, qt_16, H⟩ := H
        have nt_16 : ∀ d os, Calls Try.prog 63 #[.agg #[.int .i64 t_10_leave, .int .i64 t_10_from_, .int .i64 t_10_to_, .int .i64 t_10_arrive]] (Go.Sort.grow (redrawn w_x_12 d) os) fun e w'' => e = .returned (.bool t_16) ∧ ∃ p : Regrown, w'' = Go.Sort.grow (redrawn w_x_12 p.d) p.os := fun d os => Calls.regrown_of (Go.Proofs.Ythkaeighfjadlaa.GiIsMail.C ((Go.Proofs.Ythkaeighfjadlaa.PMail.Mail.mk t_10_leave t_10_from_ t_10_to_ t_10_arrive))  _    qt_16)
        cases t_16 with
        | false =>
          replace H := let_hid H
          obtain ⟨t_17, ht_17, H⟩ := H
          obtain rfl : t_17 = true := ht_17.symm
          replace H := join_hid H
          replace H := ite_t H
          replace H := app_hid H
          refine wp_region_quiet_below (by kernel_rfl) (by kernel_rfl) ?_
          repeat (go_big_quiet_step (first | (go_at_call 63; exact nt_16 _ _)))
          refine wpQuiet_nil ?_
          intro Y6 hY6
          replace hY6 := below_class hY6
          clear nt_16
          replace ct_10_0__125 := Hct_10_0__125.out
          clear Hct_10_0__125
          replace ct_10_1__126 := Hct_10_1__126.out
          clear Hct_10_1__126
          replace ct_10_2__127 := Hct_10_2__127.out
          clear Hct_10_2__127
          replace ct_10_3__128 := Hct_10_3__128.out
          clear Hct_10_3__128
          replace kx_12_0 := Hkx_12_0.out
          clear Hkx_12_0
          replace kx_12_1 := Hkx_12_1.out
          clear Hkx_12_1
          replace kx_12_2 := Hkx_12_2.out
          clear Hkx_12_2
          replace kx_12_3 := Hkx_12_3.out
          clear Hkx_12_3
          have HBY6 := Lib.hid (Below.step HBw_x_12.out hY6)
          replace ct_10_0__125 := cell_below hY6 ct_10_0__125
          replace ct_10_1__126 := cell_below hY6 ct_10_1__126
          replace ct_10_2__127 := cell_below hY6 ct_10_2__127
          replace ct_10_3__128 := cell_below hY6 ct_10_3__128
          replace kx_12_0 := cell_below hY6 kx_12_0
          replace kx_12_1 := cell_below hY6 kx_12_1
          replace kx_12_2 := cell_below hY6 kx_12_2
          replace kx_12_3 := cell_below hY6 kx_12_3
          clear hY6
          replace H := ite_t H
          obtain rfl := ret_hid H
          go_wp2_with fail
          go_ret
          exact ⟨rfl, HBY6.out⟩
        | true =>
          replace H := let_hid H
          obtain ⟨t_17, ht_17, H⟩ := H
          obtain rfl : t_17 = false := ht_17.symm
          replace H := join_hid H
          replace H := ite_f H
          replace H := let_hid H
          obtain ⟨t_20, ht_20, H⟩ := H
          replace H := join_hid H
          cases t_20 with
          | false =>
            have nht_20 : ¬ (0 < k0) := by have := of_decide_eq_false ht_20; omega
            replace H := ite_f H
            replace H := app_hid H
            replace H := app_hid H
            refine wp_region_quiet_below (by kernel_rfl) (by kernel_rfl) ?_
            repeat (go_big_quiet_step (first | (go_at_call 63; exact nt_16 _ _)))
            refine wpQuiet_nil ?_
            intro Y6 hY6
            replace hY6 := below_class hY6
            clear nt_16
            replace ct_10_0__125 := Hct_10_0__125.out
            clear Hct_10_0__125
            replace ct_10_1__126 := Hct_10_1__126.out
            clear Hct_10_1__126
            replace ct_10_2__127 := Hct_10_2__127.out
            clear Hct_10_2__127
            replace ct_10_3__128 := Hct_10_3__128.out
            clear Hct_10_3__128
            replace kx_12_0 := Hkx_12_0.out
            clear Hkx_12_0
            replace kx_12_1 := Hkx_12_1.out
            clear Hkx_12_1
            replace kx_12_2 := Hkx_12_2.out
            clear Hkx_12_2
            replace kx_12_3 := Hkx_12_3.out
            clear Hkx_12_3
            have HBY6 := Lib.hid (Below.step HBw_x_12.out hY6)
            replace ct_10_0__125 := cell_below hY6 ct_10_0__125
            replace ct_10_1__126 := cell_below hY6 ct_10_1__126
            replace ct_10_2__127 := cell_below hY6 ct_10_2__127
            replace ct_10_3__128 := cell_below hY6 ct_10_3__128
            replace kx_12_0 := cell_below hY6 kx_12_0
            replace kx_12_1 := cell_below hY6 kx_12_1
            replace kx_12_2 := cell_below hY6 kx_12_2
            replace kx_12_3 := cell_below hY6 kx_12_3
            clear hY6
            replace H := ite_f H
            replace H := app_hid H
            go_wp2_with fail
            go_roundg m0
            case measure => omega
            case rel => exact ⟨k0 + 1, by omega, by go_num, H, HBY6⟩
          | true =>
            have nht_20 : 0 < k0 := by have := of_decide_eq_true ht_20; omega
            replace H := ite_t H
            replace H := let_hid H
            obtain ⟨t_24, ht_24, H⟩ := H
            replace H := idx_hid H
            obtain ⟨nt_25, yt_25, et_25, lt_25, gt_25, H⟩ := H
            subst et_25
            obtain ⟨t_25_leave, t_25_from_, t_25_to_, t_25_arrive⟩ := yt_25
            replace H := unMail_hid H
            obtain ⟨ab_t_25, ao_t_25, zt_25, At_25, z_t_25, ct_25_0, ct_25_1, ct_25_2, ct_25_3⟩ := Go.Proofs.Ythkaeighfjadlaa.OMail.at_ M0.out lt_25
            obtain rfl := Option.some.inj (gt_25.out.symm.trans z_t_25)
            simp only [Option.some.injEq, Addr.mk.injEq] at At_25
            obtain ⟨rfl, rfl, _⟩ := At_25
            have ltt_25 := cell_lt ct_25_0
            replace ct_25_0 := cell_below HBw_x_12.out ct_25_0
            replace ct_25_1 := cell_below HBw_x_12.out ct_25_1
            replace ct_25_2 := cell_below HBw_x_12.out ct_25_2
            replace ct_25_3 := cell_below HBw_x_12.out ct_25_3
            clear z_t_25
            have b0t_25 : (0 : Int) ≤ (nt_25 : Int) := by omega
            have b1t_25 : (nt_25 : Int) < ((list.length : Nat) : Int) := by omega
            have b2t_25 : ((nt_25 : Int)).toNat = nt_25 := by omega
            have Hct_25_0 := Lib.hid ct_25_0
            replace ct_25_0 := cell_regrown ct_25_0
            have Hct_25_1 := Lib.hid ct_25_1
            replace ct_25_1 := cell_regrown ct_25_1
            have Hct_25_2 := Lib.hid ct_25_2
            replace ct_25_2 := cell_regrown ct_25_2
            have Hct_25_3 := Lib.hid ct_25_3
            replace ct_25_3 := cell_regrown ct_25_3
            replace H := bind_hid H
            obtain ⟨t_28, qt_28, H⟩ := H
            have nt_28 : ∀ d os, Calls Try.prog 64 #[.agg #[.int .i64 t_25_leave, .int .i64 t_25_from_, .int .i64 t_25_to_, .int .i64 t_25_arrive], .agg #[.int .i64 t_10_leave, .int .i64 t_10_from_, .int .i64 t_10_to_, .int .i64 t_10_arrive]] (Go.Sort.grow (redrawn w_x_12 d) os) fun e w'' => e = .returned (.int .i64 t_28) ∧ ∃ p : Regrown, w'' = Go.Sort.grow (redrawn w_x_12 p.d) p.os := fun d os => Calls.regrown_of (Go.Proofs.Ythkaeighfjadlaa.GiCompareMails.C ((Go.Proofs.Ythkaeighfjadlaa.PMail.Mail.mk t_25_leave t_25_from_ t_25_to_ t_25_arrive)) ((Go.Proofs.Ythkaeighfjadlaa.PMail.Mail.mk t_10_leave t_10_from_ t_10_to_ t_10_arrive))  _    qt_28)
            replace H := let_hid H
            obtain ⟨t_29, ht_29, H⟩ := H
            replace H := app_hid H
            replace H := app_hid H
            refine wp_region_quiet_below (by kernel_rfl) (by kernel_rfl) ?_
            repeat (go_big_quiet_step (first | (go_at_call 63; exact nt_16 _ _) | (go_at_call 64; exact nt_28 _ _)))
            refine wpQuiet_nil ?_
            intro Y6 hY6
            replace hY6 := below_class hY6
            clear nt_16 nt_28
            replace ct_10_0__125 := Hct_10_0__125.out
            clear Hct_10_0__125
            replace ct_10_1__126 := Hct_10_1__126.out
            clear Hct_10_1__126
            replace ct_10_2__127 := Hct_10_2__127.out
            clear Hct_10_2__127
            replace ct_10_3__128 := Hct_10_3__128.out
            clear Hct_10_3__128
            replace kx_12_0 := Hkx_12_0.out
            clear Hkx_12_0
            replace kx_12_1 := Hkx_12_1.out
            clear Hkx_12_1
            replace kx_12_2 := Hkx_12_2.out
            clear Hkx_12_2
            replace kx_12_3 := Hkx_12_3.out
            clear Hkx_12_3
            replace ct_25_0 := Hct_25_0.out
            clear Hct_25_0
            replace ct_25_1 := Hct_25_1.out
            clear Hct_25_1
            replace ct_25_2 := Hct_25_2.out
            clear Hct_25_2
            replace ct_25_3 := Hct_25_3.out
            clear Hct_25_3
            have HBY6 := Lib.hid (Below.step HBw_x_12.out hY6)
            replace ct_10_0__125 := cell_below hY6 ct_10_0__125
            replace ct_10_1__126 := cell_below hY6 ct_10_1__126
            replace ct_10_2__127 := cell_below hY6 ct_10_2__127
            replace ct_10_3__128 := cell_below hY6 ct_10_3__128
            replace kx_12_0 := cell_below hY6 kx_12_0
            replace kx_12_1 := cell_below hY6 kx_12_1
            replace kx_12_2 := cell_below hY6 kx_12_2
            replace kx_12_3 := cell_below hY6 kx_12_3
            replace ct_25_0 := cell_below hY6 ct_25_0
            replace ct_25_1 := cell_below hY6 ct_25_1
            replace ct_25_2 := cell_below hY6 ct_25_2
            replace ct_25_3 := cell_below hY6 ct_25_3
            clear hY6
            cases t_29 with
            | false =>
              replace H := ite_f H
              replace H := app_hid H
              go_wp2_with fail
              go_roundg m0
              case measure => omega
              case rel => exact ⟨k0 + 1, by omega, by go_num, H, HBY6⟩
            | true =>
              replace H := ite_t H
              obtain rfl := ret_hid H
              go_wp2_with fail
              go_ret
              exact ⟨rfl, HBY6.out⟩
  | true =>
    have nht_3 : 20 < list.length := by have := of_decide_eq_true ht_3; omega
    replace H := ite_t H
    obtain rfl := ret_hid H
    go_wp2_with fail
    go_ret
    exact ⟨rfl, HB.out⟩
end Go.Proofs.Ythkaeighfjadlaa.GiIsTimetable

/- loop.example/g01062/impl.canBegin as a plain function, and the contract of the program's: where the plain one has an answer, the program has it. Conditions: slices read as lists. -/
namespace Go.Proofs.Ythkaeighfjadlaa.GiCanBegin
set_option linter.unusedVariables false
set_option linter.unusedSimpArgs false
open Go.RowKit
open Go.Proofs.Ythkaeighfjadlaa.Rowed Go.Proofs.Ythkaeighfjadlaa.Turn Go.Proofs.Ythkaeighfjadlaa.Aid Go.Proofs.Ythkaeighfjadlaa.GoP Go.Proofs.Ythkaeighfjadlaa.GoM

def P (list : (List Go.Proofs.Ythkaeighfjadlaa.PMail.Mail)) (from_1 : Int) (minute : Int) : Option (Bool) :=
  Option.bind (Go.Proofs.Ythkaeighfjadlaa.GiIsTimetable.P list) fun (t_2 : Bool) =>
  joinK (fun (t_6 : Bool) =>
  joinK (fun (t_10 : Bool) =>
  some t_10) fun jt_10 => iteK t_6 (Option.bind (Go.Proofs.Ythkaeighfjadlaa.GiIsMinute.P minute) fun (t_9 : Bool) =>
  appK jt_10 t_9) (appK jt_10 false)) fun jt_6 => iteK t_2 (Option.bind (Go.Proofs.Ythkaeighfjadlaa.GiIsPostOffice.P from_1) fun (t_5 : Bool) =>
  appK jt_6 t_5) (appK jt_6 false)

set_option maxRecDepth 100000 in
set_option maxHeartbeats 2000000 in
theorem C (list : (List Go.Proofs.Ythkaeighfjadlaa.PMail.Mail)) (from_1 : Int) (minute : Int) (A0 : Option Addr) (c0 : Nat)  (w : World) (M0 : Hid (Cells w 4 A0 list.length (Go.Proofs.Ythkaeighfjadlaa.PMail.flat list))) (N0 : Hid (list.length ≤ 9223372036854775807))  {r : Bool} (H : Hid (P list from_1 minute = some r)) :
    Calls Try.prog 66 #[.slice A0 list.length c0, .int .i64 from_1, .int .i64 minute] w (Gives (.bool r) w) := by
  have HB := Lib.hid (Below.refl w.heap.size w)
  unfold P at H
  have N0o := N0.out
  go_enter Try.func66, Try.ntmps66
  replace H := bind_hid H
  obtain ⟨t_2, qt_2, H⟩ := H
  go_wp2_with fail
  go_at_call 13
  refine (Go.Proofs.Ythkaeighfjadlaa.GiIsTimetable.C (list) A0 c0 _   (Lib.hid (Cells.below M0.out HB.out)) N0 qt_2).mono ?_
  rintro e_t_2 wt_2 ⟨rfl, bt_2⟩
  have HBwt_2 := Lib.hid (Below.step HB.out bt_2)
  clear bt_2
  replace H := join_hid H
  cases t_2 with
  | false =>
    replace H := ite_f H
    replace H := app_hid H
    replace H := join_hid H
    replace H := ite_f H
    replace H := app_hid H
    obtain rfl := ret_hid H
    go_wp2_with fail
    go_ret
    exact ⟨rfl, HBwt_2.out⟩
  | true =>
    replace H := ite_t H
    replace H := bind_hid H
    obtain ⟨t_5, qt_5, H⟩ := H
    go_wp2_with fail
    go_at_call 67
    refine (Go.Proofs.Ythkaeighfjadlaa.GiIsPostOffice.C (from_1)  _    qt_5).mono ?_
    rintro e_t_5 wt_5 ⟨rfl, bt_5⟩
    have HBwt_5 := Lib.hid (Below.step HBwt_2.out bt_5)
    clear bt_5
    replace H := app_hid H
    replace H := join_hid H
    cases t_5 with
    | false =>
      replace H := ite_f H
      replace H := app_hid H
      obtain rfl := ret_hid H
      go_wp2_with fail
      go_ret
      exact ⟨rfl, HBwt_5.out⟩
    | true =>
      replace H := ite_t H
      replace H := bind_hid H
      obtain ⟨t_9, qt_9, H⟩ := H
      go_wp2_with fail
      go_at_call 73
      refine (Go.Proofs.Ythkaeighfjadlaa.GiIsMinute.C (minute)  _    qt_9).mono ?_
      rintro e_t_9 wt_9 ⟨rfl, bt_9⟩
      have HBwt_9 := Lib.hid (Below.step HBwt_5.out bt_9)
      clear bt_9
      replace H := app_hid H
      obtain rfl := ret_hid H
      go_wp2_with fail
      go_ret
      exact ⟨rfl, HBwt_9.out⟩
end Go.Proofs.Ythkaeighfjadlaa.GiCanBegin

/- Words on arrays that are variables, and on jumps back to a label. No condition but those of each theorem. -/
namespace Go.Proofs.Ythkaeighfjadlaa.GoA
set_option linter.unusedVariables false
open Go.RowKit
open Go.Proofs.Ythkaeighfjadlaa.HelpInt

/-- the number at a place of an array's list -/
def nth (l : List Int) (j : Nat) : Int := l.getD j 0
theorem row_at {w : World} {b T n c g : Nat} {l : List Int} (h : w.ownsRow b T 1 (.slice (some ⟨g, 0, none⟩) n c) n (iv l)) (hl : l.length = n) (j : Nat) (hj : j < n) : w.cell? ⟨g, j, none⟩ = some (.int .i64 (nth l j)) := by
  unfold nth
  have hc := h.cells rfl j (.int .i64 (l.getD j 0)) (by
    rw [iv_at, List.getD_eq_getElem?_getD, List.getElem?_eq_getElem (show j < l.length by omega)]; rfl)
  rw [add_none] at hc
  simpa using hc

/-- what holds at a jump to a label: a relation that bears a number, which each pass from the label to the next jump lowers -/
def Jumps (P : Program) (rest : Code) (l : Nat) (Q : Exit → Act → World → Prop) (a : Act) (w : World) (m : Nat) : Prop :=
  ∃ J : Nat → Act → World → Prop, J m a w ∧ ∀ m a w, J m a w → rest.wp P (Exit.jump l (Handed J m) Q) a w

theorem jump_mono {l : Nat} {J J' : Act → World → Prop} {Q : Exit → Act → World → Prop} (h : ∀ a w, J a w → J' a w) : ∀ e a w, Exit.jump l J Q e a w → Exit.jump l J' Q e a w := by
  intro e a w he
  cases e with
  | goto l' => exact ⟨he.1, h _ _ he.2⟩
  | _ => exact he

theorem wp_scope_goto {P : Program} {A rest : Code} {l : Nat} {Q : Exit → Act → World → Prop} {a : Act} {w : World} (hf : findLabel (Code.seq A (Code.seq (Code.label l) rest)) l = some (Code.seq Code.skip rest))
    (first : ∀ K : Act → World → Prop, (∀ a w, (∃ m, Jumps P rest l Q a w m) → K a w) → A.wp P (Exit.then K (fun _ _ _ => False)) a w) :
    (Code.scope (Code.seq A (Code.seq (Code.label l) rest))).wp P Q a w := by
  have pass : ∀ m a w, Jumps P rest l Q a w m → rest.wp P (Exit.jump l (fun a' w' => ∃ m', m' < m ∧ Jumps P rest l Q a' w' m') Q) a w := by
    rintro m a w ⟨J, hJ, hp⟩
    refine wp_mono (hp m a w hJ) (jump_mono ?_)
    rintro a' w' ⟨m', hlt, hJ'⟩
    exact ⟨m', hlt, J, hJ', hp⟩
  refine wp_scope_jumps l (fun a w => ∃ m, Jumps P rest l Q a w m) (fun a w => leastOf (Jumps P rest l Q a w)) hf ?_ ?_
  · refine wp_seq (wp_mono (first _ fun _ _ h => h) ?_)
    intro e a1 w1 he
    cases e with
    | normal =>
      obtain ⟨m, hm⟩ := he
      refine wp_seq (wp_label ?_)
      refine wp_mono (pass m a1 w1 hm) (jump_mono ?_)
      rintro a' w' ⟨m', _, h'⟩
      exact ⟨m', h'⟩
    | _ => exact he.elim
  · intro a1 w1 h1
    refine wp_seq (wp_skip ?_)
    have hl := (leastOf_spec h1).1
    refine wp_mono (pass _ a1 w1 hl) (jump_mono ?_)
    rintro a' w' ⟨m', hlt, h'⟩
    exact ⟨⟨m', h'⟩, Nat.lt_of_le_of_lt ((leastOf_spec ⟨m', h'⟩).2 m' h') hlt⟩

/-- the frame with the slots that are marked put to new values -/
def over (u : Nat → Value) : List Bool → Nat → List Value → List Value
  | true :: bs, i, _ :: l => u i :: over u bs (i + 1) l
  | false :: bs, i, v :: l => v :: over u bs (i + 1) l
  | [], _, l => l
  | _ :: _, _, [] => []
theorem over_self (bs : List Bool) : ∀ (i : Nat) (l : List Value) (u : Nat → Value), (∀ j, j < l.length → u (i + j) = l.getD j undef) → over u bs i l = l := by
  induction bs with
  | nil => intro i l u h; cases l <;> rfl
  | cons b bs ih =>
    intro i l u h
    cases l with
    | nil => cases b <;> rfl
    | cons v l =>
      have h0 := h 0 (by simp)
      have ht := ih (i + 1) l u (fun j hj => by
        have := h (j + 1) (by simp; omega)
        rw [show i + 1 + j = i + (j + 1) by omega, this]; rfl)
      cases b
      · show v :: over u bs (i + 1) l = _; rw [ht]
      · show u i :: over u bs (i + 1) l = _; rw [ht]
        have : u i = v := h0
        rw [this]
/-- the pass from the label, as the walk wants it: the frame stands at the label the first time; the marked slots change -/
theorem jumps_intro {P : Program} {rest : Code} {l : Nat} {Q : Exit → Act → World → Prop} {ts : List Value} {de : List Deferred} {w : World} (bs : List Bool) (m : Nat) (R : Nat → (Nat → Value) → World → Prop)
    (start : R m (fun i => ts.getD i undef) w)
    (pass : ∀ m u w, R m u w → ∀ J : Nat → Act → World → Prop, (∀ m u w a, a = ⟨(over u bs 0 ts).toArray, de⟩ → R m u w → J m a w) → rest.wp P (Exit.jump l (Handed J m) Q) ⟨(over u bs 0 ts).toArray, de⟩ w) :
    ∃ m, Jumps P rest l Q ⟨ts.toArray, de⟩ w m := by
  refine ⟨m, fun m a w => ∃ u, a = ⟨(over u bs 0 ts).toArray, de⟩ ∧ R m u w, ⟨fun i => ts.getD i undef, ?_, start⟩, ?_⟩
  · rw [over_self bs 0 ts _ (fun j _ => by rw [Nat.zero_add])]
  · rintro m a w ⟨u, rfl, hR⟩
    exact pass m u w hR _ fun m u w a e h => ⟨u, e, h⟩
theorem handed_goto {J : Nat → Act → World → Prop} {R : Nat → (Nat → Value) → World → Prop} {bs : List Bool} {ts ts' : List Value} {de : List Deferred} {w : World} {m : Nat}
    (hJ : ∀ m u w a, a = ⟨(over u bs 0 ts).toArray, de⟩ → R m u w → J m a w) (m' : Nat) (hlt : m' < m) (he : ts' = over (fun i => ts'.getD i undef) bs 0 ts) (hR : R m' (fun i => ts'.getD i undef) w) : Handed J m ⟨ts'.toArray, de⟩ w :=
  Handed.intro m' hlt (hJ m' _ w _ (congrArg (fun z => (⟨z.toArray, de⟩ : Act)) he) hR)
end Go.Proofs.Ythkaeighfjadlaa.GoA

/- loop.example/g01062/impl.filledWith as a plain function, and the contract of the program's: where the plain one has an answer, the program has it. Conditions: slices read as lists. -/
namespace Go.Proofs.Ythkaeighfjadlaa.GiFilledWith
set_option linter.unusedVariables false
set_option linter.unusedSimpArgs false
open Go.RowKit
open Go.Proofs.Ythkaeighfjadlaa.Rowed Go.Proofs.Ythkaeighfjadlaa.Turn Go.Proofs.Ythkaeighfjadlaa.Aid Go.Proofs.Ythkaeighfjadlaa.GoP Go.Proofs.Ythkaeighfjadlaa.GoM

def l0 (minute : Int) (k0 : Nat) (s : (List Int)) (nx0 bk0 : (List Int) → Option (Go.Proofs.Ythkaeighfjadlaa.PIntA10.IntA10)) : Option (Go.Proofs.Ythkaeighfjadlaa.PIntA10.IntA10) :=
  letK s fun minutes_3l0 =>
  Option.bind (idx minutes_3l0 (k0 : Int)) fun (yt_8 : Int) =>
  letK (minutes_3l0.set k0 minute) fun (l9_9 : (List Int)) =>
  appK nx0 (l9_9)

def e0  (s : (List Int)) : Option (Go.Proofs.Ythkaeighfjadlaa.PIntA10.IntA10) :=
  letK s fun minutes_3l0 =>
  some (Go.Proofs.Ythkaeighfjadlaa.PIntA10.IntA10.mk (Go.Proofs.Ythkaeighfjadlaa.GoA.nth minutes_3l0 0) (Go.Proofs.Ythkaeighfjadlaa.GoA.nth minutes_3l0 1) (Go.Proofs.Ythkaeighfjadlaa.GoA.nth minutes_3l0 2) (Go.Proofs.Ythkaeighfjadlaa.GoA.nth minutes_3l0 3) (Go.Proofs.Ythkaeighfjadlaa.GoA.nth minutes_3l0 4) (Go.Proofs.Ythkaeighfjadlaa.GoA.nth minutes_3l0 5) (Go.Proofs.Ythkaeighfjadlaa.GoA.nth minutes_3l0 6) (Go.Proofs.Ythkaeighfjadlaa.GoA.nth minutes_3l0 7) (Go.Proofs.Ythkaeighfjadlaa.GoA.nth minutes_3l0 8) (Go.Proofs.Ythkaeighfjadlaa.GoA.nth minutes_3l0 9))

def P (minute : Int) : Option (Go.Proofs.Ythkaeighfjadlaa.PIntA10.IntA10) :=
  letK ([0, 0, 0, 0, 0, 0, 0, 0, 0, 0]) fun (vminutes_1 : (List Int)) =>
  cntK (l0 minute) (10) 0 (vminutes_1) (e0 )

set_option maxRecDepth 100000 in
set_option maxHeartbeats 2000000 in
theorem C (minute : Int)   (w : World)   {r : Go.Proofs.Ythkaeighfjadlaa.PIntA10.IntA10} (H : Hid (P minute = some r)) :
    Calls Try.prog 116 #[.int .i64 minute] w (Gives ((Go.Proofs.Ythkaeighfjadlaa.PIntA10.IntA10.val r)) w) := by
  have HB := Lib.hid (Below.refl w.heap.size w)
  unfold P at H
  go_enter Try.func116, Try.ntmps116
  obtain ⟨w_t_0, hw_t_0⟩ : ∃ x, w.alloc (.cells #[.int .i64 0, .int .i64 0, .int .i64 0, .int .i64 0, .int .i64 0, .int .i64 0, .int .i64 0, .int .i64 0, .int .i64 0, .int .i64 0] 90) = x := ⟨_, rfl⟩
  have bw_t_0 : Below w.heap.size w w_t_0 := by rw [← hw_t_0]; exact (Below.refl _ _).alloc (Nat.le_refl _) _
  have HBw_t_0 := Lib.hid (Below.step HB.out bw_t_0)
  clear bw_t_0
  have kt_0_0 : w_t_0.cell? ⟨w.heap.size, 0, none⟩ = some (.int .i64 0) := by rw [← hw_t_0]; exact box_new _ _ _ 0 _ rfl
  have kt_0_1 : w_t_0.cell? ⟨w.heap.size, 1, none⟩ = some (.int .i64 0) := by rw [← hw_t_0]; exact box_new _ _ _ 1 _ rfl
  have kt_0_2 : w_t_0.cell? ⟨w.heap.size, 2, none⟩ = some (.int .i64 0) := by rw [← hw_t_0]; exact box_new _ _ _ 2 _ rfl
  have kt_0_3 : w_t_0.cell? ⟨w.heap.size, 3, none⟩ = some (.int .i64 0) := by rw [← hw_t_0]; exact box_new _ _ _ 3 _ rfl
  have kt_0_4 : w_t_0.cell? ⟨w.heap.size, 4, none⟩ = some (.int .i64 0) := by rw [← hw_t_0]; exact box_new _ _ _ 4 _ rfl
  have kt_0_5 : w_t_0.cell? ⟨w.heap.size, 5, none⟩ = some (.int .i64 0) := by rw [← hw_t_0]; exact box_new _ _ _ 5 _ rfl
  have kt_0_6 : w_t_0.cell? ⟨w.heap.size, 6, none⟩ = some (.int .i64 0) := by rw [← hw_t_0]; exact box_new _ _ _ 6 _ rfl
  have kt_0_7 : w_t_0.cell? ⟨w.heap.size, 7, none⟩ = some (.int .i64 0) := by rw [← hw_t_0]; exact box_new _ _ _ 7 _ rfl
  have kt_0_8 : w_t_0.cell? ⟨w.heap.size, 8, none⟩ = some (.int .i64 0) := by rw [← hw_t_0]; exact box_new _ _ _ 8 _ rfl
  have kt_0_9 : w_t_0.cell? ⟨w.heap.size, 9, none⟩ = some (.int .i64 0) := by rw [← hw_t_0]; exact box_new _ _ _ 9 _ rfl
  have Ot_0 : Hid (w_t_0.ownsRow w.heap.size 90 10 (.slice (some ⟨w.heap.size, 0, none⟩) 1 1) 1 [.int .i64 0, .int .i64 0, .int .i64 0, .int .i64 0, .int .i64 0, .int .i64 0, .int .i64 0, .int .i64 0, .int .i64 0, .int .i64 0]) := Lib.hid (by rw [← hw_t_0]; exact own_laid (n := 1) HB.out.size rfl rfl (by unfold maxLen; omega))
  replace H := let_hid H
  obtain ⟨vminutes_1, hvminutes_1, H⟩ := H
  obtain ⟨w_minutes_1, hw_minutes_1⟩ : ∃ x, w_t_0.alloc (.cells #[.int .i64 0, .int .i64 0, .int .i64 0, .int .i64 0, .int .i64 0, .int .i64 0, .int .i64 0, .int .i64 0, .int .i64 0, .int .i64 0] 90) = x := ⟨_, rfl⟩
  have bw_minutes_1 : Below w_t_0.heap.size w_t_0 w_minutes_1 := by rw [← hw_minutes_1]; exact (Below.refl _ _).alloc (Nat.le_refl _) _
  have hs_minutes_1 := HBw_t_0.out.size
  have nminutes_1 : vminutes_1.length = 10 := by rw [← hvminutes_1]; rfl
  have Ominutes_1 : Hid (w_minutes_1.ownsRow w.heap.size 90 1 (.slice (some ⟨w_t_0.heap.size, 0, none⟩) 10 10) 10 (Go.Proofs.Ythkaeighfjadlaa.HelpInt.iv vminutes_1)) := by
    rw [← hw_minutes_1, ← hvminutes_1]
    have e_ : ([.int .i64 0, .int .i64 0, .int .i64 0, .int .i64 0, .int .i64 0, .int .i64 0, .int .i64 0, .int .i64 0, .int .i64 0, .int .i64 0] : List Value) = Go.Proofs.Ythkaeighfjadlaa.HelpInt.iv [0, 0, 0, 0, 0, 0, 0, 0, 0, 0] := rfl
    exact Lib.hid (own_laid (n := 10) hs_minutes_1 e_ rfl (by unfold maxLen; omega))
  clear hs_minutes_1
  have hhminutes_1 := Lib.hid hvminutes_1
  clear hvminutes_1
  replace nminutes_1 := Lib.hid nminutes_1
  have Dminutes_1_t_0 := Lib.hid (apart_box kt_0_0)
  have HBw_minutes_1 := Lib.hid (Below.step HBw_t_0.out bw_minutes_1)
  have kt_0_0__129 := cell_below bw_minutes_1 kt_0_0
  have kt_0_1__130 := cell_below bw_minutes_1 kt_0_1
  have kt_0_2__131 := cell_below bw_minutes_1 kt_0_2
  have kt_0_3__132 := cell_below bw_minutes_1 kt_0_3
  have kt_0_4__133 := cell_below bw_minutes_1 kt_0_4
  have kt_0_5__134 := cell_below bw_minutes_1 kt_0_5
  have kt_0_6__135 := cell_below bw_minutes_1 kt_0_6
  have kt_0_7__136 := cell_below bw_minutes_1 kt_0_7
  have kt_0_8__137 := cell_below bw_minutes_1 kt_0_8
  have kt_0_9__138 := cell_below bw_minutes_1 kt_0_9
  replace Ot_0 := Lib.hid (own_below Ot_0.out bw_minutes_1)
  clear bw_minutes_1
  go_wp2_with fail
  clear kt_0_0 kt_0_1 kt_0_2 kt_0_3 kt_0_4 kt_0_5 kt_0_6 kt_0_7 kt_0_8 kt_0_9
  go_wp2_with fail
  go_loopg [5] (10) (fun m_ v5_ wr => ∃ (k0 : Nat) (minutes_3l0 : (List Int)), k0 + m_ = 10 ∧ v5_ = .int .i64 (k0 : Int) ∧ Hid (cntK (l0 minute) m_ k0 (minutes_3l0) (e0 ) = some r) ∧ Hid (Below w.heap.size w wr) ∧ wr.cell? ⟨w.heap.size, 0, none⟩ = some (.int .i64 0) ∧ wr.cell? ⟨w.heap.size, 1, none⟩ = some (.int .i64 0) ∧ wr.cell? ⟨w.heap.size, 2, none⟩ = some (.int .i64 0) ∧ wr.cell? ⟨w.heap.size, 3, none⟩ = some (.int .i64 0) ∧ wr.cell? ⟨w.heap.size, 4, none⟩ = some (.int .i64 0) ∧ wr.cell? ⟨w.heap.size, 5, none⟩ = some (.int .i64 0) ∧ wr.cell? ⟨w.heap.size, 6, none⟩ = some (.int .i64 0) ∧ wr.cell? ⟨w.heap.size, 7, none⟩ = some (.int .i64 0) ∧ wr.cell? ⟨w.heap.size, 8, none⟩ = some (.int .i64 0) ∧ wr.cell? ⟨w.heap.size, 9, none⟩ = some (.int .i64 0) ∧ Hid (wr.ownsRow w.heap.size 90 10 (.slice (some ⟨w.heap.size, 0, none⟩) 1 1) 1 [.int .i64 0, .int .i64 0, .int .i64 0, .int .i64 0, .int .i64 0, .int .i64 0, .int .i64 0, .int .i64 0, .int .i64 0, .int .i64 0]) ∧ Hid (wr.ownsRow w.heap.size 90 1 (.slice (some ⟨w_t_0.heap.size, 0, none⟩) 10 10) 10 (Go.Proofs.Ythkaeighfjadlaa.HelpInt.iv minutes_3l0)) ∧ Hid (minutes_3l0.length = 10) ∧ Hid (Apart (some ⟨w_t_0.heap.size, 0, none⟩) (some ⟨w.heap.size, 0, none⟩)))
  case atStart => exact ⟨0, _, by omega, rfl, H, HBw_minutes_1, kt_0_0__129, kt_0_1__130, kt_0_2__131, kt_0_3__132, kt_0_4__133, kt_0_5__134, kt_0_6__135, kt_0_7__136, kt_0_8__137, kt_0_9__138, Ot_0, Ominutes_1, Lib.hid (nminutes_1.out), Lib.hid Dminutes_1_t_0.out⟩
  case round =>
    obtain ⟨k0, minutes_3l0, hkm0, rfl, H, HBwr0, kt_0_0__129, kt_0_1__130, kt_0_2__131, kt_0_3__132, kt_0_4__133, kt_0_5__134, kt_0_6__135, kt_0_7__136, kt_0_8__137, kt_0_9__138, Ot_0, Ominutes_3l0, hnminutes_3l0, Dminutes_3l0_t_0⟩ := hrel
    rename World => wr0
    cases gk with
    | zero =>
      obtain rfl : k0 = 10 := by omega
      have hc0 : decide (((10 : Nat) : Int) < ((10 : Nat) : Int)) = false := by simp
      replace H := cnt_zero H
      unfold e0 at H
      replace H := let_hid H
      obtain ⟨_, rfl, H⟩ := H
      have ka_139 : wr0.cell? ⟨w_t_0.heap.size, 0, none⟩ = some (.int .i64 (Go.Proofs.Ythkaeighfjadlaa.GoA.nth minutes_3l0 0)) := Go.Proofs.Ythkaeighfjadlaa.GoA.row_at Ominutes_3l0.out hnminutes_3l0.out 0 (by omega)
      have ka_140 : wr0.cell? ⟨w_t_0.heap.size, 1, none⟩ = some (.int .i64 (Go.Proofs.Ythkaeighfjadlaa.GoA.nth minutes_3l0 1)) := Go.Proofs.Ythkaeighfjadlaa.GoA.row_at Ominutes_3l0.out hnminutes_3l0.out 1 (by omega)
      have ka_141 : wr0.cell? ⟨w_t_0.heap.size, 2, none⟩ = some (.int .i64 (Go.Proofs.Ythkaeighfjadlaa.GoA.nth minutes_3l0 2)) := Go.Proofs.Ythkaeighfjadlaa.GoA.row_at Ominutes_3l0.out hnminutes_3l0.out 2 (by omega)
      have ka_142 : wr0.cell? ⟨w_t_0.heap.size, 3, none⟩ = some (.int .i64 (Go.Proofs.Ythkaeighfjadlaa.GoA.nth minutes_3l0 3)) := Go.Proofs.Ythkaeighfjadlaa.GoA.row_at Ominutes_3l0.out hnminutes_3l0.out 3 (by omega)
      have ka_143 : wr0.cell? ⟨w_t_0.heap.size, 4, none⟩ = some (.int .i64 (Go.Proofs.Ythkaeighfjadlaa.GoA.nth minutes_3l0 4)) := Go.Proofs.Ythkaeighfjadlaa.GoA.row_at Ominutes_3l0.out hnminutes_3l0.out 4 (by omega)
      have ka_144 : wr0.cell? ⟨w_t_0.heap.size, 5, none⟩ = some (.int .i64 (Go.Proofs.Ythkaeighfjadlaa.GoA.nth minutes_3l0 5)) := Go.Proofs.Ythkaeighfjadlaa.GoA.row_at Ominutes_3l0.out hnminutes_3l0.out 5 (by omega)
      have ka_145 : wr0.cell? ⟨w_t_0.heap.size, 6, none⟩ = some (.int .i64 (Go.Proofs.Ythkaeighfjadlaa.GoA.nth minutes_3l0 6)) := Go.Proofs.Ythkaeighfjadlaa.GoA.row_at Ominutes_3l0.out hnminutes_3l0.out 6 (by omega)
      have ka_146 : wr0.cell? ⟨w_t_0.heap.size, 7, none⟩ = some (.int .i64 (Go.Proofs.Ythkaeighfjadlaa.GoA.nth minutes_3l0 7)) := Go.Proofs.Ythkaeighfjadlaa.GoA.row_at Ominutes_3l0.out hnminutes_3l0.out 7 (by omega)
      have ka_147 : wr0.cell? ⟨w_t_0.heap.size, 8, none⟩ = some (.int .i64 (Go.Proofs.Ythkaeighfjadlaa.GoA.nth minutes_3l0 8)) := Go.Proofs.Ythkaeighfjadlaa.GoA.row_at Ominutes_3l0.out hnminutes_3l0.out 8 (by omega)
      have ka_148 : wr0.cell? ⟨w_t_0.heap.size, 9, none⟩ = some (.int .i64 (Go.Proofs.Ythkaeighfjadlaa.GoA.nth minutes_3l0 9)) := Go.Proofs.Ythkaeighfjadlaa.GoA.row_at Ominutes_3l0.out hnminutes_3l0.out 9 (by omega)
      obtain ⟨wb13_13, hwb13_13⟩ : ∃ x, ((((((((((wr0).setCell ⟨w.heap.size, 0, none⟩ (.int .i64 (Go.Proofs.Ythkaeighfjadlaa.GoA.nth minutes_3l0 0))).setCell ⟨w.heap.size, 1, none⟩ (.int .i64 (Go.Proofs.Ythkaeighfjadlaa.GoA.nth minutes_3l0 1))).setCell ⟨w.heap.size, 2, none⟩ (.int .i64 (Go.Proofs.Ythkaeighfjadlaa.GoA.nth minutes_3l0 2))).setCell ⟨w.heap.size, 3, none⟩ (.int .i64 (Go.Proofs.Ythkaeighfjadlaa.GoA.nth minutes_3l0 3))).setCell ⟨w.heap.size, 4, none⟩ (.int .i64 (Go.Proofs.Ythkaeighfjadlaa.GoA.nth minutes_3l0 4))).setCell ⟨w.heap.size, 5, none⟩ (.int .i64 (Go.Proofs.Ythkaeighfjadlaa.GoA.nth minutes_3l0 5))).setCell ⟨w.heap.size, 6, none⟩ (.int .i64 (Go.Proofs.Ythkaeighfjadlaa.GoA.nth minutes_3l0 6))).setCell ⟨w.heap.size, 7, none⟩ (.int .i64 (Go.Proofs.Ythkaeighfjadlaa.GoA.nth minutes_3l0 7))).setCell ⟨w.heap.size, 8, none⟩ (.int .i64 (Go.Proofs.Ythkaeighfjadlaa.GoA.nth minutes_3l0 8))).setCell ⟨w.heap.size, 9, none⟩ (.int .i64 (Go.Proofs.Ythkaeighfjadlaa.GoA.nth minutes_3l0 9)) = x := ⟨_, rfl⟩
      have z0b13_13 := Ot_0.out.frozenAt 0
      have z1b13_13 := Ot_0.out.frozenAt 1
      have z2b13_13 := Ot_0.out.frozenAt 2
      have z3b13_13 := Ot_0.out.frozenAt 3
      have z4b13_13 := Ot_0.out.frozenAt 4
      have z5b13_13 := Ot_0.out.frozenAt 5
      have z6b13_13 := Ot_0.out.frozenAt 6
      have z7b13_13 := Ot_0.out.frozenAt 7
      have z8b13_13 := Ot_0.out.frozenAt 8
      have z9b13_13 := Ot_0.out.frozenAt 9
      have Sb13_13 := Lib.hid (own_stores [(0, .int .i64 (Go.Proofs.Ythkaeighfjadlaa.GoA.nth minutes_3l0 0)), (1, .int .i64 (Go.Proofs.Ythkaeighfjadlaa.GoA.nth minutes_3l0 1)), (2, .int .i64 (Go.Proofs.Ythkaeighfjadlaa.GoA.nth minutes_3l0 2)), (3, .int .i64 (Go.Proofs.Ythkaeighfjadlaa.GoA.nth minutes_3l0 3)), (4, .int .i64 (Go.Proofs.Ythkaeighfjadlaa.GoA.nth minutes_3l0 4)), (5, .int .i64 (Go.Proofs.Ythkaeighfjadlaa.GoA.nth minutes_3l0 5)), (6, .int .i64 (Go.Proofs.Ythkaeighfjadlaa.GoA.nth minutes_3l0 6)), (7, .int .i64 (Go.Proofs.Ythkaeighfjadlaa.GoA.nth minutes_3l0 7)), (8, .int .i64 (Go.Proofs.Ythkaeighfjadlaa.GoA.nth minutes_3l0 8)), (9, .int .i64 (Go.Proofs.Ythkaeighfjadlaa.GoA.nth minutes_3l0 9))] Ot_0.out)
      have Pb13_13 : Hid (wb13_13.ownsRow w.heap.size 90 10 (.slice (some ⟨w.heap.size, 0, none⟩) 1 1) 1 [.int .i64 (Go.Proofs.Ythkaeighfjadlaa.GoA.nth minutes_3l0 0), .int .i64 (Go.Proofs.Ythkaeighfjadlaa.GoA.nth minutes_3l0 1), .int .i64 (Go.Proofs.Ythkaeighfjadlaa.GoA.nth minutes_3l0 2), .int .i64 (Go.Proofs.Ythkaeighfjadlaa.GoA.nth minutes_3l0 3), .int .i64 (Go.Proofs.Ythkaeighfjadlaa.GoA.nth minutes_3l0 4), .int .i64 (Go.Proofs.Ythkaeighfjadlaa.GoA.nth minutes_3l0 5), .int .i64 (Go.Proofs.Ythkaeighfjadlaa.GoA.nth minutes_3l0 6), .int .i64 (Go.Proofs.Ythkaeighfjadlaa.GoA.nth minutes_3l0 7), .int .i64 (Go.Proofs.Ythkaeighfjadlaa.GoA.nth minutes_3l0 8), .int .i64 (Go.Proofs.Ythkaeighfjadlaa.GoA.nth minutes_3l0 9)]) := Lib.hid (by rw [← hwb13_13]; exact Sb13_13.out.1)
      have Gb13_13 : Hid (wr0.grownBy wb13_13 (Value.slice (some ⟨w.heap.size, 0, none⟩) 1 1).ownBlock) := Lib.hid (by rw [← hwb13_13]; exact Sb13_13.out.2)
      have HBwb13_13 := Lib.hid (HBwr0.out.grown Gb13_13.out HBwr0.out.size (fun q hq => (Ot_0.out.lt q hq).1))
      clear Sb13_13
      replace Ominutes_3l0 := Lib.hid (own_other Ominutes_3l0.out Gb13_13.out (Apart.symm Dminutes_3l0_t_0.out))
      clear Ot_0 Gb13_13
      have kt_0_0__149 : wb13_13.cell? ⟨w.heap.size, 0, none⟩ = some (.int .i64 (Go.Proofs.Ythkaeighfjadlaa.GoA.nth minutes_3l0 0)) := Pb13_13.out.cells rfl 0 _ rfl
      have kt_0_1__150 : wb13_13.cell? ⟨w.heap.size, 1, none⟩ = some (.int .i64 (Go.Proofs.Ythkaeighfjadlaa.GoA.nth minutes_3l0 1)) := Pb13_13.out.cells rfl 1 _ rfl
      have kt_0_2__151 : wb13_13.cell? ⟨w.heap.size, 2, none⟩ = some (.int .i64 (Go.Proofs.Ythkaeighfjadlaa.GoA.nth minutes_3l0 2)) := Pb13_13.out.cells rfl 2 _ rfl
      have kt_0_3__152 : wb13_13.cell? ⟨w.heap.size, 3, none⟩ = some (.int .i64 (Go.Proofs.Ythkaeighfjadlaa.GoA.nth minutes_3l0 3)) := Pb13_13.out.cells rfl 3 _ rfl
      have kt_0_4__153 : wb13_13.cell? ⟨w.heap.size, 4, none⟩ = some (.int .i64 (Go.Proofs.Ythkaeighfjadlaa.GoA.nth minutes_3l0 4)) := Pb13_13.out.cells rfl 4 _ rfl
      have kt_0_5__154 : wb13_13.cell? ⟨w.heap.size, 5, none⟩ = some (.int .i64 (Go.Proofs.Ythkaeighfjadlaa.GoA.nth minutes_3l0 5)) := Pb13_13.out.cells rfl 5 _ rfl
      have kt_0_6__155 : wb13_13.cell? ⟨w.heap.size, 6, none⟩ = some (.int .i64 (Go.Proofs.Ythkaeighfjadlaa.GoA.nth minutes_3l0 6)) := Pb13_13.out.cells rfl 6 _ rfl
      have kt_0_7__156 : wb13_13.cell? ⟨w.heap.size, 7, none⟩ = some (.int .i64 (Go.Proofs.Ythkaeighfjadlaa.GoA.nth minutes_3l0 7)) := Pb13_13.out.cells rfl 7 _ rfl
      have kt_0_8__157 : wb13_13.cell? ⟨w.heap.size, 8, none⟩ = some (.int .i64 (Go.Proofs.Ythkaeighfjadlaa.GoA.nth minutes_3l0 8)) := Pb13_13.out.cells rfl 8 _ rfl
      have kt_0_9__158 : wb13_13.cell? ⟨w.heap.size, 9, none⟩ = some (.int .i64 (Go.Proofs.Ythkaeighfjadlaa.GoA.nth minutes_3l0 9)) := Pb13_13.out.cells rfl 9 _ rfl
      cases ret_hid H
      go_wp2_with fail
      (try simp only [Exit.inBlock, Exit.then])
      refine bodyPost_ret (v := .agg #[.int .i64 (Go.Proofs.Ythkaeighfjadlaa.GoA.nth minutes_3l0 0), .int .i64 (Go.Proofs.Ythkaeighfjadlaa.GoA.nth minutes_3l0 1), .int .i64 (Go.Proofs.Ythkaeighfjadlaa.GoA.nth minutes_3l0 2), .int .i64 (Go.Proofs.Ythkaeighfjadlaa.GoA.nth minutes_3l0 3), .int .i64 (Go.Proofs.Ythkaeighfjadlaa.GoA.nth minutes_3l0 4), .int .i64 (Go.Proofs.Ythkaeighfjadlaa.GoA.nth minutes_3l0 5), .int .i64 (Go.Proofs.Ythkaeighfjadlaa.GoA.nth minutes_3l0 6), .int .i64 (Go.Proofs.Ythkaeighfjadlaa.GoA.nth minutes_3l0 7), .int .i64 (Go.Proofs.Ythkaeighfjadlaa.GoA.nth minutes_3l0 8), .int .i64 (Go.Proofs.Ythkaeighfjadlaa.GoA.nth minutes_3l0 9)]) ?hr_ ?hd_ ?_
      case hd_ => rfl
      case hr_ => simp [results, Try.results116, kt_0_0__149, kt_0_1__150, kt_0_2__151, kt_0_3__152, kt_0_4__153, kt_0_5__154, kt_0_6__155, kt_0_7__156, kt_0_8__157, kt_0_9__158, go_sem]
      exact ⟨rfl, HBwb13_13.out⟩
    | succ m0 =>
      have hlt0 : k0 < 10 := by omega
      have hc0 : decide ((k0 : Int) < ((10 : Nat) : Int)) = true := by simp; omega
      replace H := cnt_succ H
      have hd0 : decide ((k0 : Int) < 10) = true := by simp; omega
      unfold l0 at H
      replace H := let_hid H
      obtain ⟨_, rfl, H⟩ := H
      replace H := idx_hid H
      obtain ⟨nt_8, yt_8, et_8, lt_8, gt_8, H⟩ := H
      obtain rfl : k0 = nt_8 := by omega
      clear et_8
      have hqt_8 := hnminutes_3l0.out
      obtain ⟨ab_t_8, ao_t_8, zt_8, At_8, z_t_8, ct_8_0⟩ := Go.Proofs.Ythkaeighfjadlaa.HelpInt.Ints.at_ (own_cells Ominutes_3l0.out) (k := k0) (by omega)
      obtain rfl := Option.some.inj (gt_8.out.symm.trans z_t_8)
      simp only [Option.some.injEq, Addr.mk.injEq] at At_8
      obtain ⟨rfl, rfl, _⟩ := At_8
      clear z_t_8
      simp only [Nat.zero_add] at ct_8_0
      have b0t_8 : (0 : Int) ≤ (k0 : Int) := by omega
      have b1t_8 : (k0 : Int) < ((10 : Nat) : Int) := by omega
      have b2t_8 : ((k0 : Int)).toNat = k0 := by omega
      clear hqt_8
      have b3t_8 : k0 < 10 := by have h_ := lt_8; have hn_ := hnminutes_3l0.out; omega
      have b4t_8 : (k0 : Int) < (10 : Int) := by omega
      replace H := let_hid H
      obtain ⟨l9_9, hl9_9, H⟩ := H
      try simp only [Int.toNat_natCast] at hl9_9
      obtain ⟨wl9_9, hwl9_9⟩ : ∃ x, (wr0).setCell ⟨w_t_0.heap.size, k0, none⟩ (.int .i64 minute) = x := ⟨_, rfl⟩
      have z0l9_9 := Ominutes_3l0.out.frozenAt (k0)
      have Sl9_9 := Lib.hid (own_stores [(k0, .int .i64 minute)] Ominutes_3l0.out)
      have nl9_9 : Hid (l9_9.length = 10) := Lib.hid (by rw [← hl9_9, List.length_set]; exact hnminutes_3l0.out)
      have Pl9_9 : Hid (wl9_9.ownsRow w.heap.size 90 1 (.slice (some ⟨w_t_0.heap.size, 0, none⟩) 10 10) 10 (Go.Proofs.Ythkaeighfjadlaa.HelpInt.iv l9_9)) := Lib.hid (by have e_ : ([(k0, .int .i64 minute)] : List (Nat × Value)).foldl (fun xs p => xs.set p.1 p.2) (Go.Proofs.Ythkaeighfjadlaa.HelpInt.iv minutes_3l0) = (Go.Proofs.Ythkaeighfjadlaa.HelpInt.iv l9_9) := (by rw [← hl9_9]; first | done | simp [Go.Proofs.Ythkaeighfjadlaa.HelpInt.iv, List.map_set]); rw [← hwl9_9, ← e_]; exact Sl9_9.out.1)
      have Gl9_9 : Hid (wr0.grownBy wl9_9 (Value.slice (some ⟨w_t_0.heap.size, 0, none⟩) 10 10).ownBlock) := Lib.hid (by rw [← hwl9_9]; exact Sl9_9.out.2)
      have HBwl9_9 := Lib.hid (HBwr0.out.grown Gl9_9.out HBwr0.out.size (fun q hq => (Ominutes_3l0.out.lt q hq).1))
      have hhl9_9 := Lib.hid hl9_9
      clear hl9_9 Sl9_9
      have kt_0_0__159 := cell_other kt_0_0__129 Gl9_9.out Dminutes_3l0_t_0.out
      have kt_0_1__160 := cell_other kt_0_1__130 Gl9_9.out Dminutes_3l0_t_0.out
      have kt_0_2__161 := cell_other kt_0_2__131 Gl9_9.out Dminutes_3l0_t_0.out
      have kt_0_3__162 := cell_other kt_0_3__132 Gl9_9.out Dminutes_3l0_t_0.out
      have kt_0_4__163 := cell_other kt_0_4__133 Gl9_9.out Dminutes_3l0_t_0.out
      have kt_0_5__164 := cell_other kt_0_5__134 Gl9_9.out Dminutes_3l0_t_0.out
      have kt_0_6__165 := cell_other kt_0_6__135 Gl9_9.out Dminutes_3l0_t_0.out
      have kt_0_7__166 := cell_other kt_0_7__136 Gl9_9.out Dminutes_3l0_t_0.out
      have kt_0_8__167 := cell_other kt_0_8__137 Gl9_9.out Dminutes_3l0_t_0.out
      have kt_0_9__168 := cell_other kt_0_9__138 Gl9_9.out Dminutes_3l0_t_0.out
      replace Ot_0 := Lib.hid (own_other Ot_0.out Gl9_9.out Dminutes_3l0_t_0.out)
      clear Ominutes_3l0 Gl9_9
      replace H := app_hid H
      go_wp2_with fail
      clear z0l9_9 kt_0_0__129 kt_0_1__130 kt_0_2__131 kt_0_3__132 kt_0_4__133 kt_0_5__134 kt_0_6__135 kt_0_7__136 kt_0_8__137 kt_0_9__138 ct_8_0
      go_roundg m0
      case measure => omega
      case rel => exact ⟨k0 + 1, _, by omega, by go_num, H, HBwl9_9, kt_0_0__159, kt_0_1__160, kt_0_2__161, kt_0_3__162, kt_0_4__163, kt_0_5__164, kt_0_6__165, kt_0_7__166, kt_0_8__167, kt_0_9__168, Ot_0, Pl9_9, Lib.hid (nl9_9.out), Lib.hid Dminutes_3l0_t_0.out⟩
end Go.Proofs.Ythkaeighfjadlaa.GiFilledWith

