/- Texts on which the proofs of several laws stand, one behind the other (4 of 13). No condition of their own. -/
import Derived.Test.YtlljmgphgmklcaaChecked
import Derived.Test.YtlljmgphgmklcaaW10P1
import Derived.Test.YtlljmgphgmklcaaW10P2
import Derived.WalkKit
import Derived.WalkSpells
import Derived.WalkLawsBesides
import Derived.BigQuiet
import Derived.OwnWalk
import Derived.Deep.LoopGhost
import Derived.Deep.QuietTactic
import Derived.IntWalk
import Derived.Lib.QuietBelow
import Derived.Test.YtlljmgphgmklcaaW10P3
import Derived.Deep.RegionHeld3
import Derived.Lib.SliceRun
/- (*loop.example/g01062/spec.l1Cur).rateDay as a plain function, and the contract of the program's: where the plain one has an answer, the program has it. Conditions: slices read as lists. -/
namespace Go.Proofs.Ytlljmgphgmklcaa.GsL1CurRateDay
set_option linter.unusedVariables false
set_option linter.unusedSimpArgs false
open Go.RowKit
open Go.Proofs.Ytlljmgphgmklcaa.Rowed Go.Proofs.Ytlljmgphgmklcaa.Turn Go.Proofs.Ytlljmgphgmklcaa.Aid Go.Proofs.Ytlljmgphgmklcaa.GoP Go.Proofs.Ytlljmgphgmklcaa.GoM

def P (c : Go.Proofs.Ytlljmgphgmklcaa.GoC.Tape) : Option (Int × Go.Proofs.Ytlljmgphgmklcaa.GoC.Tape) :=
  letK ([0, 1, 4, 5, 6, 9, 10, 11, 14, 15, 20, 25, 4000, 4001, (-1)]) fun (t_2 : (List Int)) =>
  bind2 (Go.Proofs.Ytlljmgphgmklcaa.GsL1CurAmong.P c t_2) fun (t_3 : Int) (t_3_tp : Go.Proofs.Ytlljmgphgmklcaa.GoC.Tape) =>
  some (t_3, t_3_tp)

set_option maxRecDepth 100000 in
set_option maxHeartbeats 2000000 in
theorem C (c : Go.Proofs.Ytlljmgphgmklcaa.GoC.Tape)   (g0 : Nat) (Ac0 : Option Addr) (cc0 : Nat) (bc0 : Nat) (w : World)   (K0 : Hid (Go.Proofs.Ytlljmgphgmklcaa.GoC.CurIs w bc0 g0 Ac0 cc0 c)) {r : Int} {t_ : Go.Proofs.Ytlljmgphgmklcaa.GoC.Tape} (H : Hid (P c = some (r, t_))) :
    Calls Try.prog 123 #[.pointer (some ⟨g0, 0, none⟩)] w (fun e w' => e = .returned (.int .i64 r) ∧ Go.Proofs.Ytlljmgphgmklcaa.GoC.CurIs w' bc0 g0 Ac0 cc0 t_ ∧ w.grownBy w' (Value.slice (some ⟨g0, 0, none⟩) 1 1).ownBlock) := by
  have HB := Lib.hid (Aid.grown_refl w (Value.slice (some ⟨g0, 0, none⟩) 1 1).ownBlock)
  unfold P at H
  have L0 : bc0 ≤ w.heap.size := by have := Go.Proofs.Ytlljmgphgmklcaa.GoC.cur_lt K0.out; omega
  go_enter Try.func123, Try.ntmps123
  replace H := let_hid H
  obtain ⟨t_2, ht_2, H⟩ := H
  obtain ⟨w_t_2, hw_t_2⟩ : ∃ x, w.alloc (.cells #[.int .i64 0, .int .i64 1, .int .i64 4, .int .i64 5, .int .i64 6, .int .i64 9, .int .i64 10, .int .i64 11, .int .i64 14, .int .i64 15, .int .i64 20, .int .i64 25, .int .i64 4000, .int .i64 4001, .int .i64 (-1)] 3) = x := ⟨_, rfl⟩
  have bw_t_2 : Below w.heap.size w w_t_2 := by rw [← hw_t_2]; exact (Below.refl _ _).alloc (Nat.le_refl _) _
  have hs_t_2 := HB.out.size
  have nt_2 : t_2.length = 15 := by rw [← ht_2]; rfl
  have Ot_2 : Hid (w_t_2.ownsRow w.heap.size 3 1 (.slice (some ⟨w.heap.size, 0, none⟩) 15 15) 15 (Go.Proofs.Ytlljmgphgmklcaa.HelpInt.iv t_2)) := by
    rw [← hw_t_2, ← ht_2]
    have e_ : ([.int .i64 0, .int .i64 1, .int .i64 4, .int .i64 5, .int .i64 6, .int .i64 9, .int .i64 10, .int .i64 11, .int .i64 14, .int .i64 15, .int .i64 20, .int .i64 25, .int .i64 4000, .int .i64 4001, .int .i64 (-1)] : List Value) = (Go.Proofs.Ytlljmgphgmklcaa.HelpInt.iv ([0, 1, 4, 5, 6, 9, 10, 11, 14, 15, 20, 25, 4000, 4001, (-1)] : List Int)) := rfl
    exact Lib.hid (own_laid (n := 15) hs_t_2 e_ rfl (by unfold maxLen; omega))
  clear hs_t_2
  have hht_2 := Lib.hid ht_2
  clear ht_2
  replace nt_2 := Lib.hid nt_2
  have Dt_2_c0 := Lib.hid (Go.Proofs.Ytlljmgphgmklcaa.GoC.apart_cur K0.out)
  have HBw_t_2 := Lib.hid (grown_below HB.out bw_t_2)
  replace K0 := Lib.hid (Go.Proofs.Ytlljmgphgmklcaa.GoC.cur_below K0.out bw_t_2)
  clear bw_t_2
  replace H := bind2_hid H
  obtain ⟨t_3, t_3_tp, qt_3, H⟩ := H
  go_wp2_with fail
  have hc_ := nt_2.out
  have hv_ : (Value.slice (some ⟨w.heap.size, 0, none⟩) 15 15 : Value) = Value.slice (some ⟨w.heap.size, 0, none⟩) t_2.length 15 := by rw [hc_]
  try rw [hv_]
  replace Ot_2 := Lib.hid (own_len hc_ Ot_2.out)
  clear hc_ hv_
  go_wp2_with fail
  go_at_call 119
  refine (Go.Proofs.Ytlljmgphgmklcaa.GsL1CurAmong.C (c) (t_2) (some ⟨w.heap.size, 0, none⟩) 15 (g0) (Ac0) (cc0) (bc0) _   (Lib.hid (own_cells Ot_2.out)) (Lib.hid (own_max Ot_2.out)) K0 (Lib.hid (fun _ => Dt_2_c0.out)) qt_3).mono ?_
  rintro e_t_3 wt_3 ⟨rfl, kt_3, gt_3⟩
  have Kt_3 := Lib.hid kt_3
  have Gt_3 : Hid (w_t_2.grownBy wt_3 (Value.slice (some ⟨g0, 0, none⟩) 1 1).ownBlock) := Lib.hid gt_3
  clear kt_3 gt_3
  have HBwt_3 := Lib.hid (Aid.grown_tr HBw_t_2.out Gt_3.out)
  replace Ot_2 := Lib.hid (own_other Ot_2.out Gt_3.out (Apart.symm Dt_2_c0.out))
  clear K0 Gt_3
  cases ret_hid H
  go_wp2_with fail
  go_ret
  exact ⟨rfl, Kt_3.out, HBwt_3.out⟩
end Go.Proofs.Ytlljmgphgmklcaa.GsL1CurRateDay

/- loop.example/g01062/spec.DrawRaiseRate as a plain function, and the contract of the program's: where the plain one has an answer, the program has it. Conditions: slices read as lists. -/
namespace Go.Proofs.Ytlljmgphgmklcaa.GsDrawRaiseRate
set_option linter.unusedVariables false
set_option linter.unusedSimpArgs false
open Go.RowKit
open Go.Proofs.Ytlljmgphgmklcaa.Rowed Go.Proofs.Ytlljmgphgmklcaa.Turn Go.Proofs.Ytlljmgphgmklcaa.Aid Go.Proofs.Ytlljmgphgmklcaa.GoP Go.Proofs.Ytlljmgphgmklcaa.GoM

def P (fuel : Nat) (tapes : List Int → Go.Proofs.Ytlljmgphgmklcaa.GoC.Tape) (code : (List Int)) : Option ((List Go.Proofs.Ytlljmgphgmklcaa.PRate.Rate) × Int × Int × Int × Int) :=
  letK (tapes code) fun (t_7 : Go.Proofs.Ytlljmgphgmklcaa.GoC.Tape) =>
  bind2 (Go.Proofs.Ytlljmgphgmklcaa.GsL1CurRates.P fuel t_7) fun (t_10 : (List Go.Proofs.Ytlljmgphgmklcaa.PRate.Rate)) (t_10_tp : Go.Proofs.Ytlljmgphgmklcaa.GoC.Tape) =>
  letK ([4, 5, 6, 9999, 0, 10000]) fun (t_13 : (List Int)) =>
  bind2 (Go.Proofs.Ytlljmgphgmklcaa.GsL1CurAmong.P t_10_tp t_13) fun (t_14 : Int) (t_14_tp : Go.Proofs.Ytlljmgphgmklcaa.GoC.Tape) =>
  letK (decide (0 < (t_10.length : Int))) fun (t_18 : Bool) =>
  joinK (fun (st_23 : Bool × Go.Proofs.Ytlljmgphgmklcaa.GoC.Tape) => unp2 st_23 fun t_23 t_23_tp =>
  iteK t_23
  (bind2 (Go.Proofs.Ytlljmgphgmklcaa.GsL1CurPick.P t_23_tp (t_10.length : Int)) fun (t_28 : Int) (t_28_tp : Go.Proofs.Ytlljmgphgmklcaa.GoC.Tape) =>
  Option.bind (idx t_10 t_28) fun (yt_29 : Go.Proofs.Ytlljmgphgmklcaa.PRate.Rate) =>
  unRate yt_29 fun (t_29_zone : Int) (t_29_grams : Int) (t_29_from_ : Int) (t_29_until_ : Int) (t_29_cents : Int) =>
  letK ([0, 1, 1, 2, 5]) fun (t_41 : (List Int)) =>
  bind2 (Go.Proofs.Ytlljmgphgmklcaa.GsL1CurAmong.P t_28_tp t_41) fun (t_42 : Int) (t_42_tp : Go.Proofs.Ytlljmgphgmklcaa.GoC.Tape) =>
  letK (IntKind.i64.wrap (t_29_from_ + t_42)) fun (t_43 : Int) =>
  some (t_10, t_29_zone, t_29_grams, t_43, t_14))
  (letK ([20, 50, 1]) fun (t_52 : (List Int)) =>
  bind2 (Go.Proofs.Ytlljmgphgmklcaa.GsL1CurAmong.P t_23_tp t_52) fun (t_53 : Int) (t_53_tp : Go.Proofs.Ytlljmgphgmklcaa.GoC.Tape) =>
  bind2 (Go.Proofs.Ytlljmgphgmklcaa.GsL1CurRateDay.P t_53_tp) fun (t_55 : Int) (t_55_tp : Go.Proofs.Ytlljmgphgmklcaa.GoC.Tape) =>
  some (t_10, 0, t_53, t_55, t_14))) fun jt_23 => iteK t_18 (bind2 (Go.Proofs.Ytlljmgphgmklcaa.GsL1CurOne.P t_14_tp 6) fun (t_21 : Bool) (t_21_tp : Go.Proofs.Ytlljmgphgmklcaa.GoC.Tape) =>
  letK (!t_21) fun (t_22 : Bool) =>
  appK jt_23 (t_22, t_21_tp)) (appK jt_23 (false, t_14_tp))

set_option maxRecDepth 100000 in
set_option maxHeartbeats 2000000 in
theorem C (fuel : Nat) (tapes : List Int → Go.Proofs.Ytlljmgphgmklcaa.GoC.Tape) (code : (List Int)) (A0 : Option Addr) (c0 : Nat)  (w : World) (HE : Hid (Go.Proofs.Ytlljmgphgmklcaa.GoC.Tells tapes)) (M0 : Hid (Cells w 1 A0 code.length (Go.Proofs.Ytlljmgphgmklcaa.GoC.u8s code))) (N0 : Hid (code.length ≤ 9223372036854775807)) (V0 : Hid (∀ z ∈ code, 0 ≤ z ∧ z ≤ 255))  {r0 : (List Go.Proofs.Ytlljmgphgmklcaa.PRate.Rate)} {r1 : Int} {r2 : Int} {r3 : Int} {r4 : Int} (H : Hid (P fuel tapes code = some (r0, r1, r2, r3, r4))) :
    Calls Try.prog 62 #[.slice A0 code.length c0] w (fun e w' => ∃ A_r0 c_r0, e = .returned (.tuple #[.slice A_r0 r0.length c_r0, .int .i64 r1, .int .i64 r2, .int .i64 r3, .int .i64 r4]) ∧ w'.ownsRow w.heap.size 104 5 (.slice A_r0 r0.length c_r0) r0.length (Go.Proofs.Ytlljmgphgmklcaa.PRate.flat r0) ∧ Below w.heap.size w w') := by
  have HB := Lib.hid (Below.refl w.heap.size w)
  unfold P at H
  have N0o := N0.out
  go_enter Try.func62, Try.ntmps62
  replace H := let_hid H
  obtain ⟨t_7, ht_7, H⟩ := H
  obtain ⟨w_t_7, hw_t_7⟩ : ∃ x, w.alloc (.cells #[.slice A0 code.length c0, .int .i64 0, .int .u64 0] 129) = x := ⟨_, rfl⟩
  have bw_t_7 : Below w.heap.size w w_t_7 := by rw [← hw_t_7]; exact (Below.refl _ _).alloc (Nat.le_refl _) _
  have Kt_7 : Hid (Go.Proofs.Ytlljmgphgmklcaa.GoC.CurIs w_t_7 w.heap.size w.heap.size A0 c0 t_7) := Lib.hid (by rw [← hw_t_7, ← ht_7]; exact Go.Proofs.Ytlljmgphgmklcaa.GoC.cur_new HB.out.size (Cells.below M0.out HB.out) (fun a_ ha_ h0_ => by subst ha_; exact Go.Proofs.Ytlljmgphgmklcaa.GoC.cells_lt M0.out (by unfold Go.Proofs.Ytlljmgphgmklcaa.GoC.u8s; rw [List.length_map]; exact h0_)) (HE.out.2.2 code V0.out N0.out))
  have hht_7 := Lib.hid ht_7
  clear ht_7
  have HBw_t_7 := Lib.hid (Below.step HB.out bw_t_7)
  clear bw_t_7
  replace H := bind2_hid H
  obtain ⟨t_10, t_10_tp, qt_10, H⟩ := H
  go_wp2_with fail
  go_at_call 114
  refine (Go.Proofs.Ytlljmgphgmklcaa.GsL1CurRates.C fuel (t_7) (w.heap.size) (A0) (c0) (w.heap.size) _   Kt_7 qt_10).mono ?_
  rintro e_t_10 wt_10 ⟨At_10, ct_10, rfl, ot_10, kt_10, gt_10⟩
  have Dt_10_t_7 := Lib.hid (Go.Proofs.Ytlljmgphgmklcaa.GoC.apart_callcur ot_10 Kt_7.out)
  have Ot_10 := Lib.hid (own_lower ot_10 HBw_t_7.out.size)
  clear ot_10
  have Kt_10 := Lib.hid kt_10
  have Gt_10 : Hid (w_t_7.grownBy wt_10 (Value.slice (some ⟨w.heap.size, 0, none⟩) 1 1).ownBlock) := Lib.hid gt_10
  clear kt_10 gt_10
  have HBwt_10 := Lib.hid (Go.Proofs.Ytlljmgphgmklcaa.GoC.below_cur HBw_t_7.out Gt_10.out HBw_t_7.out.size (Go.Proofs.Ytlljmgphgmklcaa.GoC.cur_lt Kt_7.out).1)
  clear Kt_7 Gt_10
  replace H := let_hid H
  obtain ⟨t_13, ht_13, H⟩ := H
  obtain ⟨w_t_13, hw_t_13⟩ : ∃ x, wt_10.alloc (.cells #[.int .i64 4, .int .i64 5, .int .i64 6, .int .i64 9999, .int .i64 0, .int .i64 10000] 3) = x := ⟨_, rfl⟩
  have bw_t_13 : Below wt_10.heap.size wt_10 w_t_13 := by rw [← hw_t_13]; exact (Below.refl _ _).alloc (Nat.le_refl _) _
  have hs_t_13 := HBwt_10.out.size
  have nt_13 : t_13.length = 6 := by rw [← ht_13]; rfl
  have Ot_13 : Hid (w_t_13.ownsRow w.heap.size 3 1 (.slice (some ⟨wt_10.heap.size, 0, none⟩) 6 6) 6 (Go.Proofs.Ytlljmgphgmklcaa.HelpInt.iv t_13)) := by
    rw [← hw_t_13, ← ht_13]
    have e_ : ([.int .i64 4, .int .i64 5, .int .i64 6, .int .i64 9999, .int .i64 0, .int .i64 10000] : List Value) = (Go.Proofs.Ytlljmgphgmklcaa.HelpInt.iv ([4, 5, 6, 9999, 0, 10000] : List Int)) := rfl
    exact Lib.hid (own_laid (n := 6) hs_t_13 e_ rfl (by unfold maxLen; omega))
  clear hs_t_13
  have hht_13 := Lib.hid ht_13
  clear ht_13
  replace nt_13 := Lib.hid nt_13
  have Dt_13_t_10 := Lib.hid (apart_fresh Ot_10.out)
  have Dt_13_t_7 := Lib.hid (Go.Proofs.Ytlljmgphgmklcaa.GoC.apart_cur Kt_10.out)
  have HBw_t_13 := Lib.hid (Below.step HBwt_10.out bw_t_13)
  replace Ot_10 := Lib.hid (own_below Ot_10.out bw_t_13)
  replace Kt_10 := Lib.hid (Go.Proofs.Ytlljmgphgmklcaa.GoC.cur_below Kt_10.out bw_t_13)
  clear bw_t_13
  replace H := bind2_hid H
  obtain ⟨t_14, t_14_tp, qt_14, H⟩ := H
  go_wp2_with fail
  have hc_ := nt_13.out
  have hv_ : (Value.slice (some ⟨wt_10.heap.size, 0, none⟩) 6 6 : Value) = Value.slice (some ⟨wt_10.heap.size, 0, none⟩) t_13.length 6 := by rw [hc_]
  try rw [hv_]
  replace Ot_13 := Lib.hid (own_len hc_ Ot_13.out)
  clear hc_ hv_
  go_wp2_with fail
  go_at_call 119
  refine (Go.Proofs.Ytlljmgphgmklcaa.GsL1CurAmong.C (t_10_tp) (t_13) (some ⟨wt_10.heap.size, 0, none⟩) 6 (w.heap.size) (A0) (c0) (w.heap.size) _   (Lib.hid (own_cells Ot_13.out)) (Lib.hid (own_max Ot_13.out)) Kt_10 (Lib.hid (fun _ => Dt_13_t_7.out)) qt_14).mono ?_
  rintro e_t_14 wt_14 ⟨rfl, kt_14, gt_14⟩
  have Kt_14 := Lib.hid kt_14
  have Gt_14 : Hid (w_t_13.grownBy wt_14 (Value.slice (some ⟨w.heap.size, 0, none⟩) 1 1).ownBlock) := Lib.hid gt_14
  clear kt_14 gt_14
  have HBwt_14 := Lib.hid (Go.Proofs.Ytlljmgphgmklcaa.GoC.below_cur HBw_t_13.out Gt_14.out HBw_t_13.out.size (Go.Proofs.Ytlljmgphgmklcaa.GoC.cur_lt Kt_10.out).1)
  replace Ot_10 := Lib.hid (own_other Ot_10.out Gt_14.out (Apart.symm Dt_10_t_7.out))
  replace Ot_13 := Lib.hid (own_other Ot_13.out Gt_14.out (Apart.symm Dt_13_t_7.out))
  clear Kt_10 Gt_14
  replace H := let_hid H
  obtain ⟨t_18, ht_18, H⟩ := H
  replace H := join_hid H
  cases t_18 with
  | false =>
    have nht_18 : ¬ (0 < t_10.length) := by have := of_decide_eq_false ht_18; omega
    replace H := ite_f H
    replace H := app_hid H
    replace H := unp2_hid H
    replace H := ite_f H
    replace H := let_hid H
    obtain ⟨t_52, ht_52, H⟩ := H
    obtain ⟨w_t_52, hw_t_52⟩ : ∃ x, wt_14.alloc (.cells #[.int .i64 20, .int .i64 50, .int .i64 1] 3) = x := ⟨_, rfl⟩
    have bw_t_52 : Below wt_14.heap.size wt_14 w_t_52 := by rw [← hw_t_52]; exact (Below.refl _ _).alloc (Nat.le_refl _) _
    have hs_t_52 := HBwt_14.out.size
    have nt_52 : t_52.length = 3 := by rw [← ht_52]; rfl
    have Ot_52 : Hid (w_t_52.ownsRow w.heap.size 3 1 (.slice (some ⟨wt_14.heap.size, 0, none⟩) 3 3) 3 (Go.Proofs.Ytlljmgphgmklcaa.HelpInt.iv t_52)) := by
      rw [← hw_t_52, ← ht_52]
      have e_ : ([.int .i64 20, .int .i64 50, .int .i64 1] : List Value) = (Go.Proofs.Ytlljmgphgmklcaa.HelpInt.iv ([20, 50, 1] : List Int)) := rfl
      exact Lib.hid (own_laid (n := 3) hs_t_52 e_ rfl (by unfold maxLen; omega))
    clear hs_t_52
    have hht_52 := Lib.hid ht_52
    clear ht_52
    replace nt_52 := Lib.hid nt_52
    have Dt_52_t_10 := Lib.hid (apart_fresh Ot_10.out)
    have Dt_52_t_13 := Lib.hid (apart_fresh Ot_13.out)
    have Dt_52_t_7 := Lib.hid (Go.Proofs.Ytlljmgphgmklcaa.GoC.apart_cur Kt_14.out)
    have HBw_t_52 := Lib.hid (Below.step HBwt_14.out bw_t_52)
    replace Ot_10 := Lib.hid (own_below Ot_10.out bw_t_52)
    replace Ot_13 := Lib.hid (own_below Ot_13.out bw_t_52)
    replace Kt_14 := Lib.hid (Go.Proofs.Ytlljmgphgmklcaa.GoC.cur_below Kt_14.out bw_t_52)
    clear bw_t_52
    replace H := bind2_hid H
    obtain ⟨t_53, t_53_tp, qt_53, H⟩ := H
    go_wp2_with fail
    have hc_ := nt_52.out
    have hv_ : (Value.slice (some ⟨wt_14.heap.size, 0, none⟩) 3 3 : Value) = Value.slice (some ⟨wt_14.heap.size, 0, none⟩) t_52.length 3 := by rw [hc_]
    try rw [hv_]
    replace Ot_52 := Lib.hid (own_len hc_ Ot_52.out)
    clear hc_ hv_
    go_wp2_with fail
    go_at_call 119
    refine (Go.Proofs.Ytlljmgphgmklcaa.GsL1CurAmong.C (t_14_tp) (t_52) (some ⟨wt_14.heap.size, 0, none⟩) 3 (w.heap.size) (A0) (c0) (w.heap.size) _   (Lib.hid (own_cells Ot_52.out)) (Lib.hid (own_max Ot_52.out)) Kt_14 (Lib.hid (fun _ => Dt_52_t_7.out)) qt_53).mono ?_
    rintro e_t_53 wt_53 ⟨rfl, kt_53, gt_53⟩
    have Kt_53 := Lib.hid kt_53
    have Gt_53 : Hid (w_t_52.grownBy wt_53 (Value.slice (some ⟨w.heap.size, 0, none⟩) 1 1).ownBlock) := Lib.hid gt_53
    clear kt_53 gt_53
    have HBwt_53 := Lib.hid (Go.Proofs.Ytlljmgphgmklcaa.GoC.below_cur HBw_t_52.out Gt_53.out HBw_t_52.out.size (Go.Proofs.Ytlljmgphgmklcaa.GoC.cur_lt Kt_14.out).1)
    replace Ot_10 := Lib.hid (own_other Ot_10.out Gt_53.out (Apart.symm Dt_10_t_7.out))
    replace Ot_13 := Lib.hid (own_other Ot_13.out Gt_53.out (Apart.symm Dt_13_t_7.out))
    replace Ot_52 := Lib.hid (own_other Ot_52.out Gt_53.out (Apart.symm Dt_52_t_7.out))
    clear Kt_14 Gt_53
    replace H := bind2_hid H
    obtain ⟨t_55, t_55_tp, qt_55, H⟩ := H
    go_wp2_with fail
    go_at_call 123
    refine (Go.Proofs.Ytlljmgphgmklcaa.GsL1CurRateDay.C (t_53_tp) (w.heap.size) (A0) (c0) (w.heap.size) _   Kt_53 qt_55).mono ?_
    rintro e_t_55 wt_55 ⟨rfl, kt_55, gt_55⟩
    have Kt_55 := Lib.hid kt_55
    have Gt_55 : Hid (wt_53.grownBy wt_55 (Value.slice (some ⟨w.heap.size, 0, none⟩) 1 1).ownBlock) := Lib.hid gt_55
    clear kt_55 gt_55
    have HBwt_55 := Lib.hid (Go.Proofs.Ytlljmgphgmklcaa.GoC.below_cur HBwt_53.out Gt_55.out HBwt_53.out.size (Go.Proofs.Ytlljmgphgmklcaa.GoC.cur_lt Kt_53.out).1)
    replace Ot_10 := Lib.hid (own_other Ot_10.out Gt_55.out (Apart.symm Dt_10_t_7.out))
    replace Ot_13 := Lib.hid (own_other Ot_13.out Gt_55.out (Apart.symm Dt_13_t_7.out))
    replace Ot_52 := Lib.hid (own_other Ot_52.out Gt_55.out (Apart.symm Dt_52_t_7.out))
    clear Kt_53 Gt_55
    cases ret_hid H
    go_wp2_with fail
    (try simp only [Exit.inBlock, Exit.then]); refine bodyPost_ret (Go.Proofs.Ytlljmgphgmklcaa.GoR.results_tmp5 rfl _ _ _) rfl ?_
    exact ⟨At_10, ct_10, rfl, Ot_10.out, HBwt_55.out⟩
  | true =>
    have nht_18 : 0 < t_10.length := by have := of_decide_eq_true ht_18; omega
    replace H := ite_t H
    replace H := bind2_hid H
    obtain ⟨t_21, t_21_tp, qt_21, H⟩ := H
    go_wp2_with fail
    go_at_call 122
    refine (Go.Proofs.Ytlljmgphgmklcaa.GsL1CurOne.C (t_14_tp) (6) (w.heap.size) (A0) (c0) (w.heap.size) _   Kt_14 qt_21).mono ?_
    rintro e_t_21 wt_21 ⟨rfl, kt_21, gt_21⟩
    have Kt_21 := Lib.hid kt_21
    have Gt_21 : Hid (wt_14.grownBy wt_21 (Value.slice (some ⟨w.heap.size, 0, none⟩) 1 1).ownBlock) := Lib.hid gt_21
    clear kt_21 gt_21
    have HBwt_21 := Lib.hid (Go.Proofs.Ytlljmgphgmklcaa.GoC.below_cur HBwt_14.out Gt_21.out HBwt_14.out.size (Go.Proofs.Ytlljmgphgmklcaa.GoC.cur_lt Kt_14.out).1)
    replace Ot_10 := Lib.hid (own_other Ot_10.out Gt_21.out (Apart.symm Dt_10_t_7.out))
    replace Ot_13 := Lib.hid (own_other Ot_13.out Gt_21.out (Apart.symm Dt_13_t_7.out))
    clear Kt_14 Gt_21
    cases t_21 with
    | false =>
      replace H := let_hid H
      obtain ⟨t_22, ht_22, H⟩ := H
      obtain rfl : t_22 = true := ht_22.symm
      replace H := app_hid H
      replace H := unp2_hid H
      replace H := ite_t H
      replace H := bind2_hid H
      obtain ⟨t_28, t_28_tp, qt_28, H⟩ := H
      go_wp2_with fail
      go_at_call 120
      refine (Go.Proofs.Ytlljmgphgmklcaa.GsL1CurPick.C (t_21_tp) ((t_10.length : Int)) (w.heap.size) (A0) (c0) (w.heap.size) _   Kt_21 qt_28).mono ?_
      rintro e_t_28 wt_28 ⟨rfl, kt_28, gt_28⟩
      have Kt_28 := Lib.hid kt_28
      have Gt_28 : Hid (wt_21.grownBy wt_28 (Value.slice (some ⟨w.heap.size, 0, none⟩) 1 1).ownBlock) := Lib.hid gt_28
      clear kt_28 gt_28
      have HBwt_28 := Lib.hid (Go.Proofs.Ytlljmgphgmklcaa.GoC.below_cur HBwt_21.out Gt_28.out HBwt_21.out.size (Go.Proofs.Ytlljmgphgmklcaa.GoC.cur_lt Kt_21.out).1)
      replace Ot_10 := Lib.hid (own_other Ot_10.out Gt_28.out (Apart.symm Dt_10_t_7.out))
      replace Ot_13 := Lib.hid (own_other Ot_13.out Gt_28.out (Apart.symm Dt_13_t_7.out))
      clear Kt_21 Gt_28
      replace H := idx_hid H
      obtain ⟨nt_29, yt_29, et_29, lt_29, gt_29, H⟩ := H
      subst et_29
      obtain ⟨t_29_zone, t_29_grams, t_29_from_, t_29_until_, t_29_cents⟩ := yt_29
      replace H := unRate_hid H
      obtain ⟨qt_29, Qt_29⟩ := own_some Ot_10.out (by omega)
      subst Qt_29
      obtain ⟨ab_t_29, ao_t_29, zt_29, At_29, z_t_29, ct_29_0, ct_29_1, ct_29_2, ct_29_3, ct_29_4⟩ := Go.Proofs.Ytlljmgphgmklcaa.ORate.at_ (own_cells Ot_10.out) (k := nt_29) (by omega)
      obtain rfl := Option.some.inj (gt_29.out.symm.trans z_t_29)
      simp only [Option.some.injEq, Addr.mk.injEq] at At_29
      obtain ⟨rfl, rfl, _⟩ := At_29
      clear z_t_29
      simp only [Nat.zero_add] at ct_29_0 ct_29_1 ct_29_2 ct_29_3 ct_29_4
      have b0t_29 : (0 : Int) ≤ (nt_29 : Int) := by omega
      have b1t_29 : (nt_29 : Int) < ((t_10.length : Nat) : Int) := by omega
      have b2t_29 : ((nt_29 : Int)).toNat = nt_29 := by omega
      obtain ⟨w_r_31, hw_r_31⟩ : ∃ x, wt_28.alloc (.cells #[.int .i64 t_29_zone, .int .i64 t_29_grams, .int .i64 t_29_from_, .int .i64 t_29_until_, .int .i64 t_29_cents] 104) = x := ⟨_, rfl⟩
      have bw_r_31 : Below wt_28.heap.size wt_28 w_r_31 := by rw [← hw_r_31]; exact (Below.refl _ _).alloc (Nat.le_refl _) _
      have Dr_31_t_10 := Lib.hid (apart_fresh Ot_10.out)
      have Dr_31_t_13 := Lib.hid (apart_fresh Ot_13.out)
      have Dr_31_t_7 := Lib.hid (Go.Proofs.Ytlljmgphgmklcaa.GoC.apart_cur Kt_28.out)
      have HBw_r_31 := Lib.hid (Below.step HBwt_28.out bw_r_31)
      have ct_29_0__105 := cell_below bw_r_31 ct_29_0
      have ct_29_1__106 := cell_below bw_r_31 ct_29_1
      have ct_29_2__107 := cell_below bw_r_31 ct_29_2
      have ct_29_3__108 := cell_below bw_r_31 ct_29_3
      have ct_29_4__109 := cell_below bw_r_31 ct_29_4
      replace Ot_10 := Lib.hid (own_below Ot_10.out bw_r_31)
      replace Ot_13 := Lib.hid (own_below Ot_13.out bw_r_31)
      replace Kt_28 := Lib.hid (Go.Proofs.Ytlljmgphgmklcaa.GoC.cur_below Kt_28.out bw_r_31)
      clear bw_r_31
      have kr_31_0 : w_r_31.cell? ⟨wt_28.heap.size, 0, none⟩ = some (.int .i64 t_29_zone) := by rw [← hw_r_31]; exact box_new _ _ _ 0 _ rfl
      have kr_31_1 : w_r_31.cell? ⟨wt_28.heap.size, 1, none⟩ = some (.int .i64 t_29_grams) := by rw [← hw_r_31]; exact box_new _ _ _ 1 _ rfl
      have kr_31_2 : w_r_31.cell? ⟨wt_28.heap.size, 2, none⟩ = some (.int .i64 t_29_from_) := by rw [← hw_r_31]; exact box_new _ _ _ 2 _ rfl
      have kr_31_3 : w_r_31.cell? ⟨wt_28.heap.size, 3, none⟩ = some (.int .i64 t_29_until_) := by rw [← hw_r_31]; exact box_new _ _ _ 3 _ rfl
      have kr_31_4 : w_r_31.cell? ⟨wt_28.heap.size, 4, none⟩ = some (.int .i64 t_29_cents) := by rw [← hw_r_31]; exact box_new _ _ _ 4 _ rfl
      go_wp2_with fail
      clear ct_29_0 ct_29_1 ct_29_2 ct_29_3 ct_29_4
      have bd6 : Below w_r_31.heap.size w_r_31 w_r_31.drew := (Below.refl _ _).drew
      have HBw_r_31.drew := Lib.hid (Below.step HBw_r_31.out bd6)
      replace ct_29_0__105 := cell_below bd6 ct_29_0__105
      replace ct_29_1__106 := cell_below bd6 ct_29_1__106
      replace ct_29_2__107 := cell_below bd6 ct_29_2__107
      replace ct_29_3__108 := cell_below bd6 ct_29_3__108
      replace ct_29_4__109 := cell_below bd6 ct_29_4__109
      replace kr_31_0 := cell_below bd6 kr_31_0
      replace kr_31_1 := cell_below bd6 kr_31_1
      replace kr_31_2 := cell_below bd6 kr_31_2
      replace kr_31_3 := cell_below bd6 kr_31_3
      replace kr_31_4 := cell_below bd6 kr_31_4
      replace Ot_10 := Lib.hid (own_below Ot_10.out bd6)
      replace Ot_13 := Lib.hid (own_below Ot_13.out bd6)
      replace Kt_28 := Lib.hid (Go.Proofs.Ytlljmgphgmklcaa.GoC.cur_below Kt_28.out bd6)
      clear bd6
      replace H := let_hid H
      obtain ⟨t_41, ht_41, H⟩ := H
      obtain ⟨w_t_41, hw_t_41⟩ : ∃ x, w_r_31.drew.alloc (.cells #[.int .i64 0, .int .i64 1, .int .i64 1, .int .i64 2, .int .i64 5] 3) = x := ⟨_, rfl⟩
      have bw_t_41 : Below w_r_31.drew.heap.size w_r_31.drew w_t_41 := by rw [← hw_t_41]; exact (Below.refl _ _).alloc (Nat.le_refl _) _
      have hs_t_41 := HBw_r_31.drew.out.size
      have nt_41 : t_41.length = 5 := by rw [← ht_41]; rfl
      have Ot_41 : Hid (w_t_41.ownsRow w.heap.size 3 1 (.slice (some ⟨w_r_31.heap.size, 0, none⟩) 5 5) 5 (Go.Proofs.Ytlljmgphgmklcaa.HelpInt.iv t_41)) := by
        rw [← hw_t_41, ← ht_41]
        have e_ : ([.int .i64 0, .int .i64 1, .int .i64 1, .int .i64 2, .int .i64 5] : List Value) = (Go.Proofs.Ytlljmgphgmklcaa.HelpInt.iv ([0, 1, 1, 2, 5] : List Int)) := rfl
        exact Lib.hid (own_laid (n := 5) hs_t_41 e_ rfl (by unfold maxLen; omega))
      clear hs_t_41
      have hht_41 := Lib.hid ht_41
      clear ht_41
      replace nt_41 := Lib.hid nt_41
      have Dt_41_t_10 := Lib.hid (apart_fresh Ot_10.out)
      have Dt_41_t_13 := Lib.hid (apart_fresh Ot_13.out)
      have Dt_41_t_7 := Lib.hid (Go.Proofs.Ytlljmgphgmklcaa.GoC.apart_cur Kt_28.out)
      have Dt_41_r_31 := Lib.hid (apart_box kr_31_0)
      have HBw_t_41 := Lib.hid (Below.step HBw_r_31.drew.out bw_t_41)
      have ct_29_0__110 := cell_below bw_t_41 ct_29_0__105
      have ct_29_1__111 := cell_below bw_t_41 ct_29_1__106
      have ct_29_2__112 := cell_below bw_t_41 ct_29_2__107
      have ct_29_3__113 := cell_below bw_t_41 ct_29_3__108
      have ct_29_4__114 := cell_below bw_t_41 ct_29_4__109
      have kr_31_0__115 := cell_below bw_t_41 kr_31_0
      have kr_31_1__116 := cell_below bw_t_41 kr_31_1
      have kr_31_2__117 := cell_below bw_t_41 kr_31_2
      have kr_31_3__118 := cell_below bw_t_41 kr_31_3
      have kr_31_4__119 := cell_below bw_t_41 kr_31_4
      replace Ot_10 := Lib.hid (own_below Ot_10.out bw_t_41)
      replace Ot_13 := Lib.hid (own_below Ot_13.out bw_t_41)
      replace Kt_28 := Lib.hid (Go.Proofs.Ytlljmgphgmklcaa.GoC.cur_below Kt_28.out bw_t_41)
      clear bw_t_41
      replace H := bind2_hid H
      obtain ⟨t_42, t_42_tp, qt_42, H⟩ := H
      replace H := let_hid H
      obtain ⟨t_43, ht_43, H⟩ := H
      go_region_held3 (fun w' => w'.cell? ⟨qt_29, nt_29 * 5, none⟩ = some (.int .i64 t_29_zone) ∧ w'.cell? ⟨qt_29, nt_29 * 5 + 1, none⟩ = some (.int .i64 t_29_grams) ∧ w'.cell? ⟨qt_29, nt_29 * 5 + 2, none⟩ = some (.int .i64 t_29_from_) ∧ w'.cell? ⟨qt_29, nt_29 * 5 + 3, none⟩ = some (.int .i64 t_29_until_) ∧ w'.cell? ⟨qt_29, nt_29 * 5 + 4, none⟩ = some (.int .i64 t_29_cents) ∧ w'.cell? ⟨wt_28.heap.size, 0, none⟩ = some (.int .i64 t_29_zone) ∧ w'.cell? ⟨wt_28.heap.size, 1, none⟩ = some (.int .i64 t_29_grams) ∧ w'.cell? ⟨wt_28.heap.size, 2, none⟩ = some (.int .i64 t_29_from_) ∧ w'.cell? ⟨wt_28.heap.size, 3, none⟩ = some (.int .i64 t_29_until_) ∧ w'.cell? ⟨wt_28.heap.size, 4, none⟩ = some (.int .i64 t_29_cents)) (first | exact ⟨ct_29_0__105, ct_29_1__106, ct_29_2__107, ct_29_3__108, ct_29_4__109, kr_31_0, kr_31_1, kr_31_2, kr_31_3, kr_31_4⟩ | exact ⟨ct_29_0__110, ct_29_1__111, ct_29_2__112, ct_29_3__113, ct_29_4__114, kr_31_0__115, kr_31_1__116, kr_31_2__117, kr_31_3__118, kr_31_4__119⟩)
          (first
            | (have hc0_ := nt_41.out
               have Oct_42_1 := Lib.hid (own_len hc0_ Ot_41.out)
               have con_ := Go.Proofs.Ytlljmgphgmklcaa.GsL1CurAmong.C (t_28_tp) (t_41) (some ⟨w_r_31.heap.size, 0, none⟩) 5 (w.heap.size) (A0) (c0) (w.heap.size) _   (Lib.hid (own_cells Oct_42_1.out)) (Lib.hid (own_max Oct_42_1.out)) Kt_28 (Lib.hid (fun _ => Dt_41_t_7.out)) qt_42
               rw [hc0_] at con_
               clear hc0_ Oct_42_1
               go_at_call 119
               refine con_.mono ?_
               rintro e_t_42 wt_42 ⟨rfl, kt_42, gt_42⟩
               have Kt_42 := Lib.hid kt_42
               have Gt_42 : Hid (w_t_41.grownBy wt_42 (Value.slice (some ⟨w.heap.size, 0, none⟩) 1 1).ownBlock) := Lib.hid gt_42
               clear kt_42 gt_42
               have HBwt_42 := Lib.hid (Go.Proofs.Ytlljmgphgmklcaa.GoC.below_cur HBw_t_41.out Gt_42.out HBw_t_41.out.size (Go.Proofs.Ytlljmgphgmklcaa.GoC.cur_lt Kt_28.out).1)
               replace ct_29_0__110 := cell_other ct_29_0__110 Gt_42.out (Apart.symm Dt_10_t_7.out)
               replace ct_29_1__111 := cell_other ct_29_1__111 Gt_42.out (Apart.symm Dt_10_t_7.out)
               replace ct_29_2__112 := cell_other ct_29_2__112 Gt_42.out (Apart.symm Dt_10_t_7.out)
               replace ct_29_3__113 := cell_other ct_29_3__113 Gt_42.out (Apart.symm Dt_10_t_7.out)
               replace ct_29_4__114 := cell_other ct_29_4__114 Gt_42.out (Apart.symm Dt_10_t_7.out)
               replace kr_31_0__115 := cell_other kr_31_0__115 Gt_42.out (Apart.symm Dr_31_t_7.out)
               replace kr_31_1__116 := cell_other kr_31_1__116 Gt_42.out (Apart.symm Dr_31_t_7.out)
               replace kr_31_2__117 := cell_other kr_31_2__117 Gt_42.out (Apart.symm Dr_31_t_7.out)
               replace kr_31_3__118 := cell_other kr_31_3__118 Gt_42.out (Apart.symm Dr_31_t_7.out)
               replace kr_31_4__119 := cell_other kr_31_4__119 Gt_42.out (Apart.symm Dr_31_t_7.out)
               replace Ot_10 := Lib.hid (own_other Ot_10.out Gt_42.out (Apart.symm Dt_10_t_7.out))
               replace Ot_13 := Lib.hid (own_other Ot_13.out Gt_42.out (Apart.symm Dt_13_t_7.out))
               replace Ot_41 := Lib.hid (own_other Ot_41.out Gt_42.out (Apart.symm Dt_41_t_7.out))
               clear ct_29_0__105 ct_29_1__106 ct_29_2__107 ct_29_3__108 ct_29_4__109 kr_31_0 kr_31_1 kr_31_2 kr_31_3 kr_31_4
               clear Kt_28 Gt_42
               clear qt_42))
      cases ret_hid H
      go_wp2_with fail
      (try simp only [Exit.inBlock, Exit.then]); refine bodyPost_ret (Go.Proofs.Ytlljmgphgmklcaa.GoR.results_tmp5 rfl _ _ _) rfl ?_
      exact ⟨(some ⟨qt_29, 0, none⟩), ct_10, rfl, Ot_10.out, HBwt_42.out⟩
    | true =>
      replace H := let_hid H
      obtain ⟨t_22, ht_22, H⟩ := H
      obtain rfl : t_22 = false := ht_22.symm
      replace H := app_hid H
      replace H := unp2_hid H
      replace H := ite_f H
      replace H := let_hid H
      obtain ⟨t_52, ht_52, H⟩ := H
      obtain ⟨w_t_52, hw_t_52⟩ : ∃ x, wt_21.alloc (.cells #[.int .i64 20, .int .i64 50, .int .i64 1] 3) = x := ⟨_, rfl⟩
      have bw_t_52 : Below wt_21.heap.size wt_21 w_t_52 := by rw [← hw_t_52]; exact (Below.refl _ _).alloc (Nat.le_refl _) _
      have hs_t_52 := HBwt_21.out.size
      have nt_52 : t_52.length = 3 := by rw [← ht_52]; rfl
      have Ot_52 : Hid (w_t_52.ownsRow w.heap.size 3 1 (.slice (some ⟨wt_21.heap.size, 0, none⟩) 3 3) 3 (Go.Proofs.Ytlljmgphgmklcaa.HelpInt.iv t_52)) := by
        rw [← hw_t_52, ← ht_52]
        have e_ : ([.int .i64 20, .int .i64 50, .int .i64 1] : List Value) = (Go.Proofs.Ytlljmgphgmklcaa.HelpInt.iv ([20, 50, 1] : List Int)) := rfl
        exact Lib.hid (own_laid (n := 3) hs_t_52 e_ rfl (by unfold maxLen; omega))
      clear hs_t_52
      have hht_52 := Lib.hid ht_52
      clear ht_52
      replace nt_52 := Lib.hid nt_52
      have Dt_52_t_10 := Lib.hid (apart_fresh Ot_10.out)
      have Dt_52_t_13 := Lib.hid (apart_fresh Ot_13.out)
      have Dt_52_t_7 := Lib.hid (Go.Proofs.Ytlljmgphgmklcaa.GoC.apart_cur Kt_21.out)
      have HBw_t_52 := Lib.hid (Below.step HBwt_21.out bw_t_52)
      replace Ot_10 := Lib.hid (own_below Ot_10.out bw_t_52)
      replace Ot_13 := Lib.hid (own_below Ot_13.out bw_t_52)
      replace Kt_21 := Lib.hid (Go.Proofs.Ytlljmgphgmklcaa.GoC.cur_below Kt_21.out bw_t_52)
      clear bw_t_52
      replace H := bind2_hid H
      obtain ⟨t_53, t_53_tp, qt_53, H⟩ := H
      go_wp2_with fail
      have hc_ := nt_52.out
      have hv_ : (Value.slice (some ⟨wt_21.heap.size, 0, none⟩) 3 3 : Value) = Value.slice (some ⟨wt_21.heap.size, 0, none⟩) t_52.length 3 := by rw [hc_]
      try rw [hv_]
      replace Ot_52 := Lib.hid (own_len hc_ Ot_52.out)
      clear hc_ hv_
      go_wp2_with fail
      go_at_call 119
      refine (Go.Proofs.Ytlljmgphgmklcaa.GsL1CurAmong.C (t_21_tp) (t_52) (some ⟨wt_21.heap.size, 0, none⟩) 3 (w.heap.size) (A0) (c0) (w.heap.size) _   (Lib.hid (own_cells Ot_52.out)) (Lib.hid (own_max Ot_52.out)) Kt_21 (Lib.hid (fun _ => Dt_52_t_7.out)) qt_53).mono ?_
      rintro e_t_53 wt_53 ⟨rfl, kt_53, gt_53⟩
      have Kt_53 := Lib.hid kt_53
      have Gt_53 : Hid (w_t_52.grownBy wt_53 (Value.slice (some ⟨w.heap.size, 0, none⟩) 1 1).ownBlock) := Lib.hid gt_53
      clear kt_53 gt_53
      have HBwt_53 := Lib.hid (Go.Proofs.Ytlljmgphgmklcaa.GoC.below_cur HBw_t_52.out Gt_53.out HBw_t_52.out.size (Go.Proofs.Ytlljmgphgmklcaa.GoC.cur_lt Kt_21.out).1)
      replace Ot_10 := Lib.hid (own_other Ot_10.out Gt_53.out (Apart.symm Dt_10_t_7.out))
      replace Ot_13 := Lib.hid (own_other Ot_13.out Gt_53.out (Apart.symm Dt_13_t_7.out))
      replace Ot_52 := Lib.hid (own_other Ot_52.out Gt_53.out (Apart.symm Dt_52_t_7.out))
      clear Kt_21 Gt_53
      replace H := bind2_hid H
      obtain ⟨t_55, t_55_tp, qt_55, H⟩ := H
      go_wp2_with fail
      go_at_call 123
      refine (Go.Proofs.Ytlljmgphgmklcaa.GsL1CurRateDay.C (t_53_tp) (w.heap.size) (A0) (c0) (w.heap.size) _   Kt_53 qt_55).mono ?_
      rintro e_t_55 wt_55 ⟨rfl, kt_55, gt_55⟩
      have Kt_55 := Lib.hid kt_55
      have Gt_55 : Hid (wt_53.grownBy wt_55 (Value.slice (some ⟨w.heap.size, 0, none⟩) 1 1).ownBlock) := Lib.hid gt_55
      clear kt_55 gt_55
      have HBwt_55 := Lib.hid (Go.Proofs.Ytlljmgphgmklcaa.GoC.below_cur HBwt_53.out Gt_55.out HBwt_53.out.size (Go.Proofs.Ytlljmgphgmklcaa.GoC.cur_lt Kt_53.out).1)
      replace Ot_10 := Lib.hid (own_other Ot_10.out Gt_55.out (Apart.symm Dt_10_t_7.out))
      replace Ot_13 := Lib.hid (own_other Ot_13.out Gt_55.out (Apart.symm Dt_13_t_7.out))
      replace Ot_52 := Lib.hid (own_other Ot_52.out Gt_55.out (Apart.symm Dt_52_t_7.out))
      clear Kt_53 Gt_55
      cases ret_hid H
      go_wp2_with fail
      (try simp only [Exit.inBlock, Exit.then]); refine bodyPost_ret (Go.Proofs.Ytlljmgphgmklcaa.GoR.results_tmp5 rfl _ _ _) rfl ?_
      exact ⟨At_10, ct_10, rfl, Ot_10.out, HBwt_55.out⟩
end Go.Proofs.Ytlljmgphgmklcaa.GsDrawRaiseRate

/- More words for the contracts of plain functions: a test against nil, a row that is handed over, a row whose end is cleared. No condition. -/
namespace Go.Proofs.Ytlljmgphgmklcaa.GoK
set_option linter.unusedVariables false
open Go.RowKit
open Go.Proofs.Ytlljmgphgmklcaa.Rowed Go.Proofs.Ytlljmgphgmklcaa.Turn Go.Proofs.Ytlljmgphgmklcaa.GoM

/-- a test of a row against nil: only an empty row can be nil, and then both ways have one answer -/
def nilK {α ρ : Type} (l : List α) (f : Bool → Option ρ) : Option ρ := f false
theorem nilK_hid {α ρ : Type} {l : List α} {f : Bool → Option ρ} {r : ρ} (H : Hid (nilK l f = some r)) (b : Bool) (hb : b = true → l = []) (he : l = [] → f true = f false) : Hid (f b = some r) := by
  have h : f false = some r := H
  cases b with
  | false => exact h
  | true => exact (he (hb rfl)).trans h
theorem nil_cells {w : World} {K n : Nat} {A : Option Addr} {α : Type} {l : List α} {cs : List Value} (h : Cells w K A n cs) (hl : cs = [] → l = []) : A.isNone = true → l = [] := by
  intro hA
  refine hl ?_
  cases hc : cs with
  | nil => rfl
  | cons y ys => obtain ⟨a, e, _⟩ := h.2 (by rw [hc]; simp); rw [e] at hA; simp at hA
/-- where a row lies that a function hands on: where another one lay, or behind all that was there -/
def From (w : World) (A A' : Option Addr) : Prop := ∀ a', A' = some a' → (∃ a, A = some a ∧ a.block = a'.block) ∨ w.heap.size ≤ a'.block
theorem from_self {w : World} {A : Option Addr} : From w A A := fun a h => .inl ⟨a, h, rfl⟩
theorem from_new {w : World} {A : Option Addr} {g : Nat} (h : w.heap.size ≤ g) : From w A (some ⟨g, 0, none⟩) := by
  intro a' e
  injection e with e
  subst e
  exact .inr h
theorem apart_from {w : World} {A A' B : Option Addr} (hD : Apart A B) (hB : ∀ a, B = some a → a.block < w.heap.size) (h : From w A A') : Apart A' B := by
  intro a a' ha ha' e
  have hl := hB a' ha'
  rcases h a ha with ⟨a2, h2, e2⟩ | h2
  · exact hD a2 a' h2 ha' (e2.trans e)
  · omega
theorem own_emptyB {b : Nat} {wc : World} {T K : Nat} (h : b ≤ wc.heap.size) : (wc.alloc (.cells #[] T)).ownsRow b T K (.slice (some ⟨wc.heap.size, 0, none⟩) 0 0) 0 [] :=
  ⟨by simp, .inr ⟨wc.heap.size, 0, #[], rfl, h, heap_alloc_new wc _, Nat.le_refl _, by unfold maxLen; omega, by simp, by simp⟩⟩
theorem own_setCells {b T K n c g : Nat} : ∀ (vs : List Value) (o : Nat) {w : World} {xs : List Value}, w.ownsRow b T K (.slice (some ⟨g, 0, none⟩) n c) n xs → o + vs.length ≤ xs.length →
    (w.setCells g o vs).ownsRow b T K (.slice (some ⟨g, 0, none⟩) n c) n (xs.take o ++ vs ++ xs.drop (o + vs.length)) ∧ w.grownBy (w.setCells g o vs) (some g) := by
  intro vs
  induction vs with
  | nil => intro o w xs h _; exact ⟨by simpa [World.setCells] using h, Aid.grown_refl _ _⟩
  | cons v vs ih =>
    intro o w xs h hl
    simp only [List.length_cons] at hl
    have h1 := h.stored o v
    have h2 := ih (o + 1) h1.1 (by rw [List.length_set]; omega)
    refine ⟨?_, Aid.grown_tr h1.2 h2.2⟩
    have e : (xs.set o v).take (o + 1) ++ vs ++ (xs.set o v).drop (o + 1 + vs.length) = xs.take o ++ (v :: vs) ++ xs.drop (o + (v :: vs).length) := by
      have ho : o < xs.length := by omega
      rw [List.drop_set_of_lt (by omega), List.take_add_one, List.getElem?_set_self ho, List.take_set_of_le (Nat.le_refl _)]
      simp [Nat.add_comm, Nat.add_left_comm]
    rw [← e]
    exact h2.1
/-- clear(s[lo:]) of a row of its own -/
theorem own_clear {P : Program} {t e : TypeId} {i : TypeInfo} {k : IntKind} {n c b : Nat} {A : Option Addr} {lo : Int} {w : World} {xs ys : List Value} {z : Value}
    (ht : P.underlying t = some (.slice (P.elem t))) (he : P.elem t = e) (hi : P.info? e = some i) (hs : i.size = 1) (hv : i.zero = some z) (hz : z.cells = #[z]) (h1 : z.oneCell' = true)
    (h : w.ownsRow b e 1 (.slice A n c) n xs) (hl : 0 ≤ lo ∧ lo ≤ (n : Int)) (hd : xs.take lo.toNat ++ List.replicate (n - lo.toNat) z = ys) :
    ∃ A' m c' w', (∀ W, (Instr.slice t (.slice A n c) (some (.int k lo)) none none).run P W = .ok (.slice A' m c') W) ∧ (∀ ty, (Builtin.clear_ #[t] ty #[.slice A' m c']).run P w = .ok (.tuple #[]) w') ∧
      w'.ownsRow b e 1 (.slice A n c) n ys ∧ w.grownBy w' (Value.slice A n c).ownBlock := by
  have hR := own_room h
  have hxs : xs.length = n := by have := h.1; omega
  have hsz : ∀ W, (sizeOf (P.elem t)).run P W = .ok 1 W := by intro W; subst he; simp [sizeOf, typeInfo, hi, hs]
  have hrun : ∀ W, (Instr.slice t (.slice A n c) (some (.int k lo)) none none).run P W = .ok (.slice (if c = lo.toNat then A else A.map (·.add (lo.toNat * 1))) (n - lo.toNat) (c - lo.toNat)) W := by
    intro W
    rw [run_slice_l (P := P) W t A n c ht k lo hl.1 hl.2, hsz W]
    rfl
  by_cases hm : n - lo.toNat = 0
  · refine ⟨_, _, _, w, hrun, ?_, ?_, Aid.grown_refl _ _⟩
    · intro ty
      rw [hm]
      generalize (if c = lo.toNat then A else A.map (·.add (lo.toNat * 1))) = A'
      cases A' <;> simp [Builtin.clear_, run_underlying ht]
    · rw [← hd, hm, List.replicate_zero, List.append_nil, List.take_of_length_le (by omega)]
      exact h
  · obtain ⟨g, rfl⟩ := own_some h (by omega)
    have hne : ¬ c = lo.toNat := by have := hR.1; omega
    have hcl := own_cells h
    have hget : ∀ j, j < n → (w.cell? ⟨g, j, none⟩).isSome = true := by
      intro j hj
      obtain ⟨ad, e0, hc⟩ := hcl.2 (by omega)
      obtain rfl := Option.some.inj e0
      have := hc j xs[j] (List.getElem?_eq_getElem (by omega))
      rw [add_flat, Nat.zero_add] at this
      rw [this]; rfl
    have hadd : (if c = lo.toNat then (some ⟨g, 0, none⟩ : Option Addr) else (some ⟨g, 0, none⟩ : Option Addr).map (·.add (lo.toNat * 1))) = some ⟨g, lo.toNat, none⟩ := by
      rw [if_neg hne, Option.map_some, add_flat, Nat.zero_add, Nat.mul_one]
    rw [hadd] at hrun
    have h2 := own_setCells (List.replicate (n - lo.toNat) z) lo.toNat h (by rw [List.length_replicate]; omega)
    refine ⟨_, _, _, _, hrun, fun ty => ?_, ?_, h2.2⟩
    · refine Lib.run_clear_slice w t e ty z (he ▸ ht) (fun w => by simp [zeroValue, typeInfo, hi, hv]) hz h1 g lo.toNat (n - lo.toNat) (c - lo.toNat) (by omega) (fun j hj => hget _ (by omega)) (fun j hj => h.frozenAt _)
    · have e2 : xs.take lo.toNat ++ List.replicate (n - lo.toNat) z ++ xs.drop (lo.toNat + (List.replicate (n - lo.toNat) z).length) = ys := by
        rw [List.length_replicate, List.drop_of_length_le (by omega), List.append_nil, hd]
      rw [← e2]
      exact h2.1
theorem apart_xio {n bb oo : Nat} {B : Option Addr} (h : 0 < n → Apart (some ⟨bb, oo, none⟩) B) (h0 : 0 < n) : Apart B (some ⟨bb, 0, none⟩) := by
  intro a a' ha ha' e
  injection ha' with ha'
  subst ha'
  exact h h0 ⟨bb, oo, none⟩ a rfl ha e.symm
/-- a row that came in, where another one was written -/
theorem cells_wr {w w' : World} {K n q c' : Nat} {A B : Option Addr} {xs : List Value} (h : Cells w K A n xs) (hg : w.grownBy w' (Value.slice B q c').ownBlock) (hX : 0 < n → Apart A B) : Cells w' K A n xs := by
  refine ⟨h.1, fun h0 => ?_⟩
  obtain ⟨a, e, hc⟩ := h.2 h0
  have hn : 0 < n := by
    rcases Nat.eq_zero_or_pos n with h1 | h1
    · have := h.1; rw [h1, Nat.zero_mul] at this; omega
    · exact h1
  refine ⟨a, e, fun j u hu => ?_⟩
  have hj := hc j u hu
  have hb : (a.add j).block = a.block := by unfold Addr.add; split <;> rfl
  rw [World.cell?_of_block (hg.block (a.add j).block (cell_lt hj) ?_)]
  · exact hj
  · cases hB : B with
    | none => simp [Value.ownBlock]
    | some y =>
      simp only [Value.ownBlock, ne_eq, Option.some.injEq]
      intro e2
      exact hX hn a y e hB (by rw [← hb]; exact e2)
/-- what came in lies apart from a row of one's own -/
theorem far_base {w w1 : World} {K n T K' m c n' : Nat} {A B : Option Addr} {cs xs : List Value} (hK : 0 < K) (h : Cells w K A n cs) (hO : w1.ownsRow w.heap.size T K' (.slice B m c) n' xs) : 0 < n → Apart A B := by
  intro hn a a' ha ha' e
  have h0 : 0 < cs.length := by rw [h.1]; exact Nat.mul_pos hn hK
  obtain ⟨a2, e2, hc⟩ := h.2 h0
  obtain rfl : a = a2 := by rw [ha] at e2; exact Option.some.inj e2
  have hl := cell_lt (hc 0 _ (List.getElem?_eq_getElem h0))
  have hb : (a.add 0).block = a.block := by unfold Addr.add; simp
  have := (own_lt hO a' ha').1
  rw [hb] at hl
  omega
end Go.Proofs.Ytlljmgphgmklcaa.GoK

/- Rows of rows: a row of slices, each of which is a row of its own, all apart from each other. No condition. -/
namespace Go.Proofs.Ytlljmgphgmklcaa.GoN
set_option linter.unusedVariables false
open Go.RowKit
open Go.Proofs.Ytlljmgphgmklcaa.Rowed Go.Proofs.Ytlljmgphgmklcaa.Turn Go.Proofs.Ytlljmgphgmklcaa.GoM Go.Proofs.Ytlljmgphgmklcaa.GoK

/-- the cells of a row of slices whose headers are hs -/
def heads {F : Type} (l : List (List F)) (hs : List (Option Addr × Nat)) : List Value := (l.zip hs).map fun p => Value.slice p.2.1 p.1.length p.2.2
/-- l, laid as rows of its own; B: where they lie -/
def OwnNest {F : Type} (w : World) (b T rT rK : Nat) (f : List F → List Value) (A : Option Addr) (c : Nat) (l : List (List F)) (B : List (Option Addr)) : Prop :=
  ∃ hs : List (Option Addr × Nat), hs.length = l.length ∧ w.ownsRow b T 1 (.slice A l.length c) l.length (heads l hs) ∧
    (∀ (i : Nat) x h, l[i]? = some x → hs[i]? = some h → w.ownsRow b rT rK (.slice h.1 x.length h.2) x.length (f x)) ∧ B = A :: hs.map (·.1) ∧ B.Pairwise Apart
/-- l reads as rows -/
def ReadNest {F : Type} (w : World) (rK : Nat) (f : List F → List Value) (A : Option Addr) (l : List (List F)) : Prop :=
  ∃ hs : List (Option Addr × Nat), hs.length = l.length ∧ Cells w 1 A l.length (heads l hs) ∧
    ∀ (i : Nat) x h, l[i]? = some x → hs[i]? = some h → Cells w rK h.1 x.length (f x) ∧ Room h.1 x.length h.2 ∧ x.length ≤ 9223372036854775807

section
variable {F : Type} {w w' : World} {b T rT rK c : Nat} {f : List F → List Value} {A : Option Addr} {l : List (List F)} {B : List (Option Addr)}

theorem nest_below (h : OwnNest w b T rT rK f A c l B) (hb : Below w.heap.size w w') : OwnNest w' b T rT rK f A c l B := by
  obtain ⟨hs, h1, h2, h3, h4, h5⟩ := h
  exact ⟨hs, h1, own_below h2 hb, fun i x h hx hh => own_below (h3 i x h hx hh) hb, h4, h5⟩
/-- another row is written -/
theorem nest_other {n' c' : Nat} {A' : Option Addr} (h : OwnNest w b T rT rK f A c l B) (hg : w.grownBy w' (Value.slice A' n' c').ownBlock) (hD : ∀ x ∈ B, Apart A' x) : OwnNest w' b T rT rK f A c l B := by
  obtain ⟨hs, h1, h2, h3, h4, h5⟩ := h
  subst h4
  refine ⟨hs, h1, own_other h2 hg (hD _ (by simp)), fun i x h hx hh => own_other (h3 i x h hx hh) hg (hD _ ?_), rfl, h5⟩
  exact List.mem_cons_of_mem _ (List.mem_map.2 ⟨h, List.mem_of_getElem? hh, rfl⟩)
theorem nest_lt (h : OwnNest w b T rT rK f A c l B) : ∀ x ∈ B, ∀ a, x = some a → b ≤ a.block ∧ a.block < w.heap.size := by
  obtain ⟨hs, h1, h2, h3, rfl, h5⟩ := h
  intro x hx a ha
  rcases List.mem_cons.1 hx with rfl | hx
  · exact own_lt h2 a ha
  · obtain ⟨h, hh, rfl⟩ := List.mem_map.1 hx
    obtain ⟨i, hi⟩ := List.getElem?_of_mem hh
    have hil := (List.getElem?_eq_some_iff.1 hi).1
    exact own_lt (h3 i l[i] h (List.getElem?_eq_getElem (by omega)) hi) a ha
/-- what is laid now is apart from all of it -/
theorem nest_fresh (h : OwnNest w b T rT rK f A c l B) : ∀ x ∈ B, Apart (some ⟨w.heap.size, 0, none⟩) x := by
  intro x hx a a' ha ha' e
  have := (nest_lt h x hx a' ha').2
  injection ha with ha
  subst ha
  simp at e
  omega
theorem nest_call {w1 : World} {T' K' n m c' : Nat} {A' : Option Addr} {xs : List Value} (h1 : w1.ownsRow w.heap.size T' K' (.slice A' m c') n xs) (h : OwnNest w b T rT rK f A c l B) : ∀ x ∈ B, Apart A' x := by
  intro x hx a a' ha ha' e
  have := (nest_lt h x hx a' ha').2
  have := (own_lt h1 a ha).1
  omega
theorem nest_empty {wc : World} (h : b ≤ wc.heap.size) : OwnNest (wc.alloc (.cells #[] T)) b T rT rK f (some ⟨wc.heap.size, 0, none⟩) 0 ([] : List (List F)) [some ⟨wc.heap.size, 0, none⟩] :=
  ⟨[], rfl, ⟨by simp [heads], .inr ⟨wc.heap.size, 0, #[], rfl, h, heap_alloc_new wc _, Nat.le_refl _, by unfold maxLen; omega, by simp, by simp [heads]⟩⟩, fun i x h hx _ => by simp at hx, rfl, by simp⟩
theorem heads_at {hs : List (Option Addr × Nat)} {i : Nat} {x : List F} {h : Option Addr × Nat} (hx : l[i]? = some x) (hh : hs[i]? = some h) : (heads l hs)[i]? = some (.slice h.1 x.length h.2) := by
  unfold heads
  rw [List.getElem?_map, (List.getElem?_zip_eq_some (z := (x, h))).2 ⟨hx, hh⟩]; rfl
theorem heads_len {hs : List (Option Addr × Nat)} (h : hs.length = l.length) : (heads l hs).length = l.length := by unfold heads; rw [List.length_map, List.length_zip]; omega
theorem nest_read (h : OwnNest w b T rT rK f A c l B) : ReadNest w rK f A l := by
  obtain ⟨hs, h1, h2, h3, h4, h5⟩ := h
  exact ⟨hs, h1, own_cells h2, fun i x h hx hh => ⟨own_cells (h3 i x h hx hh), own_room (h3 i x h hx hh), own_max (h3 i x h hx hh)⟩⟩
theorem read_below (h : ReadNest w rK f A l) (hb : Below w.heap.size w w') : ReadNest w' rK f A l := by
  obtain ⟨hs, h1, h2, h3⟩ := h
  exact ⟨hs, h1, Cells.below h2 hb, fun i x h hx hh => ⟨Cells.below (h3 i x h hx hh).1 hb, (h3 i x h hx hh).2⟩⟩
/-- three rows whose heads are laid one behind the other -/
theorem read_lit3 {w0 : World} {a b1 c1 : List F} {A0 A1 A2 : Option Addr} {d0 d1 d2 : Nat} {v0 v1 v2 : Value} (e0 : v0 = .slice A0 a.length d0) (e1 : v1 = .slice A1 b1.length d1) (e2 : v2 = .slice A2 c1.length d2)
    (h0 : Cells w0 rK A0 a.length (f a)) (m0 : Room A0 a.length d0) (n0 : a.length ≤ 9223372036854775807) (h1 : Cells w0 rK A1 b1.length (f b1)) (m1 : Room A1 b1.length d1) (n1 : b1.length ≤ 9223372036854775807) (h2 : Cells w0 rK A2 c1.length (f c1)) (m2 : Room A2 c1.length d2) (n2 : c1.length ≤ 9223372036854775807) :
    ReadNest (w0.alloc (.cells #[v0, v1, v2] T)) rK f (some ⟨w0.heap.size, 0, none⟩) [a, b1, c1] := by
  subst e0; subst e1; subst e2
  have hb : Below w0.heap.size w0 (w0.alloc (.cells #[.slice A0 a.length d0, .slice A1 b1.length d1, .slice A2 c1.length d2] T)) := (Below.refl _ _).alloc (Nat.le_refl _) _
  refine ⟨[(A0, d0), (A1, d1), (A2, d2)], rfl, ⟨by simp [heads], fun _ => ⟨⟨w0.heap.size, 0, none⟩, rfl, fun j u hu => ?_⟩⟩, fun i x h hx hh => ?_⟩
  · rw [add_flat, Nat.zero_add]
    rcases j with _ | _ | _ | j
    · obtain rfl := Option.some.inj (show some (Value.slice A0 a.length d0) = some u from hu); exact box_new _ _ _ 0 _ rfl
    · obtain rfl := Option.some.inj (show some (Value.slice A1 b1.length d1) = some u from hu); exact box_new _ _ _ 1 _ rfl
    · obtain rfl := Option.some.inj (show some (Value.slice A2 c1.length d2) = some u from hu); exact box_new _ _ _ 2 _ rfl
    · simp [heads] at hu
  · rcases i with _ | _ | _ | i
    · simp only [List.getElem?_cons_zero, Option.some.injEq] at hx hh; subst hx; subst hh; exact ⟨Cells.below h0 hb, m0, n0⟩
    · simp only [List.getElem?_cons_succ, List.getElem?_cons_zero, Option.some.injEq] at hx hh; subst hx; subst hh; exact ⟨Cells.below h1 hb, m1, n1⟩
    · simp only [List.getElem?_cons_succ, List.getElem?_cons_zero, Option.some.injEq] at hx hh; subst hx; subst hh; exact ⟨Cells.below h2 hb, m2, n2⟩
    · simp at hx
/-- the slice at k -/
theorem nest_at {k : Nat} (h : ReadNest w rK f A l) (hk : k < l.length) : ∃ (bb o : Nat) (x : List F) (A1 : Option Addr) (c1 : Nat), A = some ⟨bb, o, none⟩ ∧ l[k]? = some x ∧ w.cell? ⟨bb, o + k, none⟩ = some (.slice A1 x.length c1) ∧
    Cells w rK A1 x.length (f x) ∧ Room A1 x.length c1 ∧ x.length ≤ 9223372036854775807 := by
  obtain ⟨hs, h1, h2, h3⟩ := h
  have hx := List.getElem?_eq_getElem hk
  have hh := List.getElem?_eq_getElem (show k < hs.length by omega)
  obtain ⟨⟨bb, o, sp⟩, e, hc⟩ := h2.2 (by rw [heads_len h1]; omega)
  have h0 := hc 0 _ (heads_at (List.getElem?_eq_getElem (show 0 < l.length by omega)) (List.getElem?_eq_getElem (show 0 < hs.length by omega)))
  obtain rfl : sp = none := cell_spot (b := bb) (o := o) h0
  have h4 := hc k _ (heads_at hx hh)
  rw [add_flat] at h4
  obtain ⟨r1, r2, r3⟩ := h3 k _ _ hx hh
  exact ⟨bb, o, l[k], hs[k].1, hs[k].2, e, hx, h4, r1, r2, r3⟩
/-- one row more, behind an append of its header -/
theorem nest_push {n' c' cx : Nat} {v' : Value} {Ax : Option Addr} {x : List F} {hs : List (Option Addr × Nat)} (h1 : hs.length = l.length)
    (h3 : ∀ (i : Nat) y h, l[i]? = some y → hs[i]? = some h → w'.ownsRow b rT rK (.slice h.1 y.length h.2) y.length (f y)) (hx : w'.ownsRow b rT rK (.slice Ax x.length cx) x.length (f x))
    (ho : w'.ownsRow b T 1 v' (l.length + 1) (heads l hs ++ [.slice Ax x.length cx])) (hp : (hs.map (·.1) ++ [Ax]).Pairwise Apart) (hv : ∀ a, v'.ownBlock = some a → ∀ y ∈ hs.map (·.1) ++ [Ax], ∀ a', y = some a' → a'.block ≠ a) :
    ∃ g cap, v' = .slice (some ⟨g, 0, none⟩) (l ++ [x]).length cap ∧ OwnNest w' b T rT rK f (some ⟨g, 0, none⟩) cap (l ++ [x]) (some ⟨g, 0, none⟩ :: (hs.map (·.1) ++ [Ax])) := by
  obtain ⟨g, cap, rfl⟩ : ∃ g cap, v' = .slice (some ⟨g, 0, none⟩) (l.length + 1) cap := by
    rcases ho.2 with ⟨_, h⟩ | ⟨g3, cap3, _, h, _⟩
    · omega
    · exact ⟨g3, cap3, h⟩
  have el : (l ++ [x]).length = l.length + 1 := by simp
  refine ⟨g, cap, by rw [el], hs ++ [(Ax, cx)], by simp [h1], ?_, ?_, by simp, ?_⟩
  · rw [el]
    have e : heads (l ++ [x]) (hs ++ [(Ax, cx)]) = heads l hs ++ [.slice Ax x.length cx] := by unfold heads; rw [List.zip_append h1.symm]; simp
    rw [e]; exact ho
  · intro i y h hy hh
    by_cases hi : i < l.length
    · rw [List.getElem?_append_left hi] at hy
      rw [List.getElem?_append_left (by omega)] at hh
      exact h3 i y h hy hh
    · have hi2 := (List.getElem?_eq_some_iff.1 hy).1
      rw [el] at hi2
      obtain rfl : i = l.length := by omega
      rw [List.getElem?_append_right (Nat.le_refl _)] at hy
      rw [List.getElem?_append_right (by omega)] at hh
      simp [h1] at hy hh
      subst hy
      subst hh
      exact hx
  · rw [List.pairwise_cons]
    refine ⟨fun y hy a a' ha ha' e => ?_, hp⟩
    injection ha with ha
    subst ha
    exact hv g rfl y hy a' ha' e.symm
theorem nest_head (h : OwnNest w b T rT rK f A c l B) : A ∈ B := by
  obtain ⟨hs, h1, h2, h3, rfl, h5⟩ := h
  simp
theorem nest_lower {b' : Nat} (h : OwnNest w b T rT rK f A c l B) (hb : b' ≤ b) : OwnNest w b' T rT rK f A c l B := by
  obtain ⟨hs, h1, h2, h3, h4, h5⟩ := h
  exact ⟨hs, h1, own_lower h2 hb, fun i x h hx hh => own_lower (h3 i x h hx hh) hb, h4, h5⟩
/-- what a call has laid lies apart from a row that was there -/
theorem nest_callrow {w1 : World} {b' T' K' n m c' : Nat} {A' : Option Addr} {xs : List Value} (h1 : OwnNest w1 w.heap.size T rT rK f A c l B) (h : w.ownsRow b' T' K' (.slice A' m c') n xs) : ∀ x ∈ B, Apart A' x := by
  intro x hx a a' ha ha' e
  have := (nest_lt h1 x hx a' ha').1
  have := (own_lt h a ha).2
  omega
theorem nest_callbox {w1 : World} {g j : Nat} {v : Value} (h1 : OwnNest w1 w.heap.size T rT rK f A c l B) (h : w.cell? ⟨g, j, none⟩ = some v) : ∀ x ∈ B, Apart (some ⟨g, 0, none⟩) x := by
  intro x hx a a' ha ha' e
  have := (nest_lt h1 x hx a' ha').1
  have hl : g < w.heap.size := cell_lt h
  injection ha with ha
  subst ha
  simp at e
  omega
theorem nest_callnest {F' : Type} {w1 : World} {b' T' rT' rK' c' : Nat} {f' : List F' → List Value} {A' : Option Addr} {l' : List (List F')} {B' : List (Option Addr)} (h1 : OwnNest w1 w.heap.size T rT rK f A c l B) (h : OwnNest w b' T' rT' rK' f' A' c' l' B') :
    ∀ x ∈ B, ∀ y ∈ B', Apart x y := by
  intro x hx y hy a a' ha ha' e
  have := (nest_lt h1 x hx a ha).1
  have := (nest_lt h y hy a' ha').2
  omega
theorem nest_flip {B B' : List (Option Addr)} (h : ∀ x ∈ B, ∀ y ∈ B', Apart x y) : ∀ y ∈ B', ∀ x ∈ B, Apart y x := fun y hy x hx => (h x hx y hy).symm
/-- the row at k -/
theorem nest_own {k : Nat} (h : OwnNest w b T rT rK f A c l B) (hk : k < l.length) : ∃ (g : Nat) (x : List F) (A1 : Option Addr) (c1 : Nat), A = some ⟨g, 0, none⟩ ∧ l[k]? = some x ∧ w.cell? ⟨g, k, none⟩ = some (.slice A1 x.length c1) ∧
    w.ownsRow b rT rK (.slice A1 x.length c1) x.length (f x) ∧ A1 ∈ B ∧ Apart A A1 := by
  obtain ⟨hs, h1, h2, h3, rfl, h5⟩ := h
  have hx := List.getElem?_eq_getElem hk
  have hh := List.getElem?_eq_getElem (show k < hs.length by omega)
  obtain ⟨g, rfl⟩ := own_some h2 (by omega)
  obtain ⟨ad, e, hc⟩ := (own_cells h2).2 (by rw [heads_len h1]; omega)
  obtain rfl := Option.some.inj e
  have h4 := hc k _ (heads_at hx hh)
  rw [add_flat, Nat.zero_add] at h4
  have hm : hs[k].1 ∈ hs.map (·.1) := List.mem_map.2 ⟨hs[k], List.getElem_mem _, rfl⟩
  exact ⟨g, l[k], hs[k].1, hs[k].2, rfl, hx, h4, h3 k _ _ hx hh, List.mem_cons_of_mem _ hm, (List.pairwise_cons.1 h5).1 _ hm⟩
/-- a row in it has been written -/
theorem nest_store {k g n' c' : Nat} {x x' : List F} {A1 : Option Addr} {c1 : Nat} (h : OwnNest w b T rT rK f (some ⟨g, 0, none⟩) c l B) (hk : l[k]? = some x) (hcell : w.cell? ⟨g, k, none⟩ = some (.slice A1 x.length c1))
    (hx : w'.ownsRow b rT rK (.slice A1 n' c1) n' (f x')) (hn : x'.length = n') (hn2 : x.length = n') (hg : w.grownBy w' (Value.slice A1 n' c').ownBlock) : OwnNest w' b T rT rK f (some ⟨g, 0, none⟩) c (l.set k x') B := by
  subst hn
  obtain ⟨hs, h1, h2, h3, rfl, h5⟩ := h
  have hkl := (List.getElem?_eq_some_iff.1 hk).1
  have hh := List.getElem?_eq_getElem (show k < hs.length by omega)
  obtain ⟨ad, e, hc⟩ := (own_cells h2).2 (by rw [heads_len h1]; omega)
  obtain rfl := Option.some.inj e
  have h4 := hc k _ (heads_at hk hh)
  rw [add_flat, Nat.zero_add, hcell] at h4
  have h4' := Option.some.inj h4
  simp only [Value.slice.injEq] at h4'
  obtain ⟨e1, _, e2⟩ := h4'
  subst e1
  have hap := List.pairwise_cons.1 h5
  have hmk : hs[k].1 ∈ hs.map (·.1) := List.mem_map.2 ⟨hs[k], List.getElem_mem _, rfl⟩
  refine ⟨hs, by rw [List.length_set]; exact h1, ?_, ?_, rfl, h5⟩
  · have e3 : heads (l.set k x') hs = heads l hs := by
      apply List.ext_getElem?
      intro i
      unfold heads
      rw [List.getElem?_map, List.getElem?_map]
      by_cases hi : i < l.length
      · have hi2 : i < hs.length := by omega
        by_cases hik : k = i
        · subst hik
          rw [(List.getElem?_zip_eq_some (z := (x', hs[k]))).2 ⟨by rw [List.getElem?_set_self hkl], hh⟩, (List.getElem?_zip_eq_some (z := (x, hs[k]))).2 ⟨hk, hh⟩]
          simp [hn2]
        · rw [(List.getElem?_zip_eq_some (z := (l[i], hs[i]))).2 ⟨by rw [List.getElem?_set_ne hik]; exact List.getElem?_eq_getElem hi, List.getElem?_eq_getElem hi2⟩,
            (List.getElem?_zip_eq_some (z := (l[i], hs[i]))).2 ⟨List.getElem?_eq_getElem hi, List.getElem?_eq_getElem hi2⟩]
      · rw [List.getElem?_eq_none (by rw [List.length_zip, List.length_set]; omega), List.getElem?_eq_none (by rw [List.length_zip]; omega)]
    rw [e3, List.length_set]
    refine own_other h2 hg ?_
    exact (hap.1 _ hmk).symm
  · intro i y h hy hhi
    by_cases hik : k = i
    · subst hik
      rw [List.getElem?_set_self hkl] at hy
      obtain rfl := Option.some.inj hy
      obtain rfl := Option.some.inj (hh.symm.trans hhi)
      rw [← e2]
      exact hx
    · rw [List.getElem?_set_ne hik] at hy
      refine own_other (h3 i y h hy hhi) hg ?_
      have hi2 := (List.getElem?_eq_some_iff.1 hhi).1
      have hp := List.pairwise_iff_getElem.1 hap.2
      have ei : h = hs[i] := by rw [List.getElem?_eq_getElem hi2] at hhi; exact (Option.some.inj hhi).symm
      rw [ei]
      rcases Nat.lt_or_gt_of_ne hik with h6 | h6
      · have := hp k i (by rw [List.length_map]; omega) (by rw [List.length_map]; omega) h6
        simpa using this
      · have := hp i k (by rw [List.length_map]; omega) (by rw [List.length_map]; omega) h6
        simpa using this.symm
/-- what lies in B' : what lay in B, the row at Ax, and the headers, where they were or behind all -/
def Pushed (w : World) (A Ax : Option Addr) (B B' : List (Option Addr)) : Prop := A ∈ B ∧ Ax ∈ B' ∧ ∀ y ∈ B', y ∈ B ∨ y = Ax ∨ From w A y
theorem apart_push {R Ax : Option Addr} {B' : List (Option Addr)} (hD : ∀ y ∈ B, Apart R y) (hx : Apart R Ax) (hR : ∀ a, R = some a → a.block < w.heap.size) (h : Pushed w A Ax B B') : ∀ y ∈ B', Apart R y := by
  intro y hy
  rcases h.2.2 y hy with h1 | rfl | h1
  · exact hD y h1
  · exact hx
  · exact (apart_from (hD A h.1).symm hR h1).symm
theorem apart_pushN {Ax : Option Addr} {B' C : List (Option Addr)} (hD : ∀ r ∈ C, ∀ y ∈ B, Apart r y) (hx : ∀ r ∈ C, Apart Ax r) (hR : ∀ r ∈ C, ∀ a, r = some a → a.block < w.heap.size) (h : Pushed w A Ax B B') : ∀ r ∈ C, ∀ y ∈ B', Apart r y :=
  fun r hr => apart_push (hD r hr) (hx r hr).symm (hR r hr) h
/-- append(rows, row): the row is in the nest from here on, and reads as before -/
theorem nest_app {n' c' : Nat} {v' : Value} {Ax : Option Addr} {cx : Nat} {x : List F} {hs : List (Option Addr × Nat)} {l' : List (List F)} (hl' : l ++ [x] = l') (h1 : hs.length = l.length) (h4 : B = A :: hs.map (·.1))
    (h3 : ∀ (i : Nat) y h, l[i]? = some y → hs[i]? = some h → w.ownsRow b rT rK (.slice h.1 y.length h.2) y.length (f y)) (h5 : B.Pairwise Apart) (hx : w.ownsRow b rT rK (.slice Ax x.length cx) x.length (f x))
    (hD : ∀ y ∈ B, Apart Ax y) (hg : w.grownBy w' (Value.slice A n' c').ownBlock) (ho : w'.ownsRow b T 1 v' (l.length + 1) (heads l hs ++ [.slice Ax x.length cx]))
    (hy : v'.ownBlock = (Value.slice A n' c').ownBlock ∨ v'.ownBlock = some w.heap.size) :
    ∃ g cap B', v' = .slice (some ⟨g, 0, none⟩) l'.length cap ∧ OwnNest w' b T rT rK f (some ⟨g, 0, none⟩) cap l' B' ∧ Pushed w A Ax B B' ∧ w'.ownsRow b rT rK (.slice Ax x.length cx) x.length (f x) := by
  subst hl'
  subst h4
  have hp := List.pairwise_cons.1 h5
  have hx' := own_other hx hg (hD A (by simp)).symm
  have hlt : ∀ y ∈ hs.map (·.1) ++ [Ax], ∀ a, y = some a → a.block < w.heap.size := by
    intro y hy a ha
    rcases List.mem_append.1 hy with hy | hy
    · obtain ⟨h, hh, rfl⟩ := List.mem_map.1 hy
      obtain ⟨i, hi⟩ := List.getElem?_of_mem hh
      have hil := (List.getElem?_eq_some_iff.1 hi).1
      exact (own_lt (h3 i l[i] h (List.getElem?_eq_getElem (by omega)) hi) a ha).2
    · simp at hy; subst hy; exact (own_lt hx a ha).2
  obtain ⟨g, cap, e, hN⟩ := nest_push (c' := c') (n' := n') h1 (fun i y h hy hh => own_other (h3 i y h hy hh) hg (hp.1 _ (List.mem_map.2 ⟨h, List.mem_of_getElem? hh, rfl⟩))) hx' ho
    (List.pairwise_append.2 ⟨hp.2, by simp, fun a ha b hb => by simp at hb; subst hb; exact (hD a (List.mem_cons_of_mem _ ha)).symm⟩)
    (by
      intro a ha y hy a' ha' e
      rcases hy with hy
      rcases ‹v'.ownBlock = _ ∨ _› with h6 | h6
      · rw [ha] at h6
        cases hA : A with
        | none => rw [hA] at h6; simp [Value.ownBlock] at h6
        | some z =>
          rw [hA] at h6
          simp only [Value.ownBlock, Option.some.injEq] at h6
          rcases List.mem_append.1 hy with hy | hy
          · exact hp.1 y hy z a' hA ha' (by omega)
          · simp at hy; subst hy; exact hD A (by simp) a' z ha' hA (by omega)
      · rw [ha] at h6
        have := hlt y hy a' ha'
        simp only [Option.some.injEq] at h6; omega)
  refine ⟨g, cap, _, e, hN, ⟨by simp, by simp, ?_⟩, hx'⟩
  intro y hy
  rcases List.mem_cons.1 hy with rfl | hy
  · right; right
    rw [e] at ‹v'.ownBlock = _ ∨ _›
    intro a' ha'
    injection ha' with ha'
    subst ha'
    rcases ‹_ ∨ _› with h6 | h6
    · left
      cases hA : A with
      | none => rw [hA] at h6; simp [Value.ownBlock] at h6
      | some z => rw [hA] at h6; simp only [Value.ownBlock, Option.some.injEq] at h6; exact ⟨z, rfl, h6.symm⟩
    · right; simp only [Value.ownBlock, Option.some.injEq] at h6; exact Nat.le_of_eq h6.symm
  · rcases List.mem_append.1 hy with hy | hy
    · exact .inl (List.mem_cons_of_mem _ hy)
    · simp at hy; exact .inr (.inl hy)
theorem nest_one {X R : Option Addr} (h : Apart X R) : ∀ y ∈ [X], Apart R y := by
  intro y hy
  simp at hy
  subst hy
  exact h.symm
theorem nest_max (h : OwnNest w b T rT rK f A c l B) : l.length ≤ 9223372036854775807 := by
  obtain ⟨hs, h1, h2, h3, h4, h5⟩ := h
  exact own_max h2
theorem nest_room (h : OwnNest w b T rT rK f A c l B) : Room A l.length c := by
  obtain ⟨hs, h1, h2, h3, h4, h5⟩ := h
  exact own_room h2
/-- w' is w but for what lies in B, and for new blocks -/
structure GrownN (w w' : World) (B : List (Option Addr)) : Prop where
  os : w'.os = w.os
  tape : w'.tape = w.tape
  output : w'.output = w.output
  size : w.heap.size ≤ w'.heap.size
  block : ∀ k, k < w.heap.size → (∀ y ∈ B, ∀ a, y = some a → a.block ≠ k) → w'.heap[k]? = w.heap[k]?
theorem grownN_refl (w : World) (B : List (Option Addr)) : GrownN w w B := ⟨rfl, rfl, rfl, Nat.le_refl _, fun _ _ _ => rfl⟩
theorem grownN_below {wr w2 : World} {B : List (Option Addr)} (h : GrownN w wr B) (hb : Below wr.heap.size wr w2) : GrownN w w2 B :=
  ⟨hb.os.trans h.os, hb.tape.trans h.tape, hb.output.trans h.output, Nat.le_trans h.size hb.size, fun k hk h1 => (hb.block k (Nat.lt_of_lt_of_le hk h.size)).trans (h.block k hk h1)⟩
theorem grownN_row {wr w2 : World} {B : List (Option Addr)} {n c' : Nat} {A1 : Option Addr} (h : GrownN w wr B) (hg : wr.grownBy w2 (Value.slice A1 n c').ownBlock) (hm : A1 ∈ B) : GrownN w w2 B :=
  ⟨hg.os.trans h.os, hg.tape.trans h.tape, hg.output.trans h.output, Nat.le_trans h.size hg.size, fun k hk h1 => (hg.block k (Nat.lt_of_lt_of_le hk h.size) (by
    cases hA : A1 with
    | none => simp [Value.ownBlock]
    | some a => simp only [Value.ownBlock, ne_eq, Option.some.injEq]; exact fun e => h1 _ hm a hA e.symm)).trans (h.block k hk h1)⟩
theorem below_nest {wr w2 : World} {B0 : Nat} {B : List (Option Addr)} (h : Below B0 w wr) (hg : GrownN wr w2 B) (hB : B0 ≤ wr.heap.size) (h1 : ∀ y ∈ B, ∀ a, y = some a → B0 ≤ a.block ∧ a.block < wr.heap.size) : Below B0 w w2 :=
  ⟨hg.os.trans h.os, hg.tape.trans h.tape, hg.output.trans h.output, Nat.le_trans h.size hg.size, fun k hk => (hg.block k (Nat.lt_of_lt_of_le hk hB) (fun y hy a e e2 => by have := (h1 y hy a e).1; omega)).trans (h.block k hk)⟩
theorem own_otherN {b' T' K' n m c' : Nat} {R : Option Addr} {ys : List Value} (h : w.ownsRow b' T' K' (.slice R m c') n ys) (hg : GrownN w w' B) (hD : ∀ y ∈ B, Apart R y) : w'.ownsRow b' T' K' (.slice R m c') n ys := by
  refine ⟨h.1, ?_⟩
  rcases h.2 with hn | ⟨g, cap, cur, hv, hb, hgg, rest⟩
  · exact .inl hn
  · have hlt := (h.lt g (by rw [hv]; rfl)).2
    have hR : R = some ⟨g, 0, none⟩ := by simp only [Value.slice.injEq] at hv; exact hv.1
    refine .inr ⟨g, cap, cur, hv, hb, ?_, rest⟩
    rw [hg.block g hlt (fun y hy a e e2 => hD y hy _ a hR e e2.symm)]
    exact hgg
theorem cell_otherN {a : Addr} {v : Value} (h : w.cell? a = some v) (hg : GrownN w w' B) (hD : ∀ y ∈ B, Apart (some ⟨a.block, 0, none⟩) y) : w'.cell? a = some v := by
  rw [World.cell?_of_block (hg.block a.block (cell_lt h) (fun y hy x e e2 => hD y hy _ x rfl e e2.symm))]
  exact h
theorem apart_oldN {wr : World} {b' g : Nat} (h : OwnNest wr b' T rT rK f A c l B) (hg : g < b') : ∀ y ∈ B, Apart (some ⟨g, 0, none⟩) y := by
  intro y hy a a' ha ha' e
  have := (nest_lt h y hy a' ha').1
  injection ha with ha
  subst ha
  simp at e
  omega
theorem nest_otherN {F' : Type} {b' T' rT' rK' c' : Nat} {f' : List F' → List Value} {A' : Option Addr} {l' : List (List F')} {B' : List (Option Addr)} (h : OwnNest w b' T' rT' rK' f' A' c' l' B') (hg : GrownN w w' B) (hD : ∀ x ∈ B', ∀ y ∈ B, Apart x y) : OwnNest w' b' T' rT' rK' f' A' c' l' B' := by
  obtain ⟨hs, h1, h2, h3, rfl, h5⟩ := h
  refine ⟨hs, h1, own_otherN h2 hg (hD _ (by simp)), fun i x h hx hh => own_otherN (h3 i x h hx hh) hg (hD _ ?_), rfl, h5⟩
  exact List.mem_cons_of_mem _ (List.mem_map.2 ⟨h, List.mem_of_getElem? hh, rfl⟩)
end
end Go.Proofs.Ytlljmgphgmklcaa.GoN

/- loop.example/g01062/impl.within as a plain function, and the contract of the program's: where the plain one has an answer, the program has it. Conditions: slices read as lists. -/
namespace Go.Proofs.Ytlljmgphgmklcaa.GiWithin
set_option linter.unusedVariables false
set_option linter.unusedSimpArgs false
open Go.RowKit
open Go.Proofs.Ytlljmgphgmklcaa.Rowed Go.Proofs.Ytlljmgphgmklcaa.Turn Go.Proofs.Ytlljmgphgmklcaa.Aid Go.Proofs.Ytlljmgphgmklcaa.GoP Go.Proofs.Ytlljmgphgmklcaa.GoM

def P (n_0 : Int) (low : Int) (high : Int) : Option (Bool) :=
  letK (decide (low ≤ n_0)) fun (t_3 : Bool) =>
  joinK (fun (t_8 : Bool) =>
  some t_8) fun jt_8 => iteK t_3 (letK (decide (n_0 ≤ high)) fun (t_7 : Bool) =>
  appK jt_8 t_7) (appK jt_8 false)

set_option maxRecDepth 100000 in
set_option maxHeartbeats 2000000 in
theorem C (n_0 : Int) (low : Int) (high : Int)   (w : World)   {r : Bool} (H : Hid (P n_0 low high = some r)) :
    Calls Try.prog 78 #[.int .i64 n_0, .int .i64 low, .int .i64 high] w (Gives (.bool r) w) := by
  have HB := Lib.hid (Below.refl w.heap.size w)
  unfold P at H
  go_enter Try.func78, Try.ntmps78
  replace H := let_hid H
  obtain ⟨t_3, ht_3, H⟩ := H
  replace H := join_hid H
  cases t_3 with
  | false =>
    replace H := ite_f H
    replace H := app_hid H
    obtain rfl := ret_hid H
    go_wp2_with fail
    go_ret
    exact ⟨rfl, HB.out⟩
  | true =>
    replace H := ite_t H
    replace H := let_hid H
    obtain ⟨t_7, ht_7, H⟩ := H
    replace H := app_hid H
    obtain rfl := ret_hid H
    go_wp2_with fail
    go_ret
    exact ⟨rfl, HB.out⟩

set_option maxRecDepth 100000 in
set_option maxHeartbeats 2000000 in
theorem C0 (n_0 : Int) (low : Int) (high : Int)   (w : World)   {r : Bool} (H : Hid (P n_0 low high = some r)) :
    Calls Try.prog 78 #[.int .i64 n_0, .int .i64 low, .int .i64 high] w (fun e w'' => e = .returned (.bool r) ∧ w'' = w) := by
  have HB := Lib.hid (Below.refl w.heap.size w)
  unfold P at H
  go_enter Try.func78, Try.ntmps78
  replace H := let_hid H
  obtain ⟨t_3, ht_3, H⟩ := H
  replace H := join_hid H
  cases t_3 with
  | false =>
    replace H := ite_f H
    replace H := app_hid H
    obtain rfl := ret_hid H
    go_wp2_with fail
    go_ret
    exact ⟨rfl, rfl⟩
  | true =>
    replace H := ite_t H
    replace H := let_hid H
    obtain ⟨t_7, ht_7, H⟩ := H
    replace H := app_hid H
    obtain rfl := ret_hid H
    go_wp2_with fail
    go_ret
    exact ⟨rfl, rfl⟩
end Go.Proofs.Ytlljmgphgmklcaa.GiWithin

/- loop.example/g01062/impl.isZone as a plain function, and the contract of the program's: where the plain one has an answer, the program has it. Conditions: slices read as lists. -/
namespace Go.Proofs.Ytlljmgphgmklcaa.GiIsZone
set_option linter.unusedVariables false
set_option linter.unusedSimpArgs false
open Go.RowKit
open Go.Proofs.Ytlljmgphgmklcaa.Rowed Go.Proofs.Ytlljmgphgmklcaa.Turn Go.Proofs.Ytlljmgphgmklcaa.Aid Go.Proofs.Ytlljmgphgmklcaa.GoP Go.Proofs.Ytlljmgphgmklcaa.GoM

def P (zone : Int) : Option (Bool) :=
  Option.bind (Go.Proofs.Ytlljmgphgmklcaa.GiWithin.P zone 0 9) fun (t_2 : Bool) =>
  some t_2

set_option maxRecDepth 100000 in
set_option maxHeartbeats 2000000 in
theorem C (zone : Int)   (w : World)   {r : Bool} (H : Hid (P zone = some r)) :
    Calls Try.prog 80 #[.int .i64 zone] w (Gives (.bool r) w) := by
  have HB := Lib.hid (Below.refl w.heap.size w)
  unfold P at H
  go_enter Try.func80, Try.ntmps80
  replace H := bind_hid H
  obtain ⟨t_2, qt_2, H⟩ := H
  go_wp2_with fail
  go_at_call 78
  refine (Go.Proofs.Ytlljmgphgmklcaa.GiWithin.C (zone) (0) (9)  _    qt_2).mono ?_
  rintro e_t_2 wt_2 ⟨rfl, bt_2⟩
  have HBwt_2 := Lib.hid (Below.step HB.out bt_2)
  clear bt_2
  obtain rfl := ret_hid H
  go_wp2_with fail
  go_ret
  exact ⟨rfl, HBwt_2.out⟩
end Go.Proofs.Ytlljmgphgmklcaa.GiIsZone

/- loop.example/g01062/impl.isWeight as a plain function, and the contract of the program's: where the plain one has an answer, the program has it. Conditions: slices read as lists. -/
namespace Go.Proofs.Ytlljmgphgmklcaa.GiIsWeight
set_option linter.unusedVariables false
set_option linter.unusedSimpArgs false
open Go.RowKit
open Go.Proofs.Ytlljmgphgmklcaa.Rowed Go.Proofs.Ytlljmgphgmklcaa.Turn Go.Proofs.Ytlljmgphgmklcaa.Aid Go.Proofs.Ytlljmgphgmklcaa.GoP Go.Proofs.Ytlljmgphgmklcaa.GoM

def P (grams : Int) : Option (Bool) :=
  Option.bind (Go.Proofs.Ytlljmgphgmklcaa.GiWithin.P grams 1 2000) fun (t_2 : Bool) =>
  some t_2

set_option maxRecDepth 100000 in
set_option maxHeartbeats 2000000 in
theorem C (grams : Int)   (w : World)   {r : Bool} (H : Hid (P grams = some r)) :
    Calls Try.prog 81 #[.int .i64 grams] w (Gives (.bool r) w) := by
  have HB := Lib.hid (Below.refl w.heap.size w)
  unfold P at H
  go_enter Try.func81, Try.ntmps81
  replace H := bind_hid H
  obtain ⟨t_2, qt_2, H⟩ := H
  go_wp2_with fail
  go_at_call 78
  refine (Go.Proofs.Ytlljmgphgmklcaa.GiWithin.C (grams) (1) (2000)  _    qt_2).mono ?_
  rintro e_t_2 wt_2 ⟨rfl, bt_2⟩
  have HBwt_2 := Lib.hid (Below.step HB.out bt_2)
  clear bt_2
  obtain rfl := ret_hid H
  go_wp2_with fail
  go_ret
  exact ⟨rfl, HBwt_2.out⟩
end Go.Proofs.Ytlljmgphgmklcaa.GiIsWeight

/- loop.example/g01062/impl.isRateCents as a plain function, and the contract of the program's: where the plain one has an answer, the program has it. Conditions: slices read as lists. -/
namespace Go.Proofs.Ytlljmgphgmklcaa.GiIsRateCents
set_option linter.unusedVariables false
set_option linter.unusedSimpArgs false
open Go.RowKit
open Go.Proofs.Ytlljmgphgmklcaa.Rowed Go.Proofs.Ytlljmgphgmklcaa.Turn Go.Proofs.Ytlljmgphgmklcaa.Aid Go.Proofs.Ytlljmgphgmklcaa.GoP Go.Proofs.Ytlljmgphgmklcaa.GoM

def P (cents : Int) : Option (Bool) :=
  Option.bind (Go.Proofs.Ytlljmgphgmklcaa.GiWithin.P cents 1 9999) fun (t_2 : Bool) =>
  some t_2

set_option maxRecDepth 100000 in
set_option maxHeartbeats 2000000 in
theorem C (cents : Int)   (w : World)   {r : Bool} (H : Hid (P cents = some r)) :
    Calls Try.prog 82 #[.int .i64 cents] w (Gives (.bool r) w) := by
  have HB := Lib.hid (Below.refl w.heap.size w)
  unfold P at H
  go_enter Try.func82, Try.ntmps82
  replace H := bind_hid H
  obtain ⟨t_2, qt_2, H⟩ := H
  go_wp2_with fail
  go_at_call 78
  refine (Go.Proofs.Ytlljmgphgmklcaa.GiWithin.C (cents) (1) (9999)  _    qt_2).mono ?_
  rintro e_t_2 wt_2 ⟨rfl, bt_2⟩
  have HBwt_2 := Lib.hid (Below.step HB.out bt_2)
  clear bt_2
  obtain rfl := ret_hid H
  go_wp2_with fail
  go_ret
  exact ⟨rfl, HBwt_2.out⟩
end Go.Proofs.Ytlljmgphgmklcaa.GiIsRateCents

/- loop.example/g01062/impl.isDay as a plain function, and the contract of the program's: where the plain one has an answer, the program has it. Conditions: slices read as lists. -/
namespace Go.Proofs.Ytlljmgphgmklcaa.GiIsDay
set_option linter.unusedVariables false
set_option linter.unusedSimpArgs false
open Go.RowKit
open Go.Proofs.Ytlljmgphgmklcaa.Rowed Go.Proofs.Ytlljmgphgmklcaa.Turn Go.Proofs.Ytlljmgphgmklcaa.Aid Go.Proofs.Ytlljmgphgmklcaa.GoP Go.Proofs.Ytlljmgphgmklcaa.GoM

def P (day : Int) : Option (Bool) :=
  Option.bind (Go.Proofs.Ytlljmgphgmklcaa.GiWithin.P day 0 4000) fun (t_2 : Bool) =>
  some t_2

set_option maxRecDepth 100000 in
set_option maxHeartbeats 2000000 in
theorem C (day : Int)   (w : World)   {r : Bool} (H : Hid (P day = some r)) :
    Calls Try.prog 79 #[.int .i64 day] w (Gives (.bool r) w) := by
  have HB := Lib.hid (Below.refl w.heap.size w)
  unfold P at H
  go_enter Try.func79, Try.ntmps79
  replace H := bind_hid H
  obtain ⟨t_2, qt_2, H⟩ := H
  go_wp2_with fail
  go_at_call 78
  refine (Go.Proofs.Ytlljmgphgmklcaa.GiWithin.C (day) (0) (4000)  _    qt_2).mono ?_
  rintro e_t_2 wt_2 ⟨rfl, bt_2⟩
  have HBwt_2 := Lib.hid (Below.step HB.out bt_2)
  clear bt_2
  obtain rfl := ret_hid H
  go_wp2_with fail
  go_ret
  exact ⟨rfl, HBwt_2.out⟩
end Go.Proofs.Ytlljmgphgmklcaa.GiIsDay

/- loop.example/g01062/impl.IsRate as a plain function, and the contract of the program's: where the plain one has an answer, the program has it. Conditions: slices read as lists. -/
namespace Go.Proofs.Ytlljmgphgmklcaa.GiIsRate
set_option linter.unusedVariables false
set_option linter.unusedSimpArgs false
open Go.RowKit
open Go.Proofs.Ytlljmgphgmklcaa.Rowed Go.Proofs.Ytlljmgphgmklcaa.Turn Go.Proofs.Ytlljmgphgmklcaa.Aid Go.Proofs.Ytlljmgphgmklcaa.GoP Go.Proofs.Ytlljmgphgmklcaa.GoM

def P (r_0 : Go.Proofs.Ytlljmgphgmklcaa.PRate.Rate) : Option (Bool) :=
  unRate r_0 fun (r_0_zone : Int) (r_0_grams : Int) (r_0_from_ : Int) (r_0_until_ : Int) (r_0_cents : Int) =>
  Option.bind (Go.Proofs.Ytlljmgphgmklcaa.GiIsZone.P r_0_zone) fun (t_4 : Bool) =>
  joinK (fun (t_9 : Bool) =>
  joinK (fun (t_14 : Bool) =>
  joinK (fun (t_19 : Bool) =>
  joinK (fun (t_24 : Bool) =>
  joinK (fun (t_31 : Bool) =>
  some t_31) fun jt_31 => iteK t_24 (letK (decide (r_0_from_ ≤ r_0_until_)) fun (t_30 : Bool) =>
  appK jt_31 t_30) (appK jt_31 false)) fun jt_24 => iteK t_19 (Option.bind (Go.Proofs.Ytlljmgphgmklcaa.GiIsDay.P r_0_until_) fun (t_23 : Bool) =>
  appK jt_24 t_23) (appK jt_24 false)) fun jt_19 => iteK t_14 (Option.bind (Go.Proofs.Ytlljmgphgmklcaa.GiIsDay.P r_0_from_) fun (t_18 : Bool) =>
  appK jt_19 t_18) (appK jt_19 false)) fun jt_14 => iteK t_9 (Option.bind (Go.Proofs.Ytlljmgphgmklcaa.GiIsRateCents.P r_0_cents) fun (t_13 : Bool) =>
  appK jt_14 t_13) (appK jt_14 false)) fun jt_9 => iteK t_4 (Option.bind (Go.Proofs.Ytlljmgphgmklcaa.GiIsWeight.P r_0_grams) fun (t_8 : Bool) =>
  appK jt_9 t_8) (appK jt_9 false)

set_option maxRecDepth 100000 in
set_option maxHeartbeats 2000000 in
theorem C (r_0 : Go.Proofs.Ytlljmgphgmklcaa.PRate.Rate)   (w : World)   {r : Bool} (H : Hid (P r_0 = some r)) :
    Calls Try.prog 132 #[r_0.val] w (Gives (.bool r) w) := by
  have HB := Lib.hid (Below.refl w.heap.size w)
  unfold P at H
  obtain ⟨r_0_zone, r_0_grams, r_0_from_, r_0_until_, r_0_cents⟩ := r_0
  replace H := unRate_hid H
  unfold Go.Proofs.Ytlljmgphgmklcaa.PRate.Rate.val
  go_enter Try.func132, Try.ntmps132
  obtain ⟨w_r_0, hw_r_0⟩ : ∃ x, w.alloc (.cells #[.int .i64 r_0_zone, .int .i64 r_0_grams, .int .i64 r_0_from_, .int .i64 r_0_until_, .int .i64 r_0_cents] 104) = x := ⟨_, rfl⟩
  have bw_r_0 : Below w.heap.size w w_r_0 := by rw [← hw_r_0]; exact (Below.refl _ _).alloc (Nat.le_refl _) _
  have HBw_r_0 := Lib.hid (Below.step HB.out bw_r_0)
  clear bw_r_0
  have kr_0_0 : w_r_0.cell? ⟨w.heap.size, 0, none⟩ = some (.int .i64 r_0_zone) := by rw [← hw_r_0]; exact box_new _ _ _ 0 _ rfl
  have kr_0_1 : w_r_0.cell? ⟨w.heap.size, 1, none⟩ = some (.int .i64 r_0_grams) := by rw [← hw_r_0]; exact box_new _ _ _ 1 _ rfl
  have kr_0_2 : w_r_0.cell? ⟨w.heap.size, 2, none⟩ = some (.int .i64 r_0_from_) := by rw [← hw_r_0]; exact box_new _ _ _ 2 _ rfl
  have kr_0_3 : w_r_0.cell? ⟨w.heap.size, 3, none⟩ = some (.int .i64 r_0_until_) := by rw [← hw_r_0]; exact box_new _ _ _ 3 _ rfl
  have kr_0_4 : w_r_0.cell? ⟨w.heap.size, 4, none⟩ = some (.int .i64 r_0_cents) := by rw [← hw_r_0]; exact box_new _ _ _ 4 _ rfl
  replace H := bind_hid H
  obtain ⟨t_4, qt_4, H⟩ := H
  go_wp2_with fail
  go_at_call 80
  refine (Go.Proofs.Ytlljmgphgmklcaa.GiIsZone.C (r_0_zone)  _    qt_4).mono ?_
  rintro e_t_4 wt_4 ⟨rfl, bt_4⟩
  have HBwt_4 := Lib.hid (Below.step HBw_r_0.out bt_4)
  replace kr_0_0 := cell_below bt_4 kr_0_0
  replace kr_0_1 := cell_below bt_4 kr_0_1
  replace kr_0_2 := cell_below bt_4 kr_0_2
  replace kr_0_3 := cell_below bt_4 kr_0_3
  replace kr_0_4 := cell_below bt_4 kr_0_4
  clear bt_4
  replace H := join_hid H
  cases t_4 with
  | false =>
    replace H := ite_f H
    replace H := app_hid H
    replace H := join_hid H
    replace H := ite_f H
    replace H := app_hid H
    replace H := join_hid H
    replace H := ite_f H
    replace H := app_hid H
    replace H := join_hid H
    replace H := ite_f H
    replace H := app_hid H
    replace H := join_hid H
    replace H := ite_f H
    replace H := app_hid H
    obtain rfl := ret_hid H
    go_wp2_with fail
    go_ret
    exact ⟨rfl, HBwt_4.out⟩
  | true =>
    replace H := ite_t H
    replace H := bind_hid H
    obtain ⟨t_8, qt_8, H⟩ := H
    go_wp2_with fail
    go_at_call 81
    refine (Go.Proofs.Ytlljmgphgmklcaa.GiIsWeight.C (r_0_grams)  _    qt_8).mono ?_
    rintro e_t_8 wt_8 ⟨rfl, bt_8⟩
    have HBwt_8 := Lib.hid (Below.step HBwt_4.out bt_8)
    replace kr_0_0 := cell_below bt_8 kr_0_0
    replace kr_0_1 := cell_below bt_8 kr_0_1
    replace kr_0_2 := cell_below bt_8 kr_0_2
    replace kr_0_3 := cell_below bt_8 kr_0_3
    replace kr_0_4 := cell_below bt_8 kr_0_4
    clear bt_8
    replace H := app_hid H
    replace H := join_hid H
    cases t_8 with
    | false =>
      replace H := ite_f H
      replace H := app_hid H
      replace H := join_hid H
      replace H := ite_f H
      replace H := app_hid H
      replace H := join_hid H
      replace H := ite_f H
      replace H := app_hid H
      replace H := join_hid H
      replace H := ite_f H
      replace H := app_hid H
      obtain rfl := ret_hid H
      go_wp2_with fail
      go_ret
      exact ⟨rfl, HBwt_8.out⟩
    | true =>
      replace H := ite_t H
      replace H := bind_hid H
      obtain ⟨t_13, qt_13, H⟩ := H
      go_wp2_with fail
      go_at_call 82
      refine (Go.Proofs.Ytlljmgphgmklcaa.GiIsRateCents.C (r_0_cents)  _    qt_13).mono ?_
      rintro e_t_13 wt_13 ⟨rfl, bt_13⟩
      have HBwt_13 := Lib.hid (Below.step HBwt_8.out bt_13)
      replace kr_0_0 := cell_below bt_13 kr_0_0
      replace kr_0_1 := cell_below bt_13 kr_0_1
      replace kr_0_2 := cell_below bt_13 kr_0_2
      replace kr_0_3 := cell_below bt_13 kr_0_3
      replace kr_0_4 := cell_below bt_13 kr_0_4
      clear bt_13
      replace H := app_hid H
      replace H := join_hid H
      cases t_13 with
      | false =>
        replace H := ite_f H
        replace H := app_hid H
        replace H := join_hid H
        replace H := ite_f H
        replace H := app_hid H
        replace H := join_hid H
        replace H := ite_f H
        replace H := app_hid H
        obtain rfl := ret_hid H
        go_wp2_with fail
        go_ret
        exact ⟨rfl, HBwt_13.out⟩
      | true =>
        replace H := ite_t H
        replace H := bind_hid H
        obtain ⟨t_18, qt_18, H⟩ := H
        go_wp2_with fail
        go_at_call 79
        refine (Go.Proofs.Ytlljmgphgmklcaa.GiIsDay.C (r_0_from_)  _    qt_18).mono ?_
        rintro e_t_18 wt_18 ⟨rfl, bt_18⟩
        have HBwt_18 := Lib.hid (Below.step HBwt_13.out bt_18)
        replace kr_0_0 := cell_below bt_18 kr_0_0
        replace kr_0_1 := cell_below bt_18 kr_0_1
        replace kr_0_2 := cell_below bt_18 kr_0_2
        replace kr_0_3 := cell_below bt_18 kr_0_3
        replace kr_0_4 := cell_below bt_18 kr_0_4
        clear bt_18
        replace H := app_hid H
        replace H := join_hid H
        cases t_18 with
        | false =>
          replace H := ite_f H
          replace H := app_hid H
          replace H := join_hid H
          replace H := ite_f H
          replace H := app_hid H
          obtain rfl := ret_hid H
          go_wp2_with fail
          go_ret
          exact ⟨rfl, HBwt_18.out⟩
        | true =>
          replace H := ite_t H
          replace H := bind_hid H
          obtain ⟨t_23, qt_23, H⟩ := H
          go_wp2_with fail
          go_at_call 79
          refine (Go.Proofs.Ytlljmgphgmklcaa.GiIsDay.C (r_0_until_)  _    qt_23).mono ?_
          rintro e_t_23 wt_23 ⟨rfl, bt_23⟩
          have HBwt_23 := Lib.hid (Below.step HBwt_18.out bt_23)
          replace kr_0_0 := cell_below bt_23 kr_0_0
          replace kr_0_1 := cell_below bt_23 kr_0_1
          replace kr_0_2 := cell_below bt_23 kr_0_2
          replace kr_0_3 := cell_below bt_23 kr_0_3
          replace kr_0_4 := cell_below bt_23 kr_0_4
          clear bt_23
          replace H := app_hid H
          replace H := join_hid H
          cases t_23 with
          | false =>
            replace H := ite_f H
            replace H := app_hid H
            obtain rfl := ret_hid H
            go_wp2_with fail
            go_ret
            exact ⟨rfl, HBwt_23.out⟩
          | true =>
            replace H := ite_t H
            replace H := let_hid H
            obtain ⟨t_30, ht_30, H⟩ := H
            replace H := app_hid H
            obtain rfl := ret_hid H
            go_wp2_with fail
            go_ret
            exact ⟨rfl, HBwt_23.out⟩
end Go.Proofs.Ytlljmgphgmklcaa.GiIsRate

/- Plain words on the record rateClass: its fields, its cells, a list of it as cells one after the other. No condition. -/
namespace Go.Proofs.Ytlljmgphgmklcaa.PrateClass
set_option linter.unusedVariables false
set_option maxRecDepth 100000

structure rateClass where
  zone : Int
  grams : Int
def rateClass.cells (s : rateClass) : List Value := [.int .i64 s.zone, .int .i64 s.grams]
def rateClass.val (s : rateClass) : Value := .agg #[.int .i64 s.zone, .int .i64 s.grams]
/-- each field fits -/
def rateClass.fits (s : rateClass) : Prop := (Lit.int .i64 s.zone).wf = true ∧ (Lit.int .i64 s.grams).wf = true
def zero : rateClass := ⟨0, 0⟩
/-- the letters of its texts -/
def rateClass.wt (s : rateClass) : Nat := 0
def wts (l : List rateClass) : Nat := (l.map rateClass.wt).sum
theorem wts_snoc (l : List rateClass) (s : rateClass) : wts (l ++ [s]) = wts l + s.wt := by unfold wts; simp [List.sum_append]
theorem wts_succ {l : List rateClass} {k : Nat} {s : rateClass} (h : l[k]? = some s) : wts (l.take (k + 1)) = wts (l.take k) + s.wt := by
  have hk := List.getElem?_eq_some_iff.1 h
  rw [List.take_succ_eq_append_getElem hk.1, hk.2, wts_snoc]
theorem wts_take (l : List rateClass) (k : Nat) : wts (l.take k) ≤ wts l := by
  have : wts l = wts (l.take k) + wts (l.drop k) := by
    unfold wts; rw [← List.sum_append, ← List.map_append, List.take_append_drop]
  omega
theorem wts_all (l : List rateClass) : wts (l.take l.length) = wts l := by rw [List.take_of_length_le (Nat.le_refl _)]

/-- the cells of a list of records, one after the other -/
def flat (l : List rateClass) : List Value := l.flatMap rateClass.cells
theorem flat_nil : flat [] = [] := rfl
theorem flat_cons (s : rateClass) (l : List rateClass) : flat (s :: l) = s.cells ++ flat l := by simp [flat]
theorem flat_snoc (l : List rateClass) (s : rateClass) : flat (l ++ [s]) = flat l ++ s.cells := by simp [flat]
theorem flat_len (l : List rateClass) : (flat l).length = l.length * 2 := by
  induction l with
  | nil => rfl
  | cons s l ih => rw [flat_cons, List.length_append, ih]; simp [rateClass.cells]; omega
theorem flat_at : ∀ (l : List rateClass) (k : Nat) (s : rateClass), l[k]? = some s → ∀ j, j < 2 → (flat l)[k * 2 + j]? = s.cells[j]?
  | [], k, s, h, _, _ => by simp at h
  | r :: l, 0, s, h, j, hj => by
    obtain rfl : r = s := by simpa using h
    rw [flat_cons, List.getElem?_append_left (by simp [rateClass.cells]; omega)]; simp
  | r :: l, k + 1, s, h, j, hj => by
    rw [flat_cons, List.getElem?_append_right (by simp [rateClass.cells]; omega), show (k + 1) * 2 + j - r.cells.length = k * 2 + j by simp [rateClass.cells]; omega]
    exact flat_at l k s (by simpa using h) j hj
end Go.Proofs.Ytlljmgphgmklcaa.PrateClass

/- A record rateClass opened into its fields. No condition. -/
namespace Go.Proofs.Ytlljmgphgmklcaa.GoP
set_option linter.unusedVariables false
open Go.RowKit
def unrateClass {ρ : Type} (s : Go.Proofs.Ytlljmgphgmklcaa.PrateClass.rateClass) (f : Int → Int → Option ρ) : Option ρ := f s.zone s.grams
theorem unrateClass_hid {ρ : Type} {x0 : Int} {x1 : Int} {f : Int → Int → Option ρ} {r : ρ} (H : Hid (unrateClass ⟨x0, x1⟩ f = some r)) : Hid (f x0 x1 = some r) := H
end Go.Proofs.Ytlljmgphgmklcaa.GoP

/- loop.example/g01062/impl.classOf as a plain function, and the contract of the program's: where the plain one has an answer, the program has it. Conditions: slices read as lists. -/
namespace Go.Proofs.Ytlljmgphgmklcaa.GiClassOf
set_option linter.unusedVariables false
set_option linter.unusedSimpArgs false
open Go.RowKit
open Go.Proofs.Ytlljmgphgmklcaa.Rowed Go.Proofs.Ytlljmgphgmklcaa.Turn Go.Proofs.Ytlljmgphgmklcaa.Aid Go.Proofs.Ytlljmgphgmklcaa.GoP Go.Proofs.Ytlljmgphgmklcaa.GoM

def P (r_0 : Go.Proofs.Ytlljmgphgmklcaa.PRate.Rate) : Option (Go.Proofs.Ytlljmgphgmklcaa.PrateClass.rateClass) :=
  unRate r_0 fun (r_0_zone : Int) (r_0_grams : Int) (r_0_from_ : Int) (r_0_until_ : Int) (r_0_cents : Int) =>
  some (Go.Proofs.Ytlljmgphgmklcaa.PrateClass.rateClass.mk r_0_zone r_0_grams)

set_option maxRecDepth 100000 in
set_option maxHeartbeats 2000000 in
theorem C (r_0 : Go.Proofs.Ytlljmgphgmklcaa.PRate.Rate)   (w : World)   {r : Go.Proofs.Ytlljmgphgmklcaa.PrateClass.rateClass} (H : Hid (P r_0 = some r)) :
    Calls Try.prog 127 #[r_0.val] w (Gives ((Go.Proofs.Ytlljmgphgmklcaa.PrateClass.rateClass.val r)) w) := by
  have HB := Lib.hid (Below.refl w.heap.size w)
  unfold P at H
  obtain ⟨r_0_zone, r_0_grams, r_0_from_, r_0_until_, r_0_cents⟩ := r_0
  replace H := unRate_hid H
  unfold Go.Proofs.Ytlljmgphgmklcaa.PRate.Rate.val
  go_enter Try.func127, Try.ntmps127
  obtain ⟨w_r_0, hw_r_0⟩ : ∃ x, w.alloc (.cells #[.int .i64 r_0_zone, .int .i64 r_0_grams, .int .i64 r_0_from_, .int .i64 r_0_until_, .int .i64 r_0_cents] 104) = x := ⟨_, rfl⟩
  have bw_r_0 : Below w.heap.size w w_r_0 := by rw [← hw_r_0]; exact (Below.refl _ _).alloc (Nat.le_refl _) _
  have HBw_r_0 := Lib.hid (Below.step HB.out bw_r_0)
  clear bw_r_0
  have kr_0_0 : w_r_0.cell? ⟨w.heap.size, 0, none⟩ = some (.int .i64 r_0_zone) := by rw [← hw_r_0]; exact box_new _ _ _ 0 _ rfl
  have kr_0_1 : w_r_0.cell? ⟨w.heap.size, 1, none⟩ = some (.int .i64 r_0_grams) := by rw [← hw_r_0]; exact box_new _ _ _ 1 _ rfl
  have kr_0_2 : w_r_0.cell? ⟨w.heap.size, 2, none⟩ = some (.int .i64 r_0_from_) := by rw [← hw_r_0]; exact box_new _ _ _ 2 _ rfl
  have kr_0_3 : w_r_0.cell? ⟨w.heap.size, 3, none⟩ = some (.int .i64 r_0_until_) := by rw [← hw_r_0]; exact box_new _ _ _ 3 _ rfl
  have kr_0_4 : w_r_0.cell? ⟨w.heap.size, 4, none⟩ = some (.int .i64 r_0_cents) := by rw [← hw_r_0]; exact box_new _ _ _ 4 _ rfl
  obtain ⟨w_t_1, hw_t_1⟩ : ∃ x, w_r_0.alloc (.cells #[.int .i64 0, .int .i64 0] 141) = x := ⟨_, rfl⟩
  have bw_t_1 : Below w_r_0.heap.size w_r_0 w_t_1 := by rw [← hw_t_1]; exact (Below.refl _ _).alloc (Nat.le_refl _) _
  have Dt_1_r_0 := Lib.hid (apart_box kr_0_0)
  have HBw_t_1 := Lib.hid (Below.step HBw_r_0.out bw_t_1)
  have kr_0_0__120 := cell_below bw_t_1 kr_0_0
  have kr_0_1__121 := cell_below bw_t_1 kr_0_1
  have kr_0_2__122 := cell_below bw_t_1 kr_0_2
  have kr_0_3__123 := cell_below bw_t_1 kr_0_3
  have kr_0_4__124 := cell_below bw_t_1 kr_0_4
  clear bw_t_1
  have kt_1_0 : w_t_1.cell? ⟨w_r_0.heap.size, 0, none⟩ = some (.int .i64 0) := by rw [← hw_t_1]; exact box_new _ _ _ 0 _ rfl
  have kt_1_1 : w_t_1.cell? ⟨w_r_0.heap.size, 1, none⟩ = some (.int .i64 0) := by rw [← hw_t_1]; exact box_new _ _ _ 1 _ rfl
  have Ot_1 : Hid (w_t_1.ownsRow w.heap.size 141 2 (.slice (some ⟨w_r_0.heap.size, 0, none⟩) 1 1) 1 [.int .i64 0, .int .i64 0]) := Lib.hid (by rw [← hw_t_1]; exact own_laid (n := 1) HBw_r_0.out.size rfl rfl (by unfold maxLen; omega))
  obtain ⟨wb7_7, hwb7_7⟩ : ∃ x, ((w_t_1).setCell ⟨w_r_0.heap.size, 0, none⟩ (.int .i64 r_0_zone)).setCell ⟨w_r_0.heap.size, 1, none⟩ (.int .i64 r_0_grams) = x := ⟨_, rfl⟩
  have z0b7_7 := Ot_1.out.frozenAt 0
  have z1b7_7 := Ot_1.out.frozenAt 1
  have Sb7_7 := Lib.hid (own_stores [(0, .int .i64 r_0_zone), (1, .int .i64 r_0_grams)] Ot_1.out)
  have Pb7_7 : Hid (wb7_7.ownsRow w.heap.size 141 2 (.slice (some ⟨w_r_0.heap.size, 0, none⟩) 1 1) 1 [.int .i64 r_0_zone, .int .i64 r_0_grams]) := Lib.hid (by rw [← hwb7_7]; exact Sb7_7.out.1)
  have Gb7_7 : Hid (w_t_1.grownBy wb7_7 (Value.slice (some ⟨w_r_0.heap.size, 0, none⟩) 1 1).ownBlock) := Lib.hid (by rw [← hwb7_7]; exact Sb7_7.out.2)
  have HBwb7_7 := Lib.hid (HBw_t_1.out.grown Gb7_7.out HBw_t_1.out.size (fun q hq => (Ot_1.out.lt q hq).1))
  clear Sb7_7
  have kr_0_0__125 := cell_other kr_0_0__120 Gb7_7.out Dt_1_r_0.out
  have kr_0_1__126 := cell_other kr_0_1__121 Gb7_7.out Dt_1_r_0.out
  have kr_0_2__127 := cell_other kr_0_2__122 Gb7_7.out Dt_1_r_0.out
  have kr_0_3__128 := cell_other kr_0_3__123 Gb7_7.out Dt_1_r_0.out
  have kr_0_4__129 := cell_other kr_0_4__124 Gb7_7.out Dt_1_r_0.out
  clear Ot_1 Gb7_7
  have kt_1_0__130 : wb7_7.cell? ⟨w_r_0.heap.size, 0, none⟩ = some (.int .i64 r_0_zone) := Pb7_7.out.cells rfl 0 _ rfl
  have kt_1_1__131 : wb7_7.cell? ⟨w_r_0.heap.size, 1, none⟩ = some (.int .i64 r_0_grams) := Pb7_7.out.cells rfl 1 _ rfl
  cases ret_hid H
  go_wp2_with fail
  (try simp only [Exit.inBlock, Exit.then])
  refine bodyPost_ret (v := .agg #[.int .i64 r_0_zone, .int .i64 r_0_grams]) ?hr_ ?hd_ ?_
  case hd_ => rfl
  case hr_ => simp [results, Try.results127, kt_1_0__130, kt_1_1__131, go_sem]
  exact ⟨rfl, HBwb7_7.out⟩
end Go.Proofs.Ytlljmgphgmklcaa.GiClassOf

/- cmp.isNaN[int] as a plain function, and the contract of the program's: where the plain one has an answer, the program has it. Conditions: slices read as lists. -/
namespace Go.Proofs.Ytlljmgphgmklcaa.GxCmpIsNaNInt
set_option linter.unusedVariables false
set_option linter.unusedSimpArgs false
open Go.RowKit
open Go.Proofs.Ytlljmgphgmklcaa.Rowed Go.Proofs.Ytlljmgphgmklcaa.Turn Go.Proofs.Ytlljmgphgmklcaa.Aid Go.Proofs.Ytlljmgphgmklcaa.GoP Go.Proofs.Ytlljmgphgmklcaa.GoM

def P (x : Int) : Option (Bool) :=
  some false

set_option maxRecDepth 100000 in
set_option maxHeartbeats 2000000 in
theorem C (x : Int)   (w : World)   {r : Bool} (H : Hid (P x = some r)) :
    Calls Try.prog 163 #[.int .i64 x] w (Gives (.bool r) w) := by
  have HB := Lib.hid (Below.refl w.heap.size w)
  unfold P at H
  go_enter Try.func163, Try.ntmps163
  obtain rfl := ret_hid H
  go_wp2_with fail
  go_ret
  exact ⟨rfl, HB.out⟩

set_option maxRecDepth 100000 in
set_option maxHeartbeats 2000000 in
theorem C0 (x : Int)   (w : World)   {r : Bool} (H : Hid (P x = some r)) :
    Calls Try.prog 163 #[.int .i64 x] w (fun e w'' => e = .returned (.bool r) ∧ w'' = w) := by
  have HB := Lib.hid (Below.refl w.heap.size w)
  unfold P at H
  go_enter Try.func163, Try.ntmps163
  obtain rfl := ret_hid H
  go_wp2_with fail
  go_ret
  exact ⟨rfl, rfl⟩
end Go.Proofs.Ytlljmgphgmklcaa.GxCmpIsNaNInt

/- cmp.Compare[int] as a plain function, and the contract of the program's: where the plain one has an answer, the program has it. Conditions: slices read as lists. -/
namespace Go.Proofs.Ytlljmgphgmklcaa.GxCmpCompareInt
set_option linter.unusedVariables false
set_option linter.unusedSimpArgs false
open Go.RowKit
open Go.Proofs.Ytlljmgphgmklcaa.Rowed Go.Proofs.Ytlljmgphgmklcaa.Turn Go.Proofs.Ytlljmgphgmklcaa.Aid Go.Proofs.Ytlljmgphgmklcaa.GoP Go.Proofs.Ytlljmgphgmklcaa.GoM

def P (x : Int) (y : Int) : Option (Int) :=
  Option.bind (Go.Proofs.Ytlljmgphgmklcaa.GxCmpIsNaNInt.P x) fun (t_2 : Bool) =>
  Option.bind (Go.Proofs.Ytlljmgphgmklcaa.GxCmpIsNaNInt.P y) fun (t_5 : Bool) =>
  iteK t_2
  (iteK t_5
  (some 0)
  (some (-1)))
  (iteK t_5
  (some 1)
  (letK (decide (x < y)) fun (t_15 : Bool) =>
  iteK t_15
  (some (-1))
  (letK (decide (y < x)) fun (t_19 : Bool) =>
  iteK t_19
  (some 1)
  (some 0))))

set_option maxRecDepth 100000 in
set_option maxHeartbeats 2000000 in
theorem C (x : Int) (y : Int)   (w : World)   {r : Int} (H : Hid (P x y = some r)) :
    Calls Try.prog 161 #[.int .i64 x, .int .i64 y] w (Gives (.int .i64 r) w) := by
  have HB := Lib.hid (Below.refl w.heap.size w)
  unfold P at H
  go_enter Try.func161, Try.ntmps161
  replace H := bind_hid H
  obtain ⟨t_2, qt_2, H⟩ := H
  go_wp2_with fail
  go_at_call 163
  refine (Go.Proofs.Ytlljmgphgmklcaa.GxCmpIsNaNInt.C (x)  _    qt_2).mono ?_
  rintro e_t_2 wt_2 ⟨rfl, bt_2⟩
  have HBwt_2 := Lib.hid (Below.step HB.out bt_2)
  clear bt_2
  replace H := bind_hid H
  obtain ⟨t_5, qt_5, H⟩ := H
  go_wp2_with fail
  go_at_call 163
  refine (Go.Proofs.Ytlljmgphgmklcaa.GxCmpIsNaNInt.C (y)  _    qt_5).mono ?_
  rintro e_t_5 wt_5 ⟨rfl, bt_5⟩
  have HBwt_5 := Lib.hid (Below.step HBwt_2.out bt_5)
  clear bt_5
  cases t_2 with
  | false =>
    replace H := ite_f H
    cases t_5 with
    | false =>
      replace H := ite_f H
      replace H := let_hid H
      obtain ⟨t_15, ht_15, H⟩ := H
      cases t_15 with
      | false =>
        replace H := ite_f H
        replace H := let_hid H
        obtain ⟨t_19, ht_19, H⟩ := H
        cases t_19 with
        | false =>
          replace H := ite_f H
          obtain rfl := ret_hid H
          go_wp2_with fail
          go_ret
          exact ⟨rfl, HBwt_5.out⟩
        | true =>
          replace H := ite_t H
          obtain rfl := ret_hid H
          go_wp2_with fail
          go_ret
          exact ⟨rfl, HBwt_5.out⟩
      | true =>
        replace H := ite_t H
        obtain rfl := ret_hid H
        go_wp2_with fail
        go_ret
        exact ⟨rfl, HBwt_5.out⟩
    | true =>
      replace H := ite_t H
      obtain rfl := ret_hid H
      go_wp2_with fail
      go_ret
      exact ⟨rfl, HBwt_5.out⟩
  | true =>
    replace H := ite_t H
    cases t_5 with
    | false =>
      replace H := ite_f H
      obtain rfl := ret_hid H
      go_wp2_with fail
      go_ret
      exact ⟨rfl, HBwt_5.out⟩
    | true =>
      replace H := ite_t H
      obtain rfl := ret_hid H
      go_wp2_with fail
      go_ret
      exact ⟨rfl, HBwt_5.out⟩
end Go.Proofs.Ytlljmgphgmklcaa.GxCmpCompareInt

/- cmp.Or[int] as a plain function, and the contract of the program's: where the plain one has an answer, the program has it. Conditions: slices read as lists. -/
namespace Go.Proofs.Ytlljmgphgmklcaa.GxCmpOrInt
set_option linter.unusedVariables false
set_option linter.unusedSimpArgs false
open Go.RowKit
open Go.Proofs.Ytlljmgphgmklcaa.Rowed Go.Proofs.Ytlljmgphgmklcaa.Turn Go.Proofs.Ytlljmgphgmklcaa.Aid Go.Proofs.Ytlljmgphgmklcaa.GoP Go.Proofs.Ytlljmgphgmklcaa.GoM

def l0 (vals : (List Int)) (k0 : Nat) (s : Unit) (nx0 bk0 : Unit → Option (Int)) : Option (Int) :=
  
  Option.bind (idx vals (k0 : Int)) fun (yt_6 : Int) =>
  letK (yt_6 != 0) fun (t_11 : Bool) =>
  iteK t_11
  (some yt_6)
  (appK nx0 ())

def e0  (s : Unit) : Option (Int) :=
  
  some 0

def P (vals : (List Int)) : Option (Int) :=
  cntK (l0 vals) (vals.length) 0 () (e0 )

set_option maxRecDepth 100000 in
set_option maxHeartbeats 2000000 in
theorem C (vals : (List Int)) (A0 : Option Addr) (c0 : Nat)  (w : World) (M0 : Hid (Cells w 1 A0 vals.length (Go.Proofs.Ytlljmgphgmklcaa.HelpInt.iv vals))) (N0 : Hid (vals.length ≤ 9223372036854775807))  {r : Int} (H : Hid (P vals = some r)) :
    Calls Try.prog 160 #[.slice A0 vals.length c0] w (Gives (.int .i64 r) w) := by
  have HB := Lib.hid (Below.refl w.heap.size w)
  unfold P at H
  have N0o := N0.out
  go_enter Try.func160, Try.ntmps160
  go_wp2_with fail
  go_loopg [8] (vals.length) (fun m_ v8_ wr => ∃ (k0 : Nat) , k0 + m_ = vals.length ∧ v8_ = .int .i64 (k0 : Int) ∧ Hid (cntK (l0 vals) m_ k0 () (e0 ) = some r) ∧ Hid (Below w.heap.size w wr))
  case atStart => exact ⟨0, by omega, rfl, H, HB⟩
  case round =>
    obtain ⟨k0, hkm0, rfl, H, HBwr0⟩ := hrel
    rename World => wr0
    cases gk with
    | zero =>
      obtain rfl : k0 = vals.length := by omega
      have hc0 : decide (((vals.length : Nat) : Int) < ((vals.length : Nat) : Int)) = false := by simp
      replace H := cnt_zero H
      unfold e0 at H
      obtain rfl := ret_hid H
      go_wp2_with fail
      go_ret
      exact ⟨rfl, HBwr0.out⟩
    | succ m0 =>
      have hlt0 : k0 < vals.length := by omega
      have hc0 : decide ((k0 : Int) < ((vals.length : Nat) : Int)) = true := by simp; omega
      replace H := cnt_succ H
      unfold l0 at H
      replace H := idx_hid H
      obtain ⟨nt_6, yt_6, et_6, lt_6, gt_6, H⟩ := H
      obtain rfl : k0 = nt_6 := by omega
      clear et_6
      obtain ⟨ab_t_6, ao_t_6, zt_6, At_6, z_t_6, ct_6_0⟩ := Go.Proofs.Ytlljmgphgmklcaa.HelpInt.Ints.at_ M0.out lt_6
      obtain rfl := Option.some.inj (gt_6.out.symm.trans z_t_6)
      subst At_6
      have ltt_6 := cell_lt ct_6_0
      replace ct_6_0 := cell_below HBwr0.out ct_6_0
      clear z_t_6
      have b0t_6 : (0 : Int) ≤ (k0 : Int) := by omega
      have b1t_6 : (k0 : Int) < ((vals.length : Nat) : Int) := by omega
      have b2t_6 : ((k0 : Int)).toNat = k0 := by omega
      replace H := let_hid H
      obtain ⟨t_11, ht_11, H⟩ := H
      cases t_11 with
      | false =>
        replace H := ite_f H
        replace H := app_hid H
        go_wp2_with fail
        go_roundg m0
        case measure => omega
        case rel => exact ⟨k0 + 1, by omega, by go_num, H, HBwr0⟩
      | true =>
        replace H := ite_t H
        obtain rfl := ret_hid H
        go_wp2_with fail
        go_ret
        exact ⟨rfl, HBwr0.out⟩
end Go.Proofs.Ytlljmgphgmklcaa.GxCmpOrInt

