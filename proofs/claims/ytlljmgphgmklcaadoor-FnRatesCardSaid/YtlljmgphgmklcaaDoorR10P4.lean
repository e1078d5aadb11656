/- Texts on which the proofs of several laws stand, one behind the other (4 of 10). No condition of their own. -/
import Derived.Test.YtlljmgphgmklcaaDoorChecked
import Derived.Test.YtlljmgphgmklcaaDoorR10P1
import Derived.Test.YtlljmgphgmklcaaDoorR10P2
import Derived.Test.YtlljmgphgmklcaaDoorR10P3
import Derived.WalkKit
import Derived.WalkSpells
import Derived.WalkLawsBesides
import Derived.BigQuiet
import Derived.OwnWalk
import Derived.Deep.LoopGhost
import Derived.Deep.QuietTactic
import Derived.IntWalk
import Derived.Lib.QuietBelow
import Derived.Laws.StructEq
import Derived.ChangeKeysEq
import Derived.Deep.RegionHeld3
import Derived.Lib.SliceRun
import Derived.Lib.RowBridge
import Derived.Sort.EncStr
/- loop.example/g01062/spec.DrawRateSpans as a plain function, and the contract of the program's: where the plain one has an answer, the program has it. Conditions: slices read as lists. -/
namespace Go.Proofs.YtlljmgphgmklcaaDoor.GsDrawRateSpans
set_option linter.unusedVariables false
set_option linter.unusedSimpArgs false
open Go.RowKit
open Go.Proofs.YtlljmgphgmklcaaDoor.Rowed Go.Proofs.YtlljmgphgmklcaaDoor.Turn Go.Proofs.YtlljmgphgmklcaaDoor.Aid Go.Proofs.YtlljmgphgmklcaaDoor.GoP Go.Proofs.YtlljmgphgmklcaaDoor.GoM

def P (fuel : Nat) (tapes : List Int → Go.Proofs.YtlljmgphgmklcaaDoor.GoC.Tape) (code : (List Int)) : Option ((List Go.Proofs.YtlljmgphgmklcaaDoor.PRate.Rate) × Int × Int) :=
  letK (tapes code) fun (t_5 : Go.Proofs.YtlljmgphgmklcaaDoor.GoC.Tape) =>
  bind2 (Go.Proofs.YtlljmgphgmklcaaDoor.GsL1CurRates.P fuel t_5) fun (t_8 : (List Go.Proofs.YtlljmgphgmklcaaDoor.PRate.Rate)) (t_8_tp : Go.Proofs.YtlljmgphgmklcaaDoor.GoC.Tape) =>
  letK ([0, 0, 1, 2, 9, 10]) fun (t_10 : (List Int)) =>
  bind2 (Go.Proofs.YtlljmgphgmklcaaDoor.GsL1CurAmong.P t_8_tp t_10) fun (t_11 : Int) (t_11_tp : Go.Proofs.YtlljmgphgmklcaaDoor.GoC.Tape) =>
  letK ([1, 20, 21, 50, 51, 100, 101, 0]) fun (t_13 : (List Int)) =>
  bind2 (Go.Proofs.YtlljmgphgmklcaaDoor.GsL1CurAmong.P t_11_tp t_13) fun (t_14 : Int) (t_14_tp : Go.Proofs.YtlljmgphgmklcaaDoor.GoC.Tape) =>
  some (t_8, t_11, t_14)

set_option maxRecDepth 100000 in
set_option maxHeartbeats 2000000 in
theorem C (fuel : Nat) (tapes : List Int → Go.Proofs.YtlljmgphgmklcaaDoor.GoC.Tape) (code : (List Int)) (A0 : Option Addr) (c0 : Nat)  (w : World) (HE : Hid (Go.Proofs.YtlljmgphgmklcaaDoor.GoC.Tells tapes)) (M0 : Hid (Cells w 1 A0 code.length (Go.Proofs.YtlljmgphgmklcaaDoor.GoC.u8s code))) (N0 : Hid (code.length ≤ 9223372036854775807)) (V0 : Hid (∀ z ∈ code, 0 ≤ z ∧ z ≤ 255))  {r0 : (List Go.Proofs.YtlljmgphgmklcaaDoor.PRate.Rate)} {r1 : Int} {r2 : Int} (H : Hid (P fuel tapes code = some (r0, r1, r2))) :
    Calls Tryd.prog 5 #[.slice A0 code.length c0] w (fun e w' => ∃ A_r0 c_r0, e = .returned (.tuple #[.slice A_r0 r0.length c_r0, .int .i64 r1, .int .i64 r2]) ∧ w'.ownsRow w.heap.size 38 5 (.slice A_r0 r0.length c_r0) r0.length (Go.Proofs.YtlljmgphgmklcaaDoor.PRate.flat r0) ∧ Below w.heap.size w w') := by
  have HB := Lib.hid (Below.refl w.heap.size w)
  unfold P at H
  have N0o := N0.out
  go_enter Tryd.func5, Tryd.ntmps5
  replace H := let_hid H
  obtain ⟨t_5, ht_5, H⟩ := H
  obtain ⟨w_t_5, hw_t_5⟩ : ∃ x, w.alloc (.cells #[.slice A0 code.length c0, .int .i64 0, .int .u64 0] 46) = x := ⟨_, rfl⟩
  have bw_t_5 : Below w.heap.size w w_t_5 := by rw [← hw_t_5]; exact (Below.refl _ _).alloc (Nat.le_refl _) _
  have Kt_5 : Hid (Go.Proofs.YtlljmgphgmklcaaDoor.GoC.CurIs w_t_5 w.heap.size w.heap.size A0 c0 t_5) := Lib.hid (by rw [← hw_t_5, ← ht_5]; exact Go.Proofs.YtlljmgphgmklcaaDoor.GoC.cur_new HB.out.size (Cells.below M0.out HB.out) (fun a_ ha_ h0_ => by subst ha_; exact Go.Proofs.YtlljmgphgmklcaaDoor.GoC.cells_lt M0.out (by unfold Go.Proofs.YtlljmgphgmklcaaDoor.GoC.u8s; rw [List.length_map]; exact h0_)) (HE.out.2.2 code V0.out N0.out))
  have hht_5 := Lib.hid ht_5
  clear ht_5
  have HBw_t_5 := Lib.hid (Below.step HB.out bw_t_5)
  clear bw_t_5
  replace H := bind2_hid H
  obtain ⟨t_8, t_8_tp, qt_8, H⟩ := H
  go_wp2_with fail
  go_at_call 22
  refine (Go.Proofs.YtlljmgphgmklcaaDoor.GsL1CurRates.C fuel (t_5) (w.heap.size) (A0) (c0) (w.heap.size) _   Kt_5 qt_8).mono ?_
  rintro e_t_8 wt_8 ⟨At_8, ct_8, rfl, ot_8, kt_8, gt_8⟩
  have Dt_8_t_5 := Lib.hid (Go.Proofs.YtlljmgphgmklcaaDoor.GoC.apart_callcur ot_8 Kt_5.out)
  have Ot_8 := Lib.hid (own_lower ot_8 HBw_t_5.out.size)
  clear ot_8
  have Kt_8 := Lib.hid kt_8
  have Gt_8 : Hid (w_t_5.grownBy wt_8 (Value.slice (some ⟨w.heap.size, 0, none⟩) 1 1).ownBlock) := Lib.hid gt_8
  clear kt_8 gt_8
  have HBwt_8 := Lib.hid (Go.Proofs.YtlljmgphgmklcaaDoor.GoC.below_cur HBw_t_5.out Gt_8.out HBw_t_5.out.size (Go.Proofs.YtlljmgphgmklcaaDoor.GoC.cur_lt Kt_5.out).1)
  clear Kt_5 Gt_8
  replace H := let_hid H
  obtain ⟨t_10, ht_10, H⟩ := H
  obtain ⟨w_t_10, hw_t_10⟩ : ∃ x, wt_8.alloc (.cells #[.int .i64 0, .int .i64 0, .int .i64 1, .int .i64 2, .int .i64 9, .int .i64 10] 3) = x := ⟨_, rfl⟩
  have bw_t_10 : Below wt_8.heap.size wt_8 w_t_10 := by rw [← hw_t_10]; exact (Below.refl _ _).alloc (Nat.le_refl _) _
  have hs_t_10 := HBwt_8.out.size
  have nt_10 : t_10.length = 6 := by rw [← ht_10]; rfl
  have Ot_10 : Hid (w_t_10.ownsRow w.heap.size 3 1 (.slice (some ⟨wt_8.heap.size, 0, none⟩) 6 6) 6 (Go.Proofs.YtlljmgphgmklcaaDoor.HelpInt.iv t_10)) := by
    rw [← hw_t_10, ← ht_10]
    have e_ : ([.int .i64 0, .int .i64 0, .int .i64 1, .int .i64 2, .int .i64 9, .int .i64 10] : List Value) = (Go.Proofs.YtlljmgphgmklcaaDoor.HelpInt.iv ([0, 0, 1, 2, 9, 10] : List Int)) := rfl
    exact Lib.hid (own_laid (n := 6) hs_t_10 e_ rfl (by unfold maxLen; omega))
  clear hs_t_10
  have hht_10 := Lib.hid ht_10
  clear ht_10
  replace nt_10 := Lib.hid nt_10
  have Dt_10_t_8 := Lib.hid (apart_fresh Ot_8.out)
  have Dt_10_t_5 := Lib.hid (Go.Proofs.YtlljmgphgmklcaaDoor.GoC.apart_cur Kt_8.out)
  have HBw_t_10 := Lib.hid (Below.step HBwt_8.out bw_t_10)
  replace Ot_8 := Lib.hid (own_below Ot_8.out bw_t_10)
  replace Kt_8 := Lib.hid (Go.Proofs.YtlljmgphgmklcaaDoor.GoC.cur_below Kt_8.out bw_t_10)
  clear bw_t_10
  replace H := bind2_hid H
  obtain ⟨t_11, t_11_tp, qt_11, H⟩ := H
  go_wp2_with fail
  have hc_ := nt_10.out
  have hv_ : (Value.slice (some ⟨wt_8.heap.size, 0, none⟩) 6 6 : Value) = Value.slice (some ⟨wt_8.heap.size, 0, none⟩) t_10.length 6 := by rw [hc_]
  try rw [hv_]
  replace Ot_10 := Lib.hid (own_len hc_ Ot_10.out)
  clear hc_ hv_
  go_wp2_with fail
  go_at_call 23
  refine (Go.Proofs.YtlljmgphgmklcaaDoor.GsL1CurAmong.C (t_8_tp) (t_10) (some ⟨wt_8.heap.size, 0, none⟩) 6 (w.heap.size) (A0) (c0) (w.heap.size) _   (Lib.hid (own_cells Ot_10.out)) (Lib.hid (own_max Ot_10.out)) Kt_8 (Lib.hid (fun _ => Dt_10_t_5.out)) qt_11).mono ?_
  rintro e_t_11 wt_11 ⟨rfl, kt_11, gt_11⟩
  have Kt_11 := Lib.hid kt_11
  have Gt_11 : Hid (w_t_10.grownBy wt_11 (Value.slice (some ⟨w.heap.size, 0, none⟩) 1 1).ownBlock) := Lib.hid gt_11
  clear kt_11 gt_11
  have HBwt_11 := Lib.hid (Go.Proofs.YtlljmgphgmklcaaDoor.GoC.below_cur HBw_t_10.out Gt_11.out HBw_t_10.out.size (Go.Proofs.YtlljmgphgmklcaaDoor.GoC.cur_lt Kt_8.out).1)
  replace Ot_8 := Lib.hid (own_other Ot_8.out Gt_11.out (Apart.symm Dt_8_t_5.out))
  replace Ot_10 := Lib.hid (own_other Ot_10.out Gt_11.out (Apart.symm Dt_10_t_5.out))
  clear Kt_8 Gt_11
  replace H := let_hid H
  obtain ⟨t_13, ht_13, H⟩ := H
  obtain ⟨w_t_13, hw_t_13⟩ : ∃ x, wt_11.alloc (.cells #[.int .i64 1, .int .i64 20, .int .i64 21, .int .i64 50, .int .i64 51, .int .i64 100, .int .i64 101, .int .i64 0] 3) = x := ⟨_, rfl⟩
  have bw_t_13 : Below wt_11.heap.size wt_11 w_t_13 := by rw [← hw_t_13]; exact (Below.refl _ _).alloc (Nat.le_refl _) _
  have hs_t_13 := HBwt_11.out.size
  have nt_13 : t_13.length = 8 := by rw [← ht_13]; rfl
  have Ot_13 : Hid (w_t_13.ownsRow w.heap.size 3 1 (.slice (some ⟨wt_11.heap.size, 0, none⟩) 8 8) 8 (Go.Proofs.YtlljmgphgmklcaaDoor.HelpInt.iv t_13)) := by
    rw [← hw_t_13, ← ht_13]
    have e_ : ([.int .i64 1, .int .i64 20, .int .i64 21, .int .i64 50, .int .i64 51, .int .i64 100, .int .i64 101, .int .i64 0] : List Value) = (Go.Proofs.YtlljmgphgmklcaaDoor.HelpInt.iv ([1, 20, 21, 50, 51, 100, 101, 0] : List Int)) := rfl
    exact Lib.hid (own_laid (n := 8) hs_t_13 e_ rfl (by unfold maxLen; omega))
  clear hs_t_13
  have hht_13 := Lib.hid ht_13
  clear ht_13
  replace nt_13 := Lib.hid nt_13
  have Dt_13_t_8 := Lib.hid (apart_fresh Ot_8.out)
  have Dt_13_t_10 := Lib.hid (apart_fresh Ot_10.out)
  have Dt_13_t_5 := Lib.hid (Go.Proofs.YtlljmgphgmklcaaDoor.GoC.apart_cur Kt_11.out)
  have HBw_t_13 := Lib.hid (Below.step HBwt_11.out bw_t_13)
  replace Ot_8 := Lib.hid (own_below Ot_8.out bw_t_13)
  replace Ot_10 := Lib.hid (own_below Ot_10.out bw_t_13)
  replace Kt_11 := Lib.hid (Go.Proofs.YtlljmgphgmklcaaDoor.GoC.cur_below Kt_11.out bw_t_13)
  clear bw_t_13
  replace H := bind2_hid H
  obtain ⟨t_14, t_14_tp, qt_14, H⟩ := H
  go_wp2_with fail
  have hc_ := nt_13.out
  have hv_ : (Value.slice (some ⟨wt_11.heap.size, 0, none⟩) 8 8 : Value) = Value.slice (some ⟨wt_11.heap.size, 0, none⟩) t_13.length 8 := by rw [hc_]
  try rw [hv_]
  replace Ot_13 := Lib.hid (own_len hc_ Ot_13.out)
  clear hc_ hv_
  go_wp2_with fail
  go_at_call 23
  refine (Go.Proofs.YtlljmgphgmklcaaDoor.GsL1CurAmong.C (t_11_tp) (t_13) (some ⟨wt_11.heap.size, 0, none⟩) 8 (w.heap.size) (A0) (c0) (w.heap.size) _   (Lib.hid (own_cells Ot_13.out)) (Lib.hid (own_max Ot_13.out)) Kt_11 (Lib.hid (fun _ => Dt_13_t_5.out)) qt_14).mono ?_
  rintro e_t_14 wt_14 ⟨rfl, kt_14, gt_14⟩
  have Kt_14 := Lib.hid kt_14
  have Gt_14 : Hid (w_t_13.grownBy wt_14 (Value.slice (some ⟨w.heap.size, 0, none⟩) 1 1).ownBlock) := Lib.hid gt_14
  clear kt_14 gt_14
  have HBwt_14 := Lib.hid (Go.Proofs.YtlljmgphgmklcaaDoor.GoC.below_cur HBw_t_13.out Gt_14.out HBw_t_13.out.size (Go.Proofs.YtlljmgphgmklcaaDoor.GoC.cur_lt Kt_11.out).1)
  replace Ot_8 := Lib.hid (own_other Ot_8.out Gt_14.out (Apart.symm Dt_8_t_5.out))
  replace Ot_10 := Lib.hid (own_other Ot_10.out Gt_14.out (Apart.symm Dt_10_t_5.out))
  replace Ot_13 := Lib.hid (own_other Ot_13.out Gt_14.out (Apart.symm Dt_13_t_5.out))
  clear Kt_11 Gt_14
  cases ret_hid H
  go_wp2_with fail
  go_ret3
  exact ⟨At_8, ct_8, rfl, Ot_8.out, HBwt_14.out⟩
end Go.Proofs.YtlljmgphgmklcaaDoor.GsDrawRateSpans

/- loop.example/g01062/impl.within as a plain function, and the contract of the program's: where the plain one has an answer, the program has it. Conditions: slices read as lists. -/
namespace Go.Proofs.YtlljmgphgmklcaaDoor.GiWithin
set_option linter.unusedVariables false
set_option linter.unusedSimpArgs false
open Go.RowKit
open Go.Proofs.YtlljmgphgmklcaaDoor.Rowed Go.Proofs.YtlljmgphgmklcaaDoor.Turn Go.Proofs.YtlljmgphgmklcaaDoor.Aid Go.Proofs.YtlljmgphgmklcaaDoor.GoP Go.Proofs.YtlljmgphgmklcaaDoor.GoM

def P (n_0 : Int) (low : Int) (high : Int) : Option (Bool) :=
  letK (decide (low ≤ n_0)) fun (t_3 : Bool) =>
  joinK (fun (t_8 : Bool) =>
  some t_8) fun jt_8 => iteK t_3 (letK (decide (n_0 ≤ high)) fun (t_7 : Bool) =>
  appK jt_8 t_7) (appK jt_8 false)

set_option maxRecDepth 100000 in
set_option maxHeartbeats 2000000 in
theorem C (n_0 : Int) (low : Int) (high : Int)   (w : World)   {r : Bool} (H : Hid (P n_0 low high = some r)) :
    Calls Tryd.prog 37 #[.int .i64 n_0, .int .i64 low, .int .i64 high] w (Gives (.bool r) w) := by
  have HB := Lib.hid (Below.refl w.heap.size w)
  unfold P at H
  go_enter Tryd.func37, Tryd.ntmps37
  replace H := let_hid H
  obtain ⟨t_3, ht_3, H⟩ := H
  replace H := join_hid H
  cases t_3 with
  | false =>
    replace H := ite_f H
    replace H := app_hid H
    obtain rfl := ret_hid H
    go_wp2_with fail
    go_ret
    exact ⟨rfl, HB.out⟩
  | true =>
    replace H := ite_t H
    replace H := let_hid H
    obtain ⟨t_7, ht_7, H⟩ := H
    replace H := app_hid H
    obtain rfl := ret_hid H
    go_wp2_with fail
    go_ret
    exact ⟨rfl, HB.out⟩

set_option maxRecDepth 100000 in
set_option maxHeartbeats 2000000 in
theorem C0 (n_0 : Int) (low : Int) (high : Int)   (w : World)   {r : Bool} (H : Hid (P n_0 low high = some r)) :
    Calls Tryd.prog 37 #[.int .i64 n_0, .int .i64 low, .int .i64 high] w (fun e w'' => e = .returned (.bool r) ∧ w'' = w) := by
  have HB := Lib.hid (Below.refl w.heap.size w)
  unfold P at H
  go_enter Tryd.func37, Tryd.ntmps37
  replace H := let_hid H
  obtain ⟨t_3, ht_3, H⟩ := H
  replace H := join_hid H
  cases t_3 with
  | false =>
    replace H := ite_f H
    replace H := app_hid H
    obtain rfl := ret_hid H
    go_wp2_with fail
    go_ret
    exact ⟨rfl, rfl⟩
  | true =>
    replace H := ite_t H
    replace H := let_hid H
    obtain ⟨t_7, ht_7, H⟩ := H
    replace H := app_hid H
    obtain rfl := ret_hid H
    go_wp2_with fail
    go_ret
    exact ⟨rfl, rfl⟩
end Go.Proofs.YtlljmgphgmklcaaDoor.GiWithin

/- loop.example/g01062/impl.isZone as a plain function, and the contract of the program's: where the plain one has an answer, the program has it. Conditions: slices read as lists. -/
namespace Go.Proofs.YtlljmgphgmklcaaDoor.GiIsZone
set_option linter.unusedVariables false
set_option linter.unusedSimpArgs false
open Go.RowKit
open Go.Proofs.YtlljmgphgmklcaaDoor.Rowed Go.Proofs.YtlljmgphgmklcaaDoor.Turn Go.Proofs.YtlljmgphgmklcaaDoor.Aid Go.Proofs.YtlljmgphgmklcaaDoor.GoP Go.Proofs.YtlljmgphgmklcaaDoor.GoM

def P (zone : Int) : Option (Bool) :=
  Option.bind (Go.Proofs.YtlljmgphgmklcaaDoor.GiWithin.P zone 0 9) fun (t_2 : Bool) =>
  some t_2

set_option maxRecDepth 100000 in
set_option maxHeartbeats 2000000 in
theorem C (zone : Int)   (w : World)   {r : Bool} (H : Hid (P zone = some r)) :
    Calls Tryd.prog 35 #[.int .i64 zone] w (Gives (.bool r) w) := by
  have HB := Lib.hid (Below.refl w.heap.size w)
  unfold P at H
  go_enter Tryd.func35, Tryd.ntmps35
  replace H := bind_hid H
  obtain ⟨t_2, qt_2, H⟩ := H
  go_wp2_with fail
  go_at_call 37
  refine (Go.Proofs.YtlljmgphgmklcaaDoor.GiWithin.C (zone) (0) (9)  _    qt_2).mono ?_
  rintro e_t_2 wt_2 ⟨rfl, bt_2⟩
  have HBwt_2 := Lib.hid (Below.step HB.out bt_2)
  clear bt_2
  obtain rfl := ret_hid H
  go_wp2_with fail
  go_ret
  exact ⟨rfl, HBwt_2.out⟩
end Go.Proofs.YtlljmgphgmklcaaDoor.GiIsZone

/- loop.example/g01062/impl.isWeight as a plain function, and the contract of the program's: where the plain one has an answer, the program has it. Conditions: slices read as lists. -/
namespace Go.Proofs.YtlljmgphgmklcaaDoor.GiIsWeight
set_option linter.unusedVariables false
set_option linter.unusedSimpArgs false
open Go.RowKit
open Go.Proofs.YtlljmgphgmklcaaDoor.Rowed Go.Proofs.YtlljmgphgmklcaaDoor.Turn Go.Proofs.YtlljmgphgmklcaaDoor.Aid Go.Proofs.YtlljmgphgmklcaaDoor.GoP Go.Proofs.YtlljmgphgmklcaaDoor.GoM

def P (grams : Int) : Option (Bool) :=
  Option.bind (Go.Proofs.YtlljmgphgmklcaaDoor.GiWithin.P grams 1 2000) fun (t_2 : Bool) =>
  some t_2

set_option maxRecDepth 100000 in
set_option maxHeartbeats 2000000 in
theorem C (grams : Int)   (w : World)   {r : Bool} (H : Hid (P grams = some r)) :
    Calls Tryd.prog 42 #[.int .i64 grams] w (Gives (.bool r) w) := by
  have HB := Lib.hid (Below.refl w.heap.size w)
  unfold P at H
  go_enter Tryd.func42, Tryd.ntmps42
  replace H := bind_hid H
  obtain ⟨t_2, qt_2, H⟩ := H
  go_wp2_with fail
  go_at_call 37
  refine (Go.Proofs.YtlljmgphgmklcaaDoor.GiWithin.C (grams) (1) (2000)  _    qt_2).mono ?_
  rintro e_t_2 wt_2 ⟨rfl, bt_2⟩
  have HBwt_2 := Lib.hid (Below.step HB.out bt_2)
  clear bt_2
  obtain rfl := ret_hid H
  go_wp2_with fail
  go_ret
  exact ⟨rfl, HBwt_2.out⟩
end Go.Proofs.YtlljmgphgmklcaaDoor.GiIsWeight

/- loop.example/g01062/impl.isRateCents as a plain function, and the contract of the program's: where the plain one has an answer, the program has it. Conditions: slices read as lists. -/
namespace Go.Proofs.YtlljmgphgmklcaaDoor.GiIsRateCents
set_option linter.unusedVariables false
set_option linter.unusedSimpArgs false
open Go.RowKit
open Go.Proofs.YtlljmgphgmklcaaDoor.Rowed Go.Proofs.YtlljmgphgmklcaaDoor.Turn Go.Proofs.YtlljmgphgmklcaaDoor.Aid Go.Proofs.YtlljmgphgmklcaaDoor.GoP Go.Proofs.YtlljmgphgmklcaaDoor.GoM

def P (cents : Int) : Option (Bool) :=
  Option.bind (Go.Proofs.YtlljmgphgmklcaaDoor.GiWithin.P cents 1 9999) fun (t_2 : Bool) =>
  some t_2

set_option maxRecDepth 100000 in
set_option maxHeartbeats 2000000 in
theorem C (cents : Int)   (w : World)   {r : Bool} (H : Hid (P cents = some r)) :
    Calls Tryd.prog 36 #[.int .i64 cents] w (Gives (.bool r) w) := by
  have HB := Lib.hid (Below.refl w.heap.size w)
  unfold P at H
  go_enter Tryd.func36, Tryd.ntmps36
  replace H := bind_hid H
  obtain ⟨t_2, qt_2, H⟩ := H
  go_wp2_with fail
  go_at_call 37
  refine (Go.Proofs.YtlljmgphgmklcaaDoor.GiWithin.C (cents) (1) (9999)  _    qt_2).mono ?_
  rintro e_t_2 wt_2 ⟨rfl, bt_2⟩
  have HBwt_2 := Lib.hid (Below.step HB.out bt_2)
  clear bt_2
  obtain rfl := ret_hid H
  go_wp2_with fail
  go_ret
  exact ⟨rfl, HBwt_2.out⟩
end Go.Proofs.YtlljmgphgmklcaaDoor.GiIsRateCents

/- loop.example/g01062/impl.isDay as a plain function, and the contract of the program's: where the plain one has an answer, the program has it. Conditions: slices read as lists. -/
namespace Go.Proofs.YtlljmgphgmklcaaDoor.GiIsDay
set_option linter.unusedVariables false
set_option linter.unusedSimpArgs false
open Go.RowKit
open Go.Proofs.YtlljmgphgmklcaaDoor.Rowed Go.Proofs.YtlljmgphgmklcaaDoor.Turn Go.Proofs.YtlljmgphgmklcaaDoor.Aid Go.Proofs.YtlljmgphgmklcaaDoor.GoP Go.Proofs.YtlljmgphgmklcaaDoor.GoM

def P (day : Int) : Option (Bool) :=
  Option.bind (Go.Proofs.YtlljmgphgmklcaaDoor.GiWithin.P day 0 4000) fun (t_2 : Bool) =>
  some t_2

set_option maxRecDepth 100000 in
set_option maxHeartbeats 2000000 in
theorem C (day : Int)   (w : World)   {r : Bool} (H : Hid (P day = some r)) :
    Calls Tryd.prog 31 #[.int .i64 day] w (Gives (.bool r) w) := by
  have HB := Lib.hid (Below.refl w.heap.size w)
  unfold P at H
  go_enter Tryd.func31, Tryd.ntmps31
  replace H := bind_hid H
  obtain ⟨t_2, qt_2, H⟩ := H
  go_wp2_with fail
  go_at_call 37
  refine (Go.Proofs.YtlljmgphgmklcaaDoor.GiWithin.C (day) (0) (4000)  _    qt_2).mono ?_
  rintro e_t_2 wt_2 ⟨rfl, bt_2⟩
  have HBwt_2 := Lib.hid (Below.step HB.out bt_2)
  clear bt_2
  obtain rfl := ret_hid H
  go_wp2_with fail
  go_ret
  exact ⟨rfl, HBwt_2.out⟩
end Go.Proofs.YtlljmgphgmklcaaDoor.GiIsDay

/- loop.example/g01062/impl.IsRate as a plain function, and the contract of the program's: where the plain one has an answer, the program has it. Conditions: slices read as lists. -/
namespace Go.Proofs.YtlljmgphgmklcaaDoor.GiIsRate
set_option linter.unusedVariables false
set_option linter.unusedSimpArgs false
open Go.RowKit
open Go.Proofs.YtlljmgphgmklcaaDoor.Rowed Go.Proofs.YtlljmgphgmklcaaDoor.Turn Go.Proofs.YtlljmgphgmklcaaDoor.Aid Go.Proofs.YtlljmgphgmklcaaDoor.GoP Go.Proofs.YtlljmgphgmklcaaDoor.GoM

def P (r_0 : Go.Proofs.YtlljmgphgmklcaaDoor.PRate.Rate) : Option (Bool) :=
  unRate r_0 fun (r_0_zone : Int) (r_0_grams : Int) (r_0_from_ : Int) (r_0_until_ : Int) (r_0_cents : Int) =>
  Option.bind (Go.Proofs.YtlljmgphgmklcaaDoor.GiIsZone.P r_0_zone) fun (t_4 : Bool) =>
  joinK (fun (t_9 : Bool) =>
  joinK (fun (t_14 : Bool) =>
  joinK (fun (t_19 : Bool) =>
  joinK (fun (t_24 : Bool) =>
  joinK (fun (t_31 : Bool) =>
  some t_31) fun jt_31 => iteK t_24 (letK (decide (r_0_from_ ≤ r_0_until_)) fun (t_30 : Bool) =>
  appK jt_31 t_30) (appK jt_31 false)) fun jt_24 => iteK t_19 (Option.bind (Go.Proofs.YtlljmgphgmklcaaDoor.GiIsDay.P r_0_until_) fun (t_23 : Bool) =>
  appK jt_24 t_23) (appK jt_24 false)) fun jt_19 => iteK t_14 (Option.bind (Go.Proofs.YtlljmgphgmklcaaDoor.GiIsDay.P r_0_from_) fun (t_18 : Bool) =>
  appK jt_19 t_18) (appK jt_19 false)) fun jt_14 => iteK t_9 (Option.bind (Go.Proofs.YtlljmgphgmklcaaDoor.GiIsRateCents.P r_0_cents) fun (t_13 : Bool) =>
  appK jt_14 t_13) (appK jt_14 false)) fun jt_9 => iteK t_4 (Option.bind (Go.Proofs.YtlljmgphgmklcaaDoor.GiIsWeight.P r_0_grams) fun (t_8 : Bool) =>
  appK jt_9 t_8) (appK jt_9 false)

set_option maxRecDepth 100000 in
set_option maxHeartbeats 2000000 in
theorem C (r_0 : Go.Proofs.YtlljmgphgmklcaaDoor.PRate.Rate)   (w : World)   {r : Bool} (H : Hid (P r_0 = some r)) :
    Calls Tryd.prog 21 #[r_0.val] w (Gives (.bool r) w) := by
  have HB := Lib.hid (Below.refl w.heap.size w)
  unfold P at H
  obtain ⟨r_0_zone, r_0_grams, r_0_from_, r_0_until_, r_0_cents⟩ := r_0
  replace H := unRate_hid H
  unfold Go.Proofs.YtlljmgphgmklcaaDoor.PRate.Rate.val
  go_enter Tryd.func21, Tryd.ntmps21
  obtain ⟨w_r_0, hw_r_0⟩ : ∃ x, w.alloc (.cells #[.int .i64 r_0_zone, .int .i64 r_0_grams, .int .i64 r_0_from_, .int .i64 r_0_until_, .int .i64 r_0_cents] 38) = x := ⟨_, rfl⟩
  have bw_r_0 : Below w.heap.size w w_r_0 := by rw [← hw_r_0]; exact (Below.refl _ _).alloc (Nat.le_refl _) _
  have HBw_r_0 := Lib.hid (Below.step HB.out bw_r_0)
  clear bw_r_0
  have kr_0_0 : w_r_0.cell? ⟨w.heap.size, 0, none⟩ = some (.int .i64 r_0_zone) := by rw [← hw_r_0]; exact box_new _ _ _ 0 _ rfl
  have kr_0_1 : w_r_0.cell? ⟨w.heap.size, 1, none⟩ = some (.int .i64 r_0_grams) := by rw [← hw_r_0]; exact box_new _ _ _ 1 _ rfl
  have kr_0_2 : w_r_0.cell? ⟨w.heap.size, 2, none⟩ = some (.int .i64 r_0_from_) := by rw [← hw_r_0]; exact box_new _ _ _ 2 _ rfl
  have kr_0_3 : w_r_0.cell? ⟨w.heap.size, 3, none⟩ = some (.int .i64 r_0_until_) := by rw [← hw_r_0]; exact box_new _ _ _ 3 _ rfl
  have kr_0_4 : w_r_0.cell? ⟨w.heap.size, 4, none⟩ = some (.int .i64 r_0_cents) := by rw [← hw_r_0]; exact box_new _ _ _ 4 _ rfl
  replace H := bind_hid H
  obtain ⟨t_4, qt_4, H⟩ := H
  go_wp2_with fail
  go_at_call 35
  refine (Go.Proofs.YtlljmgphgmklcaaDoor.GiIsZone.C (r_0_zone)  _    qt_4).mono ?_
  rintro e_t_4 wt_4 ⟨rfl, bt_4⟩
  have HBwt_4 := Lib.hid (Below.step HBw_r_0.out bt_4)
  replace kr_0_0 := cell_below bt_4 kr_0_0
  replace kr_0_1 := cell_below bt_4 kr_0_1
  replace kr_0_2 := cell_below bt_4 kr_0_2
  replace kr_0_3 := cell_below bt_4 kr_0_3
  replace kr_0_4 := cell_below bt_4 kr_0_4
  clear bt_4
  replace H := join_hid H
  cases t_4 with
  | false =>
    replace H := ite_f H
    replace H := app_hid H
    replace H := join_hid H
    replace H := ite_f H
    replace H := app_hid H
    replace H := join_hid H
    replace H := ite_f H
    replace H := app_hid H
    replace H := join_hid H
    replace H := ite_f H
    replace H := app_hid H
    replace H := join_hid H
    replace H := ite_f H
    replace H := app_hid H
    obtain rfl := ret_hid H
    go_wp2_with fail
    go_ret
    exact ⟨rfl, HBwt_4.out⟩
  | true =>
    replace H := ite_t H
    replace H := bind_hid H
    obtain ⟨t_8, qt_8, H⟩ := H
    go_wp2_with fail
    go_at_call 42
    refine (Go.Proofs.YtlljmgphgmklcaaDoor.GiIsWeight.C (r_0_grams)  _    qt_8).mono ?_
    rintro e_t_8 wt_8 ⟨rfl, bt_8⟩
    have HBwt_8 := Lib.hid (Below.step HBwt_4.out bt_8)
    replace kr_0_0 := cell_below bt_8 kr_0_0
    replace kr_0_1 := cell_below bt_8 kr_0_1
    replace kr_0_2 := cell_below bt_8 kr_0_2
    replace kr_0_3 := cell_below bt_8 kr_0_3
    replace kr_0_4 := cell_below bt_8 kr_0_4
    clear bt_8
    replace H := app_hid H
    replace H := join_hid H
    cases t_8 with
    | false =>
      replace H := ite_f H
      replace H := app_hid H
      replace H := join_hid H
      replace H := ite_f H
      replace H := app_hid H
      replace H := join_hid H
      replace H := ite_f H
      replace H := app_hid H
      replace H := join_hid H
      replace H := ite_f H
      replace H := app_hid H
      obtain rfl := ret_hid H
      go_wp2_with fail
      go_ret
      exact ⟨rfl, HBwt_8.out⟩
    | true =>
      replace H := ite_t H
      replace H := bind_hid H
      obtain ⟨t_13, qt_13, H⟩ := H
      go_wp2_with fail
      go_at_call 36
      refine (Go.Proofs.YtlljmgphgmklcaaDoor.GiIsRateCents.C (r_0_cents)  _    qt_13).mono ?_
      rintro e_t_13 wt_13 ⟨rfl, bt_13⟩
      have HBwt_13 := Lib.hid (Below.step HBwt_8.out bt_13)
      replace kr_0_0 := cell_below bt_13 kr_0_0
      replace kr_0_1 := cell_below bt_13 kr_0_1
      replace kr_0_2 := cell_below bt_13 kr_0_2
      replace kr_0_3 := cell_below bt_13 kr_0_3
      replace kr_0_4 := cell_below bt_13 kr_0_4
      clear bt_13
      replace H := app_hid H
      replace H := join_hid H
      cases t_13 with
      | false =>
        replace H := ite_f H
        replace H := app_hid H
        replace H := join_hid H
        replace H := ite_f H
        replace H := app_hid H
        replace H := join_hid H
        replace H := ite_f H
        replace H := app_hid H
        obtain rfl := ret_hid H
        go_wp2_with fail
        go_ret
        exact ⟨rfl, HBwt_13.out⟩
      | true =>
        replace H := ite_t H
        replace H := bind_hid H
        obtain ⟨t_18, qt_18, H⟩ := H
        go_wp2_with fail
        go_at_call 31
        refine (Go.Proofs.YtlljmgphgmklcaaDoor.GiIsDay.C (r_0_from_)  _    qt_18).mono ?_
        rintro e_t_18 wt_18 ⟨rfl, bt_18⟩
        have HBwt_18 := Lib.hid (Below.step HBwt_13.out bt_18)
        replace kr_0_0 := cell_below bt_18 kr_0_0
        replace kr_0_1 := cell_below bt_18 kr_0_1
        replace kr_0_2 := cell_below bt_18 kr_0_2
        replace kr_0_3 := cell_below bt_18 kr_0_3
        replace kr_0_4 := cell_below bt_18 kr_0_4
        clear bt_18
        replace H := app_hid H
        replace H := join_hid H
        cases t_18 with
        | false =>
          replace H := ite_f H
          replace H := app_hid H
          replace H := join_hid H
          replace H := ite_f H
          replace H := app_hid H
          obtain rfl := ret_hid H
          go_wp2_with fail
          go_ret
          exact ⟨rfl, HBwt_18.out⟩
        | true =>
          replace H := ite_t H
          replace H := bind_hid H
          obtain ⟨t_23, qt_23, H⟩ := H
          go_wp2_with fail
          go_at_call 31
          refine (Go.Proofs.YtlljmgphgmklcaaDoor.GiIsDay.C (r_0_until_)  _    qt_23).mono ?_
          rintro e_t_23 wt_23 ⟨rfl, bt_23⟩
          have HBwt_23 := Lib.hid (Below.step HBwt_18.out bt_23)
          replace kr_0_0 := cell_below bt_23 kr_0_0
          replace kr_0_1 := cell_below bt_23 kr_0_1
          replace kr_0_2 := cell_below bt_23 kr_0_2
          replace kr_0_3 := cell_below bt_23 kr_0_3
          replace kr_0_4 := cell_below bt_23 kr_0_4
          clear bt_23
          replace H := app_hid H
          replace H := join_hid H
          cases t_23 with
          | false =>
            replace H := ite_f H
            replace H := app_hid H
            obtain rfl := ret_hid H
            go_wp2_with fail
            go_ret
            exact ⟨rfl, HBwt_23.out⟩
          | true =>
            replace H := ite_t H
            replace H := let_hid H
            obtain ⟨t_30, ht_30, H⟩ := H
            replace H := app_hid H
            obtain rfl := ret_hid H
            go_wp2_with fail
            go_ret
            exact ⟨rfl, HBwt_23.out⟩
end Go.Proofs.YtlljmgphgmklcaaDoor.GiIsRate

/- Plain words on the record rateClass: its fields, its cells, a list of it as cells one after the other. No condition. -/
namespace Go.Proofs.YtlljmgphgmklcaaDoor.PrateClass
set_option linter.unusedVariables false
set_option maxRecDepth 100000

structure rateClass where
  zone : Int
  grams : Int
def rateClass.cells (s : rateClass) : List Value := [.int .i64 s.zone, .int .i64 s.grams]
def rateClass.val (s : rateClass) : Value := .agg #[.int .i64 s.zone, .int .i64 s.grams]
/-- each field fits -/
def rateClass.fits (s : rateClass) : Prop := (Lit.int .i64 s.zone).wf = true ∧ (Lit.int .i64 s.grams).wf = true
def zero : rateClass := ⟨0, 0⟩
/-- the letters of its texts -/
def rateClass.wt (s : rateClass) : Nat := 0
def wts (l : List rateClass) : Nat := (l.map rateClass.wt).sum
theorem wts_snoc (l : List rateClass) (s : rateClass) : wts (l ++ [s]) = wts l + s.wt := by unfold wts; simp [List.sum_append]
theorem wts_succ {l : List rateClass} {k : Nat} {s : rateClass} (h : l[k]? = some s) : wts (l.take (k + 1)) = wts (l.take k) + s.wt := by
  have hk := List.getElem?_eq_some_iff.1 h
  rw [List.take_succ_eq_append_getElem hk.1, hk.2, wts_snoc]
theorem wts_take (l : List rateClass) (k : Nat) : wts (l.take k) ≤ wts l := by
  have : wts l = wts (l.take k) + wts (l.drop k) := by
    unfold wts; rw [← List.sum_append, ← List.map_append, List.take_append_drop]
  omega
theorem wts_all (l : List rateClass) : wts (l.take l.length) = wts l := by rw [List.take_of_length_le (Nat.le_refl _)]

/-- the cells of a list of records, one after the other -/
def flat (l : List rateClass) : List Value := l.flatMap rateClass.cells
theorem flat_nil : flat [] = [] := rfl
theorem flat_cons (s : rateClass) (l : List rateClass) : flat (s :: l) = s.cells ++ flat l := by simp [flat]
theorem flat_snoc (l : List rateClass) (s : rateClass) : flat (l ++ [s]) = flat l ++ s.cells := by simp [flat]
theorem flat_len (l : List rateClass) : (flat l).length = l.length * 2 := by
  induction l with
  | nil => rfl
  | cons s l ih => rw [flat_cons, List.length_append, ih]; simp [rateClass.cells]; omega
theorem flat_at : ∀ (l : List rateClass) (k : Nat) (s : rateClass), l[k]? = some s → ∀ j, j < 2 → (flat l)[k * 2 + j]? = s.cells[j]?
  | [], k, s, h, _, _ => by simp at h
  | r :: l, 0, s, h, j, hj => by
    obtain rfl : r = s := by simpa using h
    rw [flat_cons, List.getElem?_append_left (by simp [rateClass.cells]; omega)]; simp
  | r :: l, k + 1, s, h, j, hj => by
    rw [flat_cons, List.getElem?_append_right (by simp [rateClass.cells]; omega), show (k + 1) * 2 + j - r.cells.length = k * 2 + j by simp [rateClass.cells]; omega]
    exact flat_at l k s (by simpa using h) j hj
end Go.Proofs.YtlljmgphgmklcaaDoor.PrateClass

/- A record rateClass opened into its fields. No condition. -/
namespace Go.Proofs.YtlljmgphgmklcaaDoor.GoP
set_option linter.unusedVariables false
open Go.RowKit
def unrateClass {ρ : Type} (s : Go.Proofs.YtlljmgphgmklcaaDoor.PrateClass.rateClass) (f : Int → Int → Option ρ) : Option ρ := f s.zone s.grams
theorem unrateClass_hid {ρ : Type} {x0 : Int} {x1 : Int} {f : Int → Int → Option ρ} {r : ρ} (H : Hid (unrateClass ⟨x0, x1⟩ f = some r)) : Hid (f x0 x1 = some r) := H
end Go.Proofs.YtlljmgphgmklcaaDoor.GoP

/- loop.example/g01062/impl.classOf as a plain function, and the contract of the program's: where the plain one has an answer, the program has it. Conditions: slices read as lists. -/
namespace Go.Proofs.YtlljmgphgmklcaaDoor.GiClassOf
set_option linter.unusedVariables false
set_option linter.unusedSimpArgs false
open Go.RowKit
open Go.Proofs.YtlljmgphgmklcaaDoor.Rowed Go.Proofs.YtlljmgphgmklcaaDoor.Turn Go.Proofs.YtlljmgphgmklcaaDoor.Aid Go.Proofs.YtlljmgphgmklcaaDoor.GoP Go.Proofs.YtlljmgphgmklcaaDoor.GoM

def P (r_0 : Go.Proofs.YtlljmgphgmklcaaDoor.PRate.Rate) : Option (Go.Proofs.YtlljmgphgmklcaaDoor.PrateClass.rateClass) :=
  unRate r_0 fun (r_0_zone : Int) (r_0_grams : Int) (r_0_from_ : Int) (r_0_until_ : Int) (r_0_cents : Int) =>
  some (Go.Proofs.YtlljmgphgmklcaaDoor.PrateClass.rateClass.mk r_0_zone r_0_grams)

set_option maxRecDepth 100000 in
set_option maxHeartbeats 2000000 in
theorem C (r_0 : Go.Proofs.YtlljmgphgmklcaaDoor.PRate.Rate)   (w : World)   {r : Go.Proofs.YtlljmgphgmklcaaDoor.PrateClass.rateClass} (H : Hid (P r_0 = some r)) :
    Calls Tryd.prog 49 #[r_0.val] w (Gives ((Go.Proofs.YtlljmgphgmklcaaDoor.PrateClass.rateClass.val r)) w) := by
  have HB := Lib.hid (Below.refl w.heap.size w)
  unfold P at H
  obtain ⟨r_0_zone, r_0_grams, r_0_from_, r_0_until_, r_0_cents⟩ := r_0
  replace H := unRate_hid H
  unfold Go.Proofs.YtlljmgphgmklcaaDoor.PRate.Rate.val
  go_enter Tryd.func49, Tryd.ntmps49
  obtain ⟨w_r_0, hw_r_0⟩ : ∃ x, w.alloc (.cells #[.int .i64 r_0_zone, .int .i64 r_0_grams, .int .i64 r_0_from_, .int .i64 r_0_until_, .int .i64 r_0_cents] 38) = x := ⟨_, rfl⟩
  have bw_r_0 : Below w.heap.size w w_r_0 := by rw [← hw_r_0]; exact (Below.refl _ _).alloc (Nat.le_refl _) _
  have HBw_r_0 := Lib.hid (Below.step HB.out bw_r_0)
  clear bw_r_0
  have kr_0_0 : w_r_0.cell? ⟨w.heap.size, 0, none⟩ = some (.int .i64 r_0_zone) := by rw [← hw_r_0]; exact box_new _ _ _ 0 _ rfl
  have kr_0_1 : w_r_0.cell? ⟨w.heap.size, 1, none⟩ = some (.int .i64 r_0_grams) := by rw [← hw_r_0]; exact box_new _ _ _ 1 _ rfl
  have kr_0_2 : w_r_0.cell? ⟨w.heap.size, 2, none⟩ = some (.int .i64 r_0_from_) := by rw [← hw_r_0]; exact box_new _ _ _ 2 _ rfl
  have kr_0_3 : w_r_0.cell? ⟨w.heap.size, 3, none⟩ = some (.int .i64 r_0_until_) := by rw [← hw_r_0]; exact box_new _ _ _ 3 _ rfl
  have kr_0_4 : w_r_0.cell? ⟨w.heap.size, 4, none⟩ = some (.int .i64 r_0_cents) := by rw [← hw_r_0]; exact box_new _ _ _ 4 _ rfl
  obtain ⟨w_t_1, hw_t_1⟩ : ∃ x, w_r_0.alloc (.cells #[.int .i64 0, .int .i64 0] 63) = x := ⟨_, rfl⟩
  have bw_t_1 : Below w_r_0.heap.size w_r_0 w_t_1 := by rw [← hw_t_1]; exact (Below.refl _ _).alloc (Nat.le_refl _) _
  have Dt_1_r_0 := Lib.hid (apart_box kr_0_0)
  have HBw_t_1 := Lib.hid (Below.step HBw_r_0.out bw_t_1)
  have kr_0_0__105 := cell_below bw_t_1 kr_0_0
  have kr_0_1__106 := cell_below bw_t_1 kr_0_1
  have kr_0_2__107 := cell_below bw_t_1 kr_0_2
  have kr_0_3__108 := cell_below bw_t_1 kr_0_3
  have kr_0_4__109 := cell_below bw_t_1 kr_0_4
  clear bw_t_1
  have kt_1_0 : w_t_1.cell? ⟨w_r_0.heap.size, 0, none⟩ = some (.int .i64 0) := by rw [← hw_t_1]; exact box_new _ _ _ 0 _ rfl
  have kt_1_1 : w_t_1.cell? ⟨w_r_0.heap.size, 1, none⟩ = some (.int .i64 0) := by rw [← hw_t_1]; exact box_new _ _ _ 1 _ rfl
  have Ot_1 : Hid (w_t_1.ownsRow w.heap.size 63 2 (.slice (some ⟨w_r_0.heap.size, 0, none⟩) 1 1) 1 [.int .i64 0, .int .i64 0]) := Lib.hid (by rw [← hw_t_1]; exact own_laid (n := 1) HBw_r_0.out.size rfl rfl (by unfold maxLen; omega))
  obtain ⟨wb7_7, hwb7_7⟩ : ∃ x, ((w_t_1).setCell ⟨w_r_0.heap.size, 0, none⟩ (.int .i64 r_0_zone)).setCell ⟨w_r_0.heap.size, 1, none⟩ (.int .i64 r_0_grams) = x := ⟨_, rfl⟩
  have z0b7_7 := Ot_1.out.frozenAt 0
  have z1b7_7 := Ot_1.out.frozenAt 1
  have Sb7_7 := Lib.hid (own_stores [(0, .int .i64 r_0_zone), (1, .int .i64 r_0_grams)] Ot_1.out)
  have Pb7_7 : Hid (wb7_7.ownsRow w.heap.size 63 2 (.slice (some ⟨w_r_0.heap.size, 0, none⟩) 1 1) 1 [.int .i64 r_0_zone, .int .i64 r_0_grams]) := Lib.hid (by rw [← hwb7_7]; exact Sb7_7.out.1)
  have Gb7_7 : Hid (w_t_1.grownBy wb7_7 (Value.slice (some ⟨w_r_0.heap.size, 0, none⟩) 1 1).ownBlock) := Lib.hid (by rw [← hwb7_7]; exact Sb7_7.out.2)
  have HBwb7_7 := Lib.hid (HBw_t_1.out.grown Gb7_7.out HBw_t_1.out.size (fun q hq => (Ot_1.out.lt q hq).1))
  clear Sb7_7
  have kr_0_0__110 := cell_other kr_0_0__105 Gb7_7.out Dt_1_r_0.out
  have kr_0_1__111 := cell_other kr_0_1__106 Gb7_7.out Dt_1_r_0.out
  have kr_0_2__112 := cell_other kr_0_2__107 Gb7_7.out Dt_1_r_0.out
  have kr_0_3__113 := cell_other kr_0_3__108 Gb7_7.out Dt_1_r_0.out
  have kr_0_4__114 := cell_other kr_0_4__109 Gb7_7.out Dt_1_r_0.out
  clear Ot_1 Gb7_7
  have kt_1_0__115 : wb7_7.cell? ⟨w_r_0.heap.size, 0, none⟩ = some (.int .i64 r_0_zone) := Pb7_7.out.cells rfl 0 _ rfl
  have kt_1_1__116 : wb7_7.cell? ⟨w_r_0.heap.size, 1, none⟩ = some (.int .i64 r_0_grams) := Pb7_7.out.cells rfl 1 _ rfl
  cases ret_hid H
  go_wp2_with fail
  (try simp only [Exit.inBlock, Exit.then])
  refine bodyPost_ret (v := .agg #[.int .i64 r_0_zone, .int .i64 r_0_grams]) ?hr_ ?hd_ ?_
  case hd_ => rfl
  case hr_ => simp [results, Tryd.results49, kt_1_0__115, kt_1_1__116, go_sem]
  exact ⟨rfl, HBwb7_7.out⟩
end Go.Proofs.YtlljmgphgmklcaaDoor.GiClassOf

/- cmp.isNaN[int] as a plain function, and the contract of the program's: where the plain one has an answer, the program has it. Conditions: slices read as lists. -/
namespace Go.Proofs.YtlljmgphgmklcaaDoor.GxCmpIsNaNInt
set_option linter.unusedVariables false
set_option linter.unusedSimpArgs false
open Go.RowKit
open Go.Proofs.YtlljmgphgmklcaaDoor.Rowed Go.Proofs.YtlljmgphgmklcaaDoor.Turn Go.Proofs.YtlljmgphgmklcaaDoor.Aid Go.Proofs.YtlljmgphgmklcaaDoor.GoP Go.Proofs.YtlljmgphgmklcaaDoor.GoM

def P (x : Int) : Option (Bool) :=
  some false

set_option maxRecDepth 100000 in
set_option maxHeartbeats 2000000 in
theorem C (x : Int)   (w : World)   {r : Bool} (H : Hid (P x = some r)) :
    Calls Tryd.prog 57 #[.int .i64 x] w (Gives (.bool r) w) := by
  have HB := Lib.hid (Below.refl w.heap.size w)
  unfold P at H
  go_enter Tryd.func57, Tryd.ntmps57
  obtain rfl := ret_hid H
  go_wp2_with fail
  go_ret
  exact ⟨rfl, HB.out⟩

set_option maxRecDepth 100000 in
set_option maxHeartbeats 2000000 in
theorem C0 (x : Int)   (w : World)   {r : Bool} (H : Hid (P x = some r)) :
    Calls Tryd.prog 57 #[.int .i64 x] w (fun e w'' => e = .returned (.bool r) ∧ w'' = w) := by
  have HB := Lib.hid (Below.refl w.heap.size w)
  unfold P at H
  go_enter Tryd.func57, Tryd.ntmps57
  obtain rfl := ret_hid H
  go_wp2_with fail
  go_ret
  exact ⟨rfl, rfl⟩
end Go.Proofs.YtlljmgphgmklcaaDoor.GxCmpIsNaNInt

/- cmp.Compare[int] as a plain function, and the contract of the program's: where the plain one has an answer, the program has it. Conditions: slices read as lists. -/
namespace Go.Proofs.YtlljmgphgmklcaaDoor.GxCmpCompareInt
set_option linter.unusedVariables false
set_option linter.unusedSimpArgs false
open Go.RowKit
open Go.Proofs.YtlljmgphgmklcaaDoor.Rowed Go.Proofs.YtlljmgphgmklcaaDoor.Turn Go.Proofs.YtlljmgphgmklcaaDoor.Aid Go.Proofs.YtlljmgphgmklcaaDoor.GoP Go.Proofs.YtlljmgphgmklcaaDoor.GoM

def P (x : Int) (y : Int) : Option (Int) :=
  Option.bind (Go.Proofs.YtlljmgphgmklcaaDoor.GxCmpIsNaNInt.P x) fun (t_2 : Bool) =>
  Option.bind (Go.Proofs.YtlljmgphgmklcaaDoor.GxCmpIsNaNInt.P y) fun (t_5 : Bool) =>
  iteK t_2
  (iteK t_5
  (some 0)
  (some (-1)))
  (iteK t_5
  (some 1)
  (letK (decide (x < y)) fun (t_15 : Bool) =>
  iteK t_15
  (some (-1))
  (letK (decide (y < x)) fun (t_19 : Bool) =>
  iteK t_19
  (some 1)
  (some 0))))

set_option maxRecDepth 100000 in
set_option maxHeartbeats 2000000 in
theorem C (x : Int) (y : Int)   (w : World)   {r : Int} (H : Hid (P x y = some r)) :
    Calls Tryd.prog 51 #[.int .i64 x, .int .i64 y] w (Gives (.int .i64 r) w) := by
  have HB := Lib.hid (Below.refl w.heap.size w)
  unfold P at H
  go_enter Tryd.func51, Tryd.ntmps51
  replace H := bind_hid H
  obtain ⟨t_2, qt_2, H⟩ := H
  go_wp2_with fail
  go_at_call 57
  refine (Go.Proofs.YtlljmgphgmklcaaDoor.GxCmpIsNaNInt.C (x)  _    qt_2).mono ?_
  rintro e_t_2 wt_2 ⟨rfl, bt_2⟩
  have HBwt_2 := Lib.hid (Below.step HB.out bt_2)
  clear bt_2
  replace H := bind_hid H
  obtain ⟨t_5, qt_5, H⟩ := H
  go_wp2_with fail
  go_at_call 57
  refine (Go.Proofs.YtlljmgphgmklcaaDoor.GxCmpIsNaNInt.C (y)  _    qt_5).mono ?_
  rintro e_t_5 wt_5 ⟨rfl, bt_5⟩
  have HBwt_5 := Lib.hid (Below.step HBwt_2.out bt_5)
  clear bt_5
  cases t_2 with
  | false =>
    replace H := ite_f H
    cases t_5 with
    | false =>
      replace H := ite_f H
      replace H := let_hid H
      obtain ⟨t_15, ht_15, H⟩ := H
      cases t_15 with
      | false =>
        replace H := ite_f H
        replace H := let_hid H
        obtain ⟨t_19, ht_19, H⟩ := H
        cases t_19 with
        | false =>
          replace H := ite_f H
          obtain rfl := ret_hid H
          go_wp2_with fail
          go_ret
          exact ⟨rfl, HBwt_5.out⟩
        | true =>
          replace H := ite_t H
          obtain rfl := ret_hid H
          go_wp2_with fail
          go_ret
          exact ⟨rfl, HBwt_5.out⟩
      | true =>
        replace H := ite_t H
        obtain rfl := ret_hid H
        go_wp2_with fail
        go_ret
        exact ⟨rfl, HBwt_5.out⟩
    | true =>
      replace H := ite_t H
      obtain rfl := ret_hid H
      go_wp2_with fail
      go_ret
      exact ⟨rfl, HBwt_5.out⟩
  | true =>
    replace H := ite_t H
    cases t_5 with
    | false =>
      replace H := ite_f H
      obtain rfl := ret_hid H
      go_wp2_with fail
      go_ret
      exact ⟨rfl, HBwt_5.out⟩
    | true =>
      replace H := ite_t H
      obtain rfl := ret_hid H
      go_wp2_with fail
      go_ret
      exact ⟨rfl, HBwt_5.out⟩
end Go.Proofs.YtlljmgphgmklcaaDoor.GxCmpCompareInt

/- cmp.Or[int] as a plain function, and the contract of the program's: where the plain one has an answer, the program has it. Conditions: slices read as lists. -/
namespace Go.Proofs.YtlljmgphgmklcaaDoor.GxCmpOrInt
set_option linter.unusedVariables false
set_option linter.unusedSimpArgs false
open Go.RowKit
open Go.Proofs.YtlljmgphgmklcaaDoor.Rowed Go.Proofs.YtlljmgphgmklcaaDoor.Turn Go.Proofs.YtlljmgphgmklcaaDoor.Aid Go.Proofs.YtlljmgphgmklcaaDoor.GoP Go.Proofs.YtlljmgphgmklcaaDoor.GoM

def l0 (vals : (List Int)) (k0 : Nat) (s : Unit) (nx0 bk0 : Unit → Option (Int)) : Option (Int) :=
  
  Option.bind (idx vals (k0 : Int)) fun (yt_6 : Int) =>
  letK (yt_6 != 0) fun (t_11 : Bool) =>
  iteK t_11
  (some yt_6)
  (appK nx0 ())

def e0  (s : Unit) : Option (Int) :=
  
  some 0

def P (vals : (List Int)) : Option (Int) :=
  cntK (l0 vals) (vals.length) 0 () (e0 )

set_option maxRecDepth 100000 in
set_option maxHeartbeats 2000000 in
theorem C (vals : (List Int)) (A0 : Option Addr) (c0 : Nat)  (w : World) (M0 : Hid (Cells w 1 A0 vals.length (Go.Proofs.YtlljmgphgmklcaaDoor.HelpInt.iv vals))) (N0 : Hid (vals.length ≤ 9223372036854775807))  {r : Int} (H : Hid (P vals = some r)) :
    Calls Tryd.prog 50 #[.slice A0 vals.length c0] w (Gives (.int .i64 r) w) := by
  have HB := Lib.hid (Below.refl w.heap.size w)
  unfold P at H
  have N0o := N0.out
  go_enter Tryd.func50, Tryd.ntmps50
  go_wp2_with fail
  go_loopg [8] (vals.length) (fun m_ v8_ wr => ∃ (k0 : Nat) , k0 + m_ = vals.length ∧ v8_ = .int .i64 (k0 : Int) ∧ Hid (cntK (l0 vals) m_ k0 () (e0 ) = some r) ∧ Hid (Below w.heap.size w wr))
  case atStart => exact ⟨0, by omega, rfl, H, HB⟩
  case round =>
    obtain ⟨k0, hkm0, rfl, H, HBwr0⟩ := hrel
    rename World => wr0
    cases gk with
    | zero =>
      obtain rfl : k0 = vals.length := by omega
      have hc0 : decide (((vals.length : Nat) : Int) < ((vals.length : Nat) : Int)) = false := by simp
      replace H := cnt_zero H
      unfold e0 at H
      obtain rfl := ret_hid H
      go_wp2_with fail
      go_ret
      exact ⟨rfl, HBwr0.out⟩
    | succ m0 =>
      have hlt0 : k0 < vals.length := by omega
      have hc0 : decide ((k0 : Int) < ((vals.length : Nat) : Int)) = true := by simp; omega
      replace H := cnt_succ H
      unfold l0 at H
      replace H := idx_hid H
      obtain ⟨nt_6, yt_6, et_6, lt_6, gt_6, H⟩ := H
      obtain rfl : k0 = nt_6 := by omega
      clear et_6
      obtain ⟨ab_t_6, ao_t_6, zt_6, At_6, z_t_6, ct_6_0⟩ := Go.Proofs.YtlljmgphgmklcaaDoor.HelpInt.Ints.at_ M0.out lt_6
      obtain rfl := Option.some.inj (gt_6.out.symm.trans z_t_6)
      subst At_6
      have ltt_6 := cell_lt ct_6_0
      replace ct_6_0 := cell_below HBwr0.out ct_6_0
      clear z_t_6
      have b0t_6 : (0 : Int) ≤ (k0 : Int) := by omega
      have b1t_6 : (k0 : Int) < ((vals.length : Nat) : Int) := by omega
      have b2t_6 : ((k0 : Int)).toNat = k0 := by omega
      replace H := let_hid H
      obtain ⟨t_11, ht_11, H⟩ := H
      cases t_11 with
      | false =>
        replace H := ite_f H
        replace H := app_hid H
        go_wp2_with fail
        go_roundg m0
        case measure => omega
        case rel => exact ⟨k0 + 1, by omega, by go_num, H, HBwr0⟩
      | true =>
        replace H := ite_t H
        obtain rfl := ret_hid H
        go_wp2_with fail
        go_ret
        exact ⟨rfl, HBwr0.out⟩
end Go.Proofs.YtlljmgphgmklcaaDoor.GxCmpOrInt

/- loop.example/g01062/impl.canFollow as a plain function, and the contract of the program's: where the plain one has an answer, the program has it. Conditions: slices read as lists. -/
namespace Go.Proofs.YtlljmgphgmklcaaDoor.GiCanFollow
set_option linter.unusedVariables false
set_option linter.unusedSimpArgs false
open Go.RowKit
open Go.Proofs.YtlljmgphgmklcaaDoor.Rowed Go.Proofs.YtlljmgphgmklcaaDoor.Turn Go.Proofs.YtlljmgphgmklcaaDoor.Aid Go.Proofs.YtlljmgphgmklcaaDoor.GoP Go.Proofs.YtlljmgphgmklcaaDoor.GoM

def P (r_0 : Go.Proofs.YtlljmgphgmklcaaDoor.PRate.Rate) (before : Go.Proofs.YtlljmgphgmklcaaDoor.PRate.Rate) : Option (Bool) :=
  unRate r_0 fun (r_0_zone : Int) (r_0_grams : Int) (r_0_from_ : Int) (r_0_until_ : Int) (r_0_cents : Int) =>
  unRate before fun (before_zone : Int) (before_grams : Int) (before_from_ : Int) (before_until_ : Int) (before_cents : Int) =>
  Option.bind (Go.Proofs.YtlljmgphgmklcaaDoor.GiClassOf.P (Go.Proofs.YtlljmgphgmklcaaDoor.PRate.Rate.mk r_0_zone r_0_grams r_0_from_ r_0_until_ r_0_cents)) fun (t_4 : Go.Proofs.YtlljmgphgmklcaaDoor.PrateClass.rateClass) =>
  unrateClass t_4 fun (t_4_zone : Int) (t_4_grams : Int) =>
  Option.bind (Go.Proofs.YtlljmgphgmklcaaDoor.GiClassOf.P (Go.Proofs.YtlljmgphgmklcaaDoor.PRate.Rate.mk before_zone before_grams before_from_ before_until_ before_cents)) fun (t_6 : Go.Proofs.YtlljmgphgmklcaaDoor.PrateClass.rateClass) =>
  unrateClass t_6 fun (t_6_zone : Int) (t_6_grams : Int) =>
  letK (t_4_zone == t_6_zone && t_4_grams == t_6_grams) fun (t_7 : Bool) =>
  iteK t_7
  (letK (decide (before_until_ < r_0_from_)) fun (t_12 : Bool) =>
  some t_12)
  (Option.bind (Go.Proofs.YtlljmgphgmklcaaDoor.GxCmpCompareInt.P before_zone r_0_zone) fun (t_18 : Int) =>
  Option.bind (Go.Proofs.YtlljmgphgmklcaaDoor.GxCmpCompareInt.P before_grams r_0_grams) fun (t_23 : Int) =>
  letK ([t_18, t_23]) fun (t_24 : (List Int)) =>
  Option.bind (Go.Proofs.YtlljmgphgmklcaaDoor.GxCmpOrInt.P t_24) fun (t_25 : Int) =>
  letK (decide (t_25 < 0)) fun (t_26 : Bool) =>
  some t_26)

set_option maxRecDepth 100000
theorem eqr_63 (x0 x1 y0 y1 : Int) : ∀ W, (Op.equalIn 10000 63 (.agg #[Value.int IntKind.i64 x0, Value.int IntKind.i64 x1]) (.agg #[Value.int IntKind.i64 y0, Value.int IntKind.i64 y1])).run Tryd.prog W = .ok (x0 == y0 && x1 == y1) W := by
  intro W
  rw [run_equalIn_agg W _ _ _ _ (by kernel_rfl) (by kernel_rfl)]
  obtain ⟨f, hf⟩ : ∃ f, (Tryd.prog.fieldsOf 63).toList = f := ⟨_, rfl⟩
  have : (Tryd.prog.fieldsOf 63).toList.map (fun f => (f.name, f.type, f.offset)) = [("zone", 3, 0), ("grams", 3, 1)] := by kernel_rfl
  rw [hf] at this ⊢
  match f, this with
  | [f0, f1], h =>
    simp only [List.map_cons, List.map_nil, List.cons.injEq, Prod.mk.injEq, and_true] at h
    obtain ⟨⟨a0, b0, d0⟩, a1, b1, d1⟩ := h
    simp only [Op.eqFields, a0, b0, d0, a1, b1, d1]
    have p0 : ∀ (w : World) (x0 x1 : Int), (part 3 #[Value.int IntKind.i64 x0, Value.int IntKind.i64 x1] 0).run Tryd.prog w = .ok (.int .i64 x0) w := fun w x0 x1 => run_part_plain w (by kernel_rfl) rfl
    have p1 : ∀ (w : World) (x0 x1 : Int), (part 3 #[Value.int IntKind.i64 x0, Value.int IntKind.i64 x1] 1).run Tryd.prog w = .ok (.int .i64 x1) w := fun w x0 x1 => run_part_plain w (by kernel_rfl) rfl
    have e0 : ∀ (w : World) (d : Nat) (x y : Int), (Op.equalIn (d + 1) 3 (.int .i64 x) (.int .i64 y)).run Tryd.prog w = .ok (x == y) w := fun w d x y => run_equalIn_int w d 3 .i64 .i64 x y Tryd.underlying3
    have e1 : ∀ (w : World) (x y : Int), (Op.equalIn 9999 3 (.int .i64 x) (.int .i64 y)).run Tryd.prog w = .ok (x == y) w := fun w x y => e0 w 9998 x y
    rw [if_pos (by decide)]; rw [if_pos (by decide)]
    simp only [Sem.run_bind, p0, p1, e1, Result.andThen_ok, Sem.run_ite, Sem.run_pure]
    cases x0 == y0 <;> cases x1 == y1 <;> rfl
theorem eqla_63 (x0 x1 y0 y1 : Int) : ∀ W, (binOp .eql 63 (.agg #[Value.int IntKind.i64 x0, Value.int IntKind.i64 x1]) (.agg #[Value.int IntKind.i64 y0, Value.int IntKind.i64 y1])).run Tryd.prog W = .ok (.bool (x0 == y0 && x1 == y1)) W := by
  intro W
  rw [run_eql_struct, eqr_63]; rfl
theorem neqa_63 (x0 x1 y0 y1 : Int) : ∀ W, (binOp .neq 63 (.agg #[Value.int IntKind.i64 x0, Value.int IntKind.i64 x1]) (.agg #[Value.int IntKind.i64 y0, Value.int IntKind.i64 y1])).run Tryd.prog W = .ok (.bool (!(x0 == y0 && x1 == y1))) W := by
  intro W
  rw [run_neq_struct, eqr_63]; rfl

set_option maxRecDepth 100000 in
set_option maxHeartbeats 2000000 in
theorem C (r_0 : Go.Proofs.YtlljmgphgmklcaaDoor.PRate.Rate) (before : Go.Proofs.YtlljmgphgmklcaaDoor.PRate.Rate)   (w : World)   {r : Bool} (H : Hid (P r_0 before = some r)) :
    Calls Tryd.prog 30 #[r_0.val, before.val] w (Gives (.bool r) w) := by
  have HB := Lib.hid (Below.refl w.heap.size w)
  unfold P at H
  obtain ⟨r_0_zone, r_0_grams, r_0_from_, r_0_until_, r_0_cents⟩ := r_0
  replace H := unRate_hid H
  obtain ⟨before_zone, before_grams, before_from_, before_until_, before_cents⟩ := before
  replace H := unRate_hid H
  unfold Go.Proofs.YtlljmgphgmklcaaDoor.PRate.Rate.val
  go_enter Tryd.func30, Tryd.ntmps30
  obtain ⟨w_r_0, hw_r_0⟩ : ∃ x, w.alloc (.cells #[.int .i64 r_0_zone, .int .i64 r_0_grams, .int .i64 r_0_from_, .int .i64 r_0_until_, .int .i64 r_0_cents] 38) = x := ⟨_, rfl⟩
  have bw_r_0 : Below w.heap.size w w_r_0 := by rw [← hw_r_0]; exact (Below.refl _ _).alloc (Nat.le_refl _) _
  have HBw_r_0 := Lib.hid (Below.step HB.out bw_r_0)
  clear bw_r_0
  have kr_0_0 : w_r_0.cell? ⟨w.heap.size, 0, none⟩ = some (.int .i64 r_0_zone) := by rw [← hw_r_0]; exact box_new _ _ _ 0 _ rfl
  have kr_0_1 : w_r_0.cell? ⟨w.heap.size, 1, none⟩ = some (.int .i64 r_0_grams) := by rw [← hw_r_0]; exact box_new _ _ _ 1 _ rfl
  have kr_0_2 : w_r_0.cell? ⟨w.heap.size, 2, none⟩ = some (.int .i64 r_0_from_) := by rw [← hw_r_0]; exact box_new _ _ _ 2 _ rfl
  have kr_0_3 : w_r_0.cell? ⟨w.heap.size, 3, none⟩ = some (.int .i64 r_0_until_) := by rw [← hw_r_0]; exact box_new _ _ _ 3 _ rfl
  have kr_0_4 : w_r_0.cell? ⟨w.heap.size, 4, none⟩ = some (.int .i64 r_0_cents) := by rw [← hw_r_0]; exact box_new _ _ _ 4 _ rfl
  obtain ⟨w_before_1, hw_before_1⟩ : ∃ x, w_r_0.alloc (.cells #[.int .i64 before_zone, .int .i64 before_grams, .int .i64 before_from_, .int .i64 before_until_, .int .i64 before_cents] 38) = x := ⟨_, rfl⟩
  have bw_before_1 : Below w_r_0.heap.size w_r_0 w_before_1 := by rw [← hw_before_1]; exact (Below.refl _ _).alloc (Nat.le_refl _) _
  have HBw_before_1 := Lib.hid (Below.step HBw_r_0.out bw_before_1)
  have kr_0_0__117 := cell_below bw_before_1 kr_0_0
  have kr_0_1__118 := cell_below bw_before_1 kr_0_1
  have kr_0_2__119 := cell_below bw_before_1 kr_0_2
  have kr_0_3__120 := cell_below bw_before_1 kr_0_3
  have kr_0_4__121 := cell_below bw_before_1 kr_0_4
  clear bw_before_1
  have kbefore_1_0 : w_before_1.cell? ⟨w_r_0.heap.size, 0, none⟩ = some (.int .i64 before_zone) := by rw [← hw_before_1]; exact box_new _ _ _ 0 _ rfl
  have kbefore_1_1 : w_before_1.cell? ⟨w_r_0.heap.size, 1, none⟩ = some (.int .i64 before_grams) := by rw [← hw_before_1]; exact box_new _ _ _ 1 _ rfl
  have kbefore_1_2 : w_before_1.cell? ⟨w_r_0.heap.size, 2, none⟩ = some (.int .i64 before_from_) := by rw [← hw_before_1]; exact box_new _ _ _ 2 _ rfl
  have kbefore_1_3 : w_before_1.cell? ⟨w_r_0.heap.size, 3, none⟩ = some (.int .i64 before_until_) := by rw [← hw_before_1]; exact box_new _ _ _ 3 _ rfl
  have kbefore_1_4 : w_before_1.cell? ⟨w_r_0.heap.size, 4, none⟩ = some (.int .i64 before_cents) := by rw [← hw_before_1]; exact box_new _ _ _ 4 _ rfl
  go_wp2_with fail
  clear kr_0_0 kr_0_1 kr_0_2 kr_0_3 kr_0_4
  have Hkr_0_0__117 := Lib.hid kr_0_0__117
  replace kr_0_0__117 := cell_regrown kr_0_0__117
  have Hkr_0_1__118 := Lib.hid kr_0_1__118
  replace kr_0_1__118 := cell_regrown kr_0_1__118
  have Hkr_0_2__119 := Lib.hid kr_0_2__119
  replace kr_0_2__119 := cell_regrown kr_0_2__119
  have Hkr_0_3__120 := Lib.hid kr_0_3__120
  replace kr_0_3__120 := cell_regrown kr_0_3__120
  have Hkr_0_4__121 := Lib.hid kr_0_4__121
  replace kr_0_4__121 := cell_regrown kr_0_4__121
  have Hkbefore_1_0 := Lib.hid kbefore_1_0
  replace kbefore_1_0 := cell_regrown kbefore_1_0
  have Hkbefore_1_1 := Lib.hid kbefore_1_1
  replace kbefore_1_1 := cell_regrown kbefore_1_1
  have Hkbefore_1_2 := Lib.hid kbefore_1_2
  replace kbefore_1_2 := cell_regrown kbefore_1_2
  have Hkbefore_1_3 := Lib.hid kbefore_1_3
  replace kbefore_1_3 := cell_regrown kbefore_1_3
  have Hkbefore_1_4 := Lib.hid kbefore_1_4
  replace kbefore_1_4 := cell_regrown kbefore_1_4
  replace H := bind_hid H
  obtain ⟨t_4, qt_4, H⟩ := H
  obtain ⟨t_4_zone, t_4_grams⟩ := t_4
  replace H := unrateClass_hid H
  have nt_4 : ∀ d os, Calls Tryd.prog 49 #[.agg #[.int .i64 r_0_zone, .int .i64 r_0_grams, .int .i64 r_0_from_, .int .i64 r_0_until_, .int .i64 r_0_cents]] (Go.Sort.grow (redrawn w_before_1 d) os) fun e w'' => e = .returned (.agg #[.int .i64 t_4_zone, .int .i64 t_4_grams]) ∧ ∃ p : Regrown, w'' = Go.Sort.grow (redrawn w_before_1 p.d) p.os := fun d os => Calls.regrown_of (Go.Proofs.YtlljmgphgmklcaaDoor.GiClassOf.C ((Go.Proofs.YtlljmgphgmklcaaDoor.PRate.Rate.mk r_0_zone r_0_grams r_0_from_ r_0_until_ r_0_cents))  _    qt_4)
  replace H := bind_hid H
  obtain ⟨t_6, qt_6, H⟩ := H
  obtain ⟨t_6_zone, t_6_grams⟩ := t_6
  replace H := unrateClass_hid H
  have nt_6 : ∀ d os, Calls Tryd.prog 49 #[.agg #[.int .i64 before_zone, .int .i64 before_grams, .int .i64 before_from_, .int .i64 before_until_, .int .i64 before_cents]] (Go.Sort.grow (redrawn w_before_1 d) os) fun e w'' => e = .returned (.agg #[.int .i64 t_6_zone, .int .i64 t_6_grams]) ∧ ∃ p : Regrown, w'' = Go.Sort.grow (redrawn w_before_1 p.d) p.os := fun d os => Calls.regrown_of (Go.Proofs.YtlljmgphgmklcaaDoor.GiClassOf.C ((Go.Proofs.YtlljmgphgmklcaaDoor.PRate.Rate.mk before_zone before_grams before_from_ before_until_ before_cents))  _    qt_6)
  replace H := let_hid H
  obtain ⟨t_7, ht_7, H⟩ := H
  have ct_7 : ∀ W, (binOp .eql 63 (.agg #[.int .i64 t_4_zone, .int .i64 t_4_grams]) (.agg #[.int .i64 t_6_zone, .int .i64 t_6_grams])).run Tryd.prog W = .ok (.bool t_7) W := fun W => by rw [eqla_63, ht_7]
  refine wp_region_quiet_below (by kernel_rfl) (by kernel_rfl) ?_
  repeat (go_big_quiet_step (first | (go_at_call 49; with_reducible exact nt_4 _ _) | (go_at_call 49; with_reducible exact nt_6 _ _) | (go_at_call 49; exact nt_4 _ _) | (go_at_call 49; exact nt_6 _ _)))
  refine wpQuiet_nil ?_
  intro Y1 hY1
  replace hY1 := below_class hY1
  clear nt_4 nt_6
  replace kr_0_0__117 := Hkr_0_0__117.out
  clear Hkr_0_0__117
  replace kr_0_1__118 := Hkr_0_1__118.out
  clear Hkr_0_1__118
  replace kr_0_2__119 := Hkr_0_2__119.out
  clear Hkr_0_2__119
  replace kr_0_3__120 := Hkr_0_3__120.out
  clear Hkr_0_3__120
  replace kr_0_4__121 := Hkr_0_4__121.out
  clear Hkr_0_4__121
  replace kbefore_1_0 := Hkbefore_1_0.out
  clear Hkbefore_1_0
  replace kbefore_1_1 := Hkbefore_1_1.out
  clear Hkbefore_1_1
  replace kbefore_1_2 := Hkbefore_1_2.out
  clear Hkbefore_1_2
  replace kbefore_1_3 := Hkbefore_1_3.out
  clear Hkbefore_1_3
  replace kbefore_1_4 := Hkbefore_1_4.out
  clear Hkbefore_1_4
  have HBY1 := Lib.hid (Below.step HBw_before_1.out hY1)
  replace kr_0_0__117 := cell_below hY1 kr_0_0__117
  replace kr_0_1__118 := cell_below hY1 kr_0_1__118
  replace kr_0_2__119 := cell_below hY1 kr_0_2__119
  replace kr_0_3__120 := cell_below hY1 kr_0_3__120
  replace kr_0_4__121 := cell_below hY1 kr_0_4__121
  replace kbefore_1_0 := cell_below hY1 kbefore_1_0
  replace kbefore_1_1 := cell_below hY1 kbefore_1_1
  replace kbefore_1_2 := cell_below hY1 kbefore_1_2
  replace kbefore_1_3 := cell_below hY1 kbefore_1_3
  replace kbefore_1_4 := cell_below hY1 kbefore_1_4
  clear hY1
  cases t_7 with
  | false =>
    replace H := ite_f H
    go_wp2_with fail
    have bd3 : Below Y1.heap.size Y1 Y1.drew := (Below.refl _ _).drew
    have HBY1.drew := Lib.hid (Below.step HBY1.out bd3)
    replace kr_0_0__117 := cell_below bd3 kr_0_0__117
    replace kr_0_1__118 := cell_below bd3 kr_0_1__118
    replace kr_0_2__119 := cell_below bd3 kr_0_2__119
    replace kr_0_3__120 := cell_below bd3 kr_0_3__120
    replace kr_0_4__121 := cell_below bd3 kr_0_4__121
    replace kbefore_1_0 := cell_below bd3 kbefore_1_0
    replace kbefore_1_1 := cell_below bd3 kbefore_1_1
    replace kbefore_1_2 := cell_below bd3 kbefore_1_2
    replace kbefore_1_3 := cell_below bd3 kbefore_1_3
    replace kbefore_1_4 := cell_below bd3 kbefore_1_4
    clear bd3
    replace H := bind_hid H
    obtain ⟨t_18, qt_18, H⟩ := H
    replace H := bind_hid H
    obtain ⟨t_23, qt_23, H⟩ := H
    replace H := let_hid H
    obtain ⟨t_24, ht_24, H⟩ := H
    replace H := bind_hid H
    obtain ⟨t_25, qt_25, H⟩ := H
    replace H := let_hid H
    obtain ⟨t_26, ht_26, H⟩ := H
    go_region_held3 (fun w' => w'.cell? ⟨w.heap.size, 0, none⟩ = some (.int .i64 r_0_zone) ∧ w'.cell? ⟨w.heap.size, 1, none⟩ = some (.int .i64 r_0_grams) ∧ w'.cell? ⟨w.heap.size, 2, none⟩ = some (.int .i64 r_0_from_) ∧ w'.cell? ⟨w.heap.size, 3, none⟩ = some (.int .i64 r_0_until_) ∧ w'.cell? ⟨w.heap.size, 4, none⟩ = some (.int .i64 r_0_cents) ∧ w'.cell? ⟨w_r_0.heap.size, 0, none⟩ = some (.int .i64 before_zone) ∧ w'.cell? ⟨w_r_0.heap.size, 1, none⟩ = some (.int .i64 before_grams) ∧ w'.cell? ⟨w_r_0.heap.size, 2, none⟩ = some (.int .i64 before_from_) ∧ w'.cell? ⟨w_r_0.heap.size, 3, none⟩ = some (.int .i64 before_until_) ∧ w'.cell? ⟨w_r_0.heap.size, 4, none⟩ = some (.int .i64 before_cents)) (first | exact ⟨kr_0_0__117, kr_0_1__118, kr_0_2__119, kr_0_3__120, kr_0_4__121, kbefore_1_0, kbefore_1_1, kbefore_1_2, kbefore_1_3, kbefore_1_4⟩ | exact ⟨kr_0_0__122, kr_0_1__123, kr_0_2__124, kr_0_3__125, kr_0_4__126, kbefore_1_0__127, kbefore_1_1__128, kbefore_1_2__129, kbefore_1_3__130, kbefore_1_4__131⟩)
        (first
          | (go_at_call 51
             refine (Go.Proofs.YtlljmgphgmklcaaDoor.GxCmpCompareInt.C (before_zone) (r_0_zone)  _    qt_18).mono ?_
             rintro e_t_18 wt_18 ⟨rfl, bt_18⟩
             have HBwt_18 := Lib.hid (Below.step HBY1.drew.out bt_18)
             replace kr_0_0__117 := cell_below bt_18 kr_0_0__117
             replace kr_0_1__118 := cell_below bt_18 kr_0_1__118
             replace kr_0_2__119 := cell_below bt_18 kr_0_2__119
             replace kr_0_3__120 := cell_below bt_18 kr_0_3__120
             replace kr_0_4__121 := cell_below bt_18 kr_0_4__121
             replace kbefore_1_0 := cell_below bt_18 kbefore_1_0
             replace kbefore_1_1 := cell_below bt_18 kbefore_1_1
             replace kbefore_1_2 := cell_below bt_18 kbefore_1_2
             replace kbefore_1_3 := cell_below bt_18 kbefore_1_3
             replace kbefore_1_4 := cell_below bt_18 kbefore_1_4
             clear bt_18
             clear qt_18)
          | (go_at_call 51
             refine (Go.Proofs.YtlljmgphgmklcaaDoor.GxCmpCompareInt.C (before_grams) (r_0_grams)  _    qt_23).mono ?_
             rintro e_t_23 wt_23 ⟨rfl, bt_23⟩
             have HBwt_23 := Lib.hid (Below.step HBwt_18.out bt_23)
             replace kr_0_0__117 := cell_below bt_23 kr_0_0__117
             replace kr_0_1__118 := cell_below bt_23 kr_0_1__118
             replace kr_0_2__119 := cell_below bt_23 kr_0_2__119
             replace kr_0_3__120 := cell_below bt_23 kr_0_3__120
             replace kr_0_4__121 := cell_below bt_23 kr_0_4__121
             replace kbefore_1_0 := cell_below bt_23 kbefore_1_0
             replace kbefore_1_1 := cell_below bt_23 kbefore_1_1
             replace kbefore_1_2 := cell_below bt_23 kbefore_1_2
             replace kbefore_1_3 := cell_below bt_23 kbefore_1_3
             replace kbefore_1_4 := cell_below bt_23 kbefore_1_4
             clear bt_23
             clear qt_23
             obtain ⟨w_t_24, hw_t_24⟩ : ∃ x, wt_23.alloc (.cells #[.int .i64 t_18, .int .i64 t_23] 3) = x := ⟨_, rfl⟩
             have bw_t_24 : Below wt_23.heap.size wt_23 w_t_24 := by rw [← hw_t_24]; exact (Below.refl _ _).alloc (Nat.le_refl _) _
             have hs_t_24 := HBwt_23.out.size
             have nt_24 : t_24.length = 2 := by rw [← ht_24]; rfl
             have Ot_24 : Hid (w_t_24.ownsRow w.heap.size 3 1 (.slice (some ⟨wt_23.heap.size, 0, none⟩) 2 2) 2 (Go.Proofs.YtlljmgphgmklcaaDoor.HelpInt.iv t_24)) := by
               rw [← hw_t_24, ← ht_24]
               have e_ : ([.int .i64 t_18, .int .i64 t_23] : List Value) = (Go.Proofs.YtlljmgphgmklcaaDoor.HelpInt.iv ([t_18, t_23] : List Int)) := rfl
               exact Lib.hid (own_laid (n := 2) hs_t_24 e_ rfl (by unfold maxLen; omega))
             clear hs_t_24
             have hht_24 := Lib.hid ht_24
             clear ht_24
             replace nt_24 := Lib.hid nt_24
             have Dt_24_r_0 := Lib.hid (apart_box kr_0_0__117)
             have Dt_24_before_1 := Lib.hid (apart_box kbefore_1_0)
             have HBw_t_24 := Lib.hid (Below.step HBwt_23.out bw_t_24)
             have kr_0_0__122 := cell_below bw_t_24 kr_0_0__117
             have kr_0_1__123 := cell_below bw_t_24 kr_0_1__118
             have kr_0_2__124 := cell_below bw_t_24 kr_0_2__119
             have kr_0_3__125 := cell_below bw_t_24 kr_0_3__120
             have kr_0_4__126 := cell_below bw_t_24 kr_0_4__121
             have kbefore_1_0__127 := cell_below bw_t_24 kbefore_1_0
             have kbefore_1_1__128 := cell_below bw_t_24 kbefore_1_1
             have kbefore_1_2__129 := cell_below bw_t_24 kbefore_1_2
             have kbefore_1_3__130 := cell_below bw_t_24 kbefore_1_3
             have kbefore_1_4__131 := cell_below bw_t_24 kbefore_1_4
             clear bw_t_24)
          | (have hc0_ := nt_24.out
             have Oct_25_1 := Lib.hid (own_len hc0_ Ot_24.out)
             have con_ := Go.Proofs.YtlljmgphgmklcaaDoor.GxCmpOrInt.C (t_24) (some ⟨wt_23.heap.size, 0, none⟩) 2 _   (Lib.hid (own_cells Oct_25_1.out)) (Lib.hid (own_max Oct_25_1.out)) qt_25
             rw [hc0_] at con_
             clear hc0_ Oct_25_1
             go_at_call 50
             refine con_.mono ?_
             rintro e_t_25 wt_25 ⟨rfl, bt_25⟩
             have HBwt_25 := Lib.hid (Below.step HBw_t_24.out bt_25)
             replace kr_0_0__122 := cell_below bt_25 kr_0_0__122
             replace kr_0_1__123 := cell_below bt_25 kr_0_1__123
             replace kr_0_2__124 := cell_below bt_25 kr_0_2__124
             replace kr_0_3__125 := cell_below bt_25 kr_0_3__125
             replace kr_0_4__126 := cell_below bt_25 kr_0_4__126
             replace kbefore_1_0__127 := cell_below bt_25 kbefore_1_0__127
             replace kbefore_1_1__128 := cell_below bt_25 kbefore_1_1__128
             replace kbefore_1_2__129 := cell_below bt_25 kbefore_1_2__129
             replace kbefore_1_3__130 := cell_below bt_25 kbefore_1_3__130
             replace kbefore_1_4__131 := cell_below bt_25 kbefore_1_4__131
             replace Ot_24 := Lib.hid (own_below Ot_24.out bt_25)
             clear bt_25
             clear qt_25))
    try clear kr_0_0__117
    try clear kr_0_1__118
    try clear kr_0_2__119
    try clear kr_0_3__120
    try clear kr_0_4__121
    try clear kbefore_1_0
    try clear kbefore_1_1
    try clear kbefore_1_2
    try clear kbefore_1_3
    try clear kbefore_1_4
    obtain rfl := ret_hid H
    go_wp2_with fail
    go_ret
    exact ⟨rfl, HBwt_25.out⟩
  | true =>
    replace H := ite_t H
    replace H := let_hid H
    obtain ⟨t_12, ht_12, H⟩ := H
    obtain rfl := ret_hid H
    go_wp2_with fail
    go_ret
    exact ⟨rfl, HBY1.out⟩
end Go.Proofs.YtlljmgphgmklcaaDoor.GiCanFollow

/- loop.example/g01062/impl.AreRates as a plain function, and the contract of the program's: where the plain one has an answer, the program has it. Conditions: slices read as lists. -/
namespace Go.Proofs.YtlljmgphgmklcaaDoor.GiAreRates
set_option linter.unusedVariables false
set_option linter.unusedSimpArgs false
open Go.RowKit
open Go.Proofs.YtlljmgphgmklcaaDoor.Rowed Go.Proofs.YtlljmgphgmklcaaDoor.Turn Go.Proofs.YtlljmgphgmklcaaDoor.Aid Go.Proofs.YtlljmgphgmklcaaDoor.GoP Go.Proofs.YtlljmgphgmklcaaDoor.GoM

def l0 (list : (List Go.Proofs.YtlljmgphgmklcaaDoor.PRate.Rate)) (k0 : Nat) (s : Unit) (nx0 bk0 : Unit → Option (Bool)) : Option (Bool) :=
  
  Option.bind (idx list (k0 : Int)) fun (yt_10 : Go.Proofs.YtlljmgphgmklcaaDoor.PRate.Rate) =>
  unRate yt_10 fun (t_10_zone : Int) (t_10_grams : Int) (t_10_from_ : Int) (t_10_until_ : Int) (t_10_cents : Int) =>
  Option.bind (Go.Proofs.YtlljmgphgmklcaaDoor.GiIsRate.P (Go.Proofs.YtlljmgphgmklcaaDoor.PRate.Rate.mk t_10_zone t_10_grams t_10_from_ t_10_until_ t_10_cents)) fun (t_16 : Bool) =>
  letK (!t_16) fun (t_17 : Bool) =>
  joinK (fun (t_31 : Bool) =>
  iteK t_31
  (some false)
  (appK nx0 ())) fun jt_31 => iteK t_17 (appK jt_31 true) (letK (decide (0 < (k0 : Int))) fun (t_20 : Bool) =>
  joinK (fun (t_30 : Bool) =>
  appK jt_31 t_30) fun jt_30 => iteK t_20 (letK (IntKind.i64.wrap ((k0 : Int) - 1)) fun (t_25 : Int) =>
  Option.bind (idx list t_25) fun (yt_26 : Go.Proofs.YtlljmgphgmklcaaDoor.PRate.Rate) =>
  unRate yt_26 fun (t_26_zone : Int) (t_26_grams : Int) (t_26_from_ : Int) (t_26_until_ : Int) (t_26_cents : Int) =>
  Option.bind (Go.Proofs.YtlljmgphgmklcaaDoor.GiCanFollow.P (Go.Proofs.YtlljmgphgmklcaaDoor.PRate.Rate.mk t_10_zone t_10_grams t_10_from_ t_10_until_ t_10_cents) (Go.Proofs.YtlljmgphgmklcaaDoor.PRate.Rate.mk t_26_zone t_26_grams t_26_from_ t_26_until_ t_26_cents)) fun (t_28 : Bool) =>
  letK (!t_28) fun (t_29 : Bool) =>
  appK jt_30 t_29) (appK jt_30 false))

def e0  (s : Unit) : Option (Bool) :=
  
  some true

def P (list : (List Go.Proofs.YtlljmgphgmklcaaDoor.PRate.Rate)) : Option (Bool) :=
  letK (decide (16 < (list.length : Int))) fun (t_3 : Bool) =>
  iteK t_3
  (some false)
  (cntK (l0 list) (list.length) 0 () (e0 ))

set_option maxRecDepth 100000 in
set_option maxHeartbeats 2000000 in
theorem C (list : (List Go.Proofs.YtlljmgphgmklcaaDoor.PRate.Rate)) (A0 : Option Addr) (c0 : Nat)  (w : World) (M0 : Hid (Cells w 5 A0 list.length (Go.Proofs.YtlljmgphgmklcaaDoor.PRate.flat list))) (N0 : Hid (list.length ≤ 9223372036854775807))  {r : Bool} (H : Hid (P list = some r)) :
    Calls Tryd.prog 9 #[.slice A0 list.length c0] w (Gives (.bool r) w) := by
  have HB := Lib.hid (Below.refl w.heap.size w)
  unfold P at H
  have N0o := N0.out
  go_enter Tryd.func9, Tryd.ntmps9
  replace H := let_hid H
  obtain ⟨t_3, ht_3, H⟩ := H
  cases t_3 with
  | false =>
    have nht_3 : ¬ (16 < list.length) := by have := of_decide_eq_false ht_3; omega
    replace H := ite_f H
    go_wp2_with fail
    go_loopg [10] (list.length) (fun m_ v10_ wr => ∃ (k0 : Nat) , k0 + m_ = list.length ∧ v10_ = .int .i64 (k0 : Int) ∧ Hid (cntK (l0 list) m_ k0 () (e0 ) = some r) ∧ Hid (Below w.heap.size w wr))
    case atStart => exact ⟨0, by omega, rfl, H, HB⟩
    case round =>
      obtain ⟨k0, hkm0, rfl, H, HBwr0⟩ := hrel
      rename World => wr0
      cases gk with
      | zero =>
        obtain rfl : k0 = list.length := by omega
        have hc0 : decide (((list.length : Nat) : Int) < ((list.length : Nat) : Int)) = false := by simp
        replace H := cnt_zero H
        unfold e0 at H
        obtain rfl := ret_hid H
        go_wp2_with fail
        go_ret
        exact ⟨rfl, HBwr0.out⟩
      | succ m0 =>
        have hlt0 : k0 < list.length := by omega
        have hc0 : decide ((k0 : Int) < ((list.length : Nat) : Int)) = true := by simp; omega
        replace H := cnt_succ H
        unfold l0 at H
        replace H := idx_hid H
        obtain ⟨nt_10, yt_10, et_10, lt_10, gt_10, H⟩ := H
        obtain rfl : k0 = nt_10 := by omega
        clear et_10
        obtain ⟨t_10_zone, t_10_grams, t_10_from_, t_10_until_, t_10_cents⟩ := yt_10
        replace H := unRate_hid H
        obtain ⟨ab_t_10, ao_t_10, zt_10, At_10, z_t_10, ct_10_0, ct_10_1, ct_10_2, ct_10_3, ct_10_4⟩ := Go.Proofs.YtlljmgphgmklcaaDoor.ORate.at_ M0.out lt_10
        obtain rfl := Option.some.inj (gt_10.out.symm.trans z_t_10)
        subst At_10
        have ltt_10 := cell_lt ct_10_0
        replace ct_10_0 := cell_below HBwr0.out ct_10_0
        replace ct_10_1 := cell_below HBwr0.out ct_10_1
        replace ct_10_2 := cell_below HBwr0.out ct_10_2
        replace ct_10_3 := cell_below HBwr0.out ct_10_3
        replace ct_10_4 := cell_below HBwr0.out ct_10_4
        clear z_t_10
        have b0t_10 : (0 : Int) ≤ (k0 : Int) := by omega
        have b1t_10 : (k0 : Int) < ((list.length : Nat) : Int) := by omega
        have b2t_10 : ((k0 : Int)).toNat = k0 := by omega
        obtain ⟨w_r_12, hw_r_12⟩ : ∃ x, wr0.alloc (.cells #[.int .i64 t_10_zone, .int .i64 t_10_grams, .int .i64 t_10_from_, .int .i64 t_10_until_, .int .i64 t_10_cents] 38) = x := ⟨_, rfl⟩
        have bw_r_12 : Below wr0.heap.size wr0 w_r_12 := by rw [← hw_r_12]; exact (Below.refl _ _).alloc (Nat.le_refl _) _
        have HBw_r_12 := Lib.hid (Below.step HBwr0.out bw_r_12)
        have ct_10_0__132 := cell_below bw_r_12 ct_10_0
        have ct_10_1__133 := cell_below bw_r_12 ct_10_1
        have ct_10_2__134 := cell_below bw_r_12 ct_10_2
        have ct_10_3__135 := cell_below bw_r_12 ct_10_3
        have ct_10_4__136 := cell_below bw_r_12 ct_10_4
        clear bw_r_12
        have kr_12_0 : w_r_12.cell? ⟨wr0.heap.size, 0, none⟩ = some (.int .i64 t_10_zone) := by rw [← hw_r_12]; exact box_new _ _ _ 0 _ rfl
        have kr_12_1 : w_r_12.cell? ⟨wr0.heap.size, 1, none⟩ = some (.int .i64 t_10_grams) := by rw [← hw_r_12]; exact box_new _ _ _ 1 _ rfl
        have kr_12_2 : w_r_12.cell? ⟨wr0.heap.size, 2, none⟩ = some (.int .i64 t_10_from_) := by rw [← hw_r_12]; exact box_new _ _ _ 2 _ rfl
        have kr_12_3 : w_r_12.cell? ⟨wr0.heap.size, 3, none⟩ = some (.int .i64 t_10_until_) := by rw [← hw_r_12]; exact box_new _ _ _ 3 _ rfl
        have kr_12_4 : w_r_12.cell? ⟨wr0.heap.size, 4, none⟩ = some (.int .i64 t_10_cents) := by rw [← hw_r_12]; exact box_new _ _ _ 4 _ rfl
        go_wp2_with fail
        clear ct_10_0 ct_10_1 ct_10_2 ct_10_3 ct_10_4
        have Hct_10_0__132 := Lib.hid ct_10_0__132
        replace ct_10_0__132 := cell_regrown ct_10_0__132
        have Hct_10_1__133 := Lib.hid ct_10_1__133
        replace ct_10_1__133 := cell_regrown ct_10_1__133
        have Hct_10_2__134 := Lib.hid ct_10_2__134
        replace ct_10_2__134 := cell_regrown ct_10_2__134
        have Hct_10_3__135 := Lib.hid ct_10_3__135
        replace ct_10_3__135 := cell_regrown ct_10_3__135
        have Hct_10_4__136 := Lib.hid ct_10_4__136
        replace ct_10_4__136 := cell_regrown ct_10_4__136
        have Hkr_12_0 := Lib.hid kr_12_0
        replace kr_12_0 := cell_regrown kr_12_0
        have Hkr_12_1 := Lib.hid kr_12_1
        replace kr_12_1 := cell_regrown kr_12_1
        have Hkr_12_2 := Lib.hid kr_12_2
        replace kr_12_2 := cell_regrown kr_12_2
        have Hkr_12_3 := Lib.hid kr_12_3
        replace kr_12_3 := cell_regrown kr_12_3
        have Hkr_12_4 := Lib.hid kr_12_4
        replace kr_12_4 := cell_regrown kr_12_4
        replace H := bind_hid H
        obtain ⟨t_16, qt_16, H⟩ := H
        have nt_16 : ∀ d os, Calls Tryd.prog 21 #[.agg #[.int .i64 t_10_zone, .int .i64 t_10_grams, .int .i64 t_10_from_, .int .i64 t_10_until_, .int .i64 t_10_cents]] (Go.Sort.grow (redrawn w_r_12 d) os) fun e w'' => e = .returned (.bool t_16) ∧ ∃ p : Regrown, w'' = Go.Sort.grow (redrawn w_r_12 p.d) p.os := fun d os => Calls.regrown_of (Go.Proofs.YtlljmgphgmklcaaDoor.GiIsRate.C ((Go.Proofs.YtlljmgphgmklcaaDoor.PRate.Rate.mk t_10_zone t_10_grams t_10_from_ t_10_until_ t_10_cents))  _    qt_16)
        cases t_16 with
        | false =>
          replace H := let_hid H
          obtain ⟨t_17, ht_17, H⟩ := H
          obtain rfl : t_17 = true := ht_17.symm
          replace H := join_hid H
          replace H := ite_t H
          replace H := app_hid H
          refine wp_region_quiet_below (by kernel_rfl) (by kernel_rfl) ?_
          repeat (go_big_quiet_step (first | (go_at_call 21; exact nt_16 _ _)))
          refine wpQuiet_nil ?_
          intro Y6 hY6
          replace hY6 := below_class hY6
          clear nt_16
          replace ct_10_0__132 := Hct_10_0__132.out
          clear Hct_10_0__132
          replace ct_10_1__133 := Hct_10_1__133.out
          clear Hct_10_1__133
          replace ct_10_2__134 := Hct_10_2__134.out
          clear Hct_10_2__134
          replace ct_10_3__135 := Hct_10_3__135.out
          clear Hct_10_3__135
          replace ct_10_4__136 := Hct_10_4__136.out
          clear Hct_10_4__136
          replace kr_12_0 := Hkr_12_0.out
          clear Hkr_12_0
          replace kr_12_1 := Hkr_12_1.out
          clear Hkr_12_1
          replace kr_12_2 := Hkr_12_2.out
          clear Hkr_12_2
          replace kr_12_3 := Hkr_12_3.out
          clear Hkr_12_3
          replace kr_12_4 := Hkr_12_4.out
          clear Hkr_12_4
          have HBY6 := Lib.hid (Below.step HBw_r_12.out hY6)
          replace ct_10_0__132 := cell_below hY6 ct_10_0__132
          replace ct_10_1__133 := cell_below hY6 ct_10_1__133
          replace ct_10_2__134 := cell_below hY6 ct_10_2__134
          replace ct_10_3__135 := cell_below hY6 ct_10_3__135
          replace ct_10_4__136 := cell_below hY6 ct_10_4__136
          replace kr_12_0 := cell_below hY6 kr_12_0
          replace kr_12_1 := cell_below hY6 kr_12_1
          replace kr_12_2 := cell_below hY6 kr_12_2
          replace kr_12_3 := cell_below hY6 kr_12_3
          replace kr_12_4 := cell_below hY6 kr_12_4
          clear hY6
          replace H := ite_t H
          obtain rfl := ret_hid H
          go_wp2_with fail
          go_ret
          exact ⟨rfl, HBY6.out⟩
        | true =>
          replace H := let_hid H
          obtain ⟨t_17, ht_17, H⟩ := H
          obtain rfl : t_17 = false := ht_17.symm
          replace H := join_hid H
          replace H := ite_f H
          replace H := let_hid H
          obtain ⟨t_20, ht_20, H⟩ := H
          replace H := join_hid H
          cases t_20 with
          | false =>
            have nht_20 : ¬ (0 < k0) := by have := of_decide_eq_false ht_20; omega
            replace H := ite_f H
            replace H := app_hid H
            replace H := app_hid H
            refine wp_region_quiet_below (by kernel_rfl) (by kernel_rfl) ?_
            repeat (go_big_quiet_step (first | (go_at_call 21; exact nt_16 _ _)))
            refine wpQuiet_nil ?_
            intro Y6 hY6
            replace hY6 := below_class hY6
            clear nt_16
            replace ct_10_0__132 := Hct_10_0__132.out
            clear Hct_10_0__132
            replace ct_10_1__133 := Hct_10_1__133.out
            clear Hct_10_1__133
            replace ct_10_2__134 := Hct_10_2__134.out
            clear Hct_10_2__134
            replace ct_10_3__135 := Hct_10_3__135.out
            clear Hct_10_3__135
            replace ct_10_4__136 := Hct_10_4__136.out
            clear Hct_10_4__136
            replace kr_12_0 := Hkr_12_0.out
            clear Hkr_12_0
            replace kr_12_1 := Hkr_12_1.out
            clear Hkr_12_1
            replace kr_12_2 := Hkr_12_2.out
            clear Hkr_12_2
            replace kr_12_3 := Hkr_12_3.out
            clear Hkr_12_3
            replace kr_12_4 := Hkr_12_4.out
            clear Hkr_12_4
            have HBY6 := Lib.hid (Below.step HBw_r_12.out hY6)
            replace ct_10_0__132 := cell_below hY6 ct_10_0__132
            replace ct_10_1__133 := cell_below hY6 ct_10_1__133
            replace ct_10_2__134 := cell_below hY6 ct_10_2__134
            replace ct_10_3__135 := cell_below hY6 ct_10_3__135
            replace ct_10_4__136 := cell_below hY6 ct_10_4__136
            replace kr_12_0 := cell_below hY6 kr_12_0
            replace kr_12_1 := cell_below hY6 kr_12_1
            replace kr_12_2 := cell_below hY6 kr_12_2
            replace kr_12_3 := cell_below hY6 kr_12_3
            replace kr_12_4 := cell_below hY6 kr_12_4
            clear hY6
            replace H := ite_f H
            replace H := app_hid H
            go_wp2_with fail
            go_roundg m0
            case measure => omega
            case rel => exact ⟨k0 + 1, by omega, by go_num, H, HBY6⟩
          | true =>
            have nht_20 : 0 < k0 := by have := of_decide_eq_true ht_20; omega
            replace H := ite_t H
            replace H := let_hid H
            obtain ⟨t_25, ht_25, H⟩ := H
            replace H := idx_hid H
            obtain ⟨nt_26, yt_26, et_26, lt_26, gt_26, H⟩ := H
            subst et_26
            obtain ⟨t_26_zone, t_26_grams, t_26_from_, t_26_until_, t_26_cents⟩ := yt_26
            replace H := unRate_hid H
            obtain ⟨ab_t_26, ao_t_26, zt_26, At_26, z_t_26, ct_26_0, ct_26_1, ct_26_2, ct_26_3, ct_26_4⟩ := Go.Proofs.YtlljmgphgmklcaaDoor.ORate.at_ M0.out lt_26
            obtain rfl := Option.some.inj (gt_26.out.symm.trans z_t_26)
            simp only [Option.some.injEq, Addr.mk.injEq] at At_26
            obtain ⟨rfl, rfl, _⟩ := At_26
            have ltt_26 := cell_lt ct_26_0
            replace ct_26_0 := cell_below HBw_r_12.out ct_26_0
            replace ct_26_1 := cell_below HBw_r_12.out ct_26_1
            replace ct_26_2 := cell_below HBw_r_12.out ct_26_2
            replace ct_26_3 := cell_below HBw_r_12.out ct_26_3
            replace ct_26_4 := cell_below HBw_r_12.out ct_26_4
            clear z_t_26
            have b0t_26 : (0 : Int) ≤ (nt_26 : Int) := by omega
            have b1t_26 : (nt_26 : Int) < ((list.length : Nat) : Int) := by omega
            have b2t_26 : ((nt_26 : Int)).toNat = nt_26 := by omega
            have Hct_26_0 := Lib.hid ct_26_0
            replace ct_26_0 := cell_regrown ct_26_0
            have Hct_26_1 := Lib.hid ct_26_1
            replace ct_26_1 := cell_regrown ct_26_1
            have Hct_26_2 := Lib.hid ct_26_2
            replace ct_26_2 := cell_regrown ct_26_2
            have Hct_26_3 := Lib.hid ct_26_3
            replace ct_26_3 := cell_regrown ct_26_3
            have Hct_26_4 := Lib.hid ct_26_4
            replace ct_26_4 := cell_regrown ct_26_4
            replace H := bind_hid H
            obtain ⟨t_28, qt_28, H⟩ := H
            have nt_28 : ∀ d os, Calls Tryd.prog 30 #[.agg #[.int .i64 t_10_zone, .int .i64 t_10_grams, .int .i64 t_10_from_, .int .i64 t_10_until_, .int .i64 t_10_cents], .agg #[.int .i64 t_26_zone, .int .i64 t_26_grams, .int .i64 t_26_from_, .int .i64 t_26_until_, .int .i64 t_26_cents]] (Go.Sort.grow (redrawn w_r_12 d) os) fun e w'' => e = .returned (.bool t_28) ∧ ∃ p : Regrown, w'' = Go.Sort.grow (redrawn w_r_12 p.d) p.os := fun d os => Calls.regrown_of (Go.Proofs.YtlljmgphgmklcaaDoor.GiCanFollow.C ((Go.Proofs.YtlljmgphgmklcaaDoor.PRate.Rate.mk t_10_zone t_10_grams t_10_from_ t_10_until_ t_10_cents)) ((Go.Proofs.YtlljmgphgmklcaaDoor.PRate.Rate.mk t_26_zone t_26_grams t_26_from_ t_26_until_ t_26_cents))  _    qt_28)
            cases t_28 with
            | false =>
              replace H := let_hid H
              obtain ⟨t_29, ht_29, H⟩ := H
              obtain rfl : t_29 = true := ht_29.symm
              replace H := app_hid H
              replace H := app_hid H
              refine wp_region_quiet_below (by kernel_rfl) (by kernel_rfl) ?_
              repeat (go_big_quiet_step (first | (go_at_call 21; exact nt_16 _ _) | (go_at_call 30; exact nt_28 _ _)))
              refine wpQuiet_nil ?_
              intro Y6 hY6
              replace hY6 := below_class hY6
              clear nt_16 nt_28
              replace ct_10_0__132 := Hct_10_0__132.out
              clear Hct_10_0__132
              replace ct_10_1__133 := Hct_10_1__133.out
              clear Hct_10_1__133
              replace ct_10_2__134 := Hct_10_2__134.out
              clear Hct_10_2__134
              replace ct_10_3__135 := Hct_10_3__135.out
              clear Hct_10_3__135
              replace ct_10_4__136 := Hct_10_4__136.out
              clear Hct_10_4__136
              replace kr_12_0 := Hkr_12_0.out
              clear Hkr_12_0
              replace kr_12_1 := Hkr_12_1.out
              clear Hkr_12_1
              replace kr_12_2 := Hkr_12_2.out
              clear Hkr_12_2
              replace kr_12_3 := Hkr_12_3.out
              clear Hkr_12_3
              replace kr_12_4 := Hkr_12_4.out
              clear Hkr_12_4
              replace ct_26_0 := Hct_26_0.out
              clear Hct_26_0
              replace ct_26_1 := Hct_26_1.out
              clear Hct_26_1
              replace ct_26_2 := Hct_26_2.out
              clear Hct_26_2
              replace ct_26_3 := Hct_26_3.out
              clear Hct_26_3
              replace ct_26_4 := Hct_26_4.out
              clear Hct_26_4
              have HBY6 := Lib.hid (Below.step HBw_r_12.out hY6)
              replace ct_10_0__132 := cell_below hY6 ct_10_0__132
              replace ct_10_1__133 := cell_below hY6 ct_10_1__133
              replace ct_10_2__134 := cell_below hY6 ct_10_2__134
              replace ct_10_3__135 := cell_below hY6 ct_10_3__135
              replace ct_10_4__136 := cell_below hY6 ct_10_4__136
              replace kr_12_0 := cell_below hY6 kr_12_0
              replace kr_12_1 := cell_below hY6 kr_12_1
              replace kr_12_2 := cell_below hY6 kr_12_2
              replace kr_12_3 := cell_below hY6 kr_12_3
              replace kr_12_4 := cell_below hY6 kr_12_4
              replace ct_26_0 := cell_below hY6 ct_26_0
              replace ct_26_1 := cell_below hY6 ct_26_1
              replace ct_26_2 := cell_below hY6 ct_26_2
              replace ct_26_3 := cell_below hY6 ct_26_3
              replace ct_26_4 := cell_below hY6 ct_26_4
              clear hY6
              replace H := ite_t H
              obtain rfl := ret_hid H
              go_wp2_with fail
              go_ret
              exact ⟨rfl, HBY6.out⟩
            | true =>
              replace H := let_hid H
              obtain ⟨t_29, ht_29, H⟩ := H
              obtain rfl : t_29 = false := ht_29.symm
              replace H := app_hid H
              replace H := app_hid H
              refine wp_region_quiet_below (by kernel_rfl) (by kernel_rfl) ?_
              repeat (go_big_quiet_step (first | (go_at_call 21; exact nt_16 _ _) | (go_at_call 30; exact nt_28 _ _)))
              refine wpQuiet_nil ?_
              intro Y6 hY6
              replace hY6 := below_class hY6
              clear nt_16 nt_28
              replace ct_10_0__132 := Hct_10_0__132.out
              clear Hct_10_0__132
              replace ct_10_1__133 := Hct_10_1__133.out
              clear Hct_10_1__133
              replace ct_10_2__134 := Hct_10_2__134.out
              clear Hct_10_2__134
              replace ct_10_3__135 := Hct_10_3__135.out
              clear Hct_10_3__135
              replace ct_10_4__136 := Hct_10_4__136.out
              clear Hct_10_4__136
              replace kr_12_0 := Hkr_12_0.out
              clear Hkr_12_0
              replace kr_12_1 := Hkr_12_1.out
              clear Hkr_12_1
              replace kr_12_2 := Hkr_12_2.out
              clear Hkr_12_2
              replace kr_12_3 := Hkr_12_3.out
              clear Hkr_12_3
              replace kr_12_4 := Hkr_12_4.out
              clear Hkr_12_4
              replace ct_26_0 := Hct_26_0.out
              clear Hct_26_0
              replace ct_26_1 := Hct_26_1.out
              clear Hct_26_1
              replace ct_26_2 := Hct_26_2.out
              clear Hct_26_2
              replace ct_26_3 := Hct_26_3.out
              clear Hct_26_3
              replace ct_26_4 := Hct_26_4.out
              clear Hct_26_4
              have HBY6 := Lib.hid (Below.step HBw_r_12.out hY6)
              replace ct_10_0__132 := cell_below hY6 ct_10_0__132
              replace ct_10_1__133 := cell_below hY6 ct_10_1__133
              replace ct_10_2__134 := cell_below hY6 ct_10_2__134
              replace ct_10_3__135 := cell_below hY6 ct_10_3__135
              replace ct_10_4__136 := cell_below hY6 ct_10_4__136
              replace kr_12_0 := cell_below hY6 kr_12_0
              replace kr_12_1 := cell_below hY6 kr_12_1
              replace kr_12_2 := cell_below hY6 kr_12_2
              replace kr_12_3 := cell_below hY6 kr_12_3
              replace kr_12_4 := cell_below hY6 kr_12_4
              replace ct_26_0 := cell_below hY6 ct_26_0
              replace ct_26_1 := cell_below hY6 ct_26_1
              replace ct_26_2 := cell_below hY6 ct_26_2
              replace ct_26_3 := cell_below hY6 ct_26_3
              replace ct_26_4 := cell_below hY6 ct_26_4
              clear hY6
              replace H := ite_f H
              replace H := app_hid H
              go_wp2_with fail
              go_roundg m0
              case measure => omega
              case rel => exact ⟨k0 + 1, by omega, by go_num, H, HBY6⟩
  | true =>
    have nht_3 : 16 < list.length := by have := of_decide_eq_true ht_3; omega
    replace H := ite_t H
    obtain rfl := ret_hid H
    go_wp2_with fail
    go_ret
    exact ⟨rfl, HB.out⟩
end Go.Proofs.YtlljmgphgmklcaaDoor.GiAreRates

/- loop.example/g01062/impl.canSend as a plain function, and the contract of the program's: where the plain one has an answer, the program has it. Conditions: slices read as lists. -/
namespace Go.Proofs.YtlljmgphgmklcaaDoor.GiCanSend
set_option linter.unusedVariables false
set_option linter.unusedSimpArgs false
open Go.RowKit
open Go.Proofs.YtlljmgphgmklcaaDoor.Rowed Go.Proofs.YtlljmgphgmklcaaDoor.Turn Go.Proofs.YtlljmgphgmklcaaDoor.Aid Go.Proofs.YtlljmgphgmklcaaDoor.GoP Go.Proofs.YtlljmgphgmklcaaDoor.GoM

def P (list : (List Go.Proofs.YtlljmgphgmklcaaDoor.PRate.Rate)) (zone : Int) (grams : Int) : Option (Bool) :=
  Option.bind (Go.Proofs.YtlljmgphgmklcaaDoor.GiAreRates.P list) fun (t_2 : Bool) =>
  joinK (fun (t_6 : Bool) =>
  joinK (fun (t_10 : Bool) =>
  some t_10) fun jt_10 => iteK t_6 (Option.bind (Go.Proofs.YtlljmgphgmklcaaDoor.GiIsWeight.P grams) fun (t_9 : Bool) =>
  appK jt_10 t_9) (appK jt_10 false)) fun jt_6 => iteK t_2 (Option.bind (Go.Proofs.YtlljmgphgmklcaaDoor.GiIsZone.P zone) fun (t_5 : Bool) =>
  appK jt_6 t_5) (appK jt_6 false)

set_option maxRecDepth 100000 in
set_option maxHeartbeats 2000000 in
theorem C (list : (List Go.Proofs.YtlljmgphgmklcaaDoor.PRate.Rate)) (zone : Int) (grams : Int) (A0 : Option Addr) (c0 : Nat)  (w : World) (M0 : Hid (Cells w 5 A0 list.length (Go.Proofs.YtlljmgphgmklcaaDoor.PRate.flat list))) (N0 : Hid (list.length ≤ 9223372036854775807))  {r : Bool} (H : Hid (P list zone grams = some r)) :
    Calls Tryd.prog 24 #[.slice A0 list.length c0, .int .i64 zone, .int .i64 grams] w (Gives (.bool r) w) := by
  have HB := Lib.hid (Below.refl w.heap.size w)
  unfold P at H
  have N0o := N0.out
  go_enter Tryd.func24, Tryd.ntmps24
  replace H := bind_hid H
  obtain ⟨t_2, qt_2, H⟩ := H
  go_wp2_with fail
  go_at_call 9
  refine (Go.Proofs.YtlljmgphgmklcaaDoor.GiAreRates.C (list) A0 c0 _   (Lib.hid (Cells.below M0.out HB.out)) N0 qt_2).mono ?_
  rintro e_t_2 wt_2 ⟨rfl, bt_2⟩
  have HBwt_2 := Lib.hid (Below.step HB.out bt_2)
  clear bt_2
  replace H := join_hid H
  cases t_2 with
  | false =>
    replace H := ite_f H
    replace H := app_hid H
    replace H := join_hid H
    replace H := ite_f H
    replace H := app_hid H
    obtain rfl := ret_hid H
    go_wp2_with fail
    go_ret
    exact ⟨rfl, HBwt_2.out⟩
  | true =>
    replace H := ite_t H
    replace H := bind_hid H
    obtain ⟨t_5, qt_5, H⟩ := H
    go_wp2_with fail
    go_at_call 35
    refine (Go.Proofs.YtlljmgphgmklcaaDoor.GiIsZone.C (zone)  _    qt_5).mono ?_
    rintro e_t_5 wt_5 ⟨rfl, bt_5⟩
    have HBwt_5 := Lib.hid (Below.step HBwt_2.out bt_5)
    clear bt_5
    replace H := app_hid H
    replace H := join_hid H
    cases t_5 with
    | false =>
      replace H := ite_f H
      replace H := app_hid H
      obtain rfl := ret_hid H
      go_wp2_with fail
      go_ret
      exact ⟨rfl, HBwt_5.out⟩
    | true =>
      replace H := ite_t H
      replace H := bind_hid H
      obtain ⟨t_9, qt_9, H⟩ := H
      go_wp2_with fail
      go_at_call 42
      refine (Go.Proofs.YtlljmgphgmklcaaDoor.GiIsWeight.C (grams)  _    qt_9).mono ?_
      rintro e_t_9 wt_9 ⟨rfl, bt_9⟩
      have HBwt_9 := Lib.hid (Below.step HBwt_5.out bt_9)
      clear bt_9
      replace H := app_hid H
      obtain rfl := ret_hid H
      go_wp2_with fail
      go_ret
      exact ⟨rfl, HBwt_9.out⟩
end Go.Proofs.YtlljmgphgmklcaaDoor.GiCanSend

/- More words for the contracts of plain functions: a test against nil, a row that is handed over, a row whose end is cleared. No condition. -/
namespace Go.Proofs.YtlljmgphgmklcaaDoor.GoK
set_option linter.unusedVariables false
open Go.RowKit
open Go.Proofs.YtlljmgphgmklcaaDoor.Rowed Go.Proofs.YtlljmgphgmklcaaDoor.Turn Go.Proofs.YtlljmgphgmklcaaDoor.GoM

/-- a test of a row against nil: only an empty row can be nil, and then both ways have one answer -/
def nilK {α ρ : Type} (l : List α) (f : Bool → Option ρ) : Option ρ := f false
theorem nilK_hid {α ρ : Type} {l : List α} {f : Bool → Option ρ} {r : ρ} (H : Hid (nilK l f = some r)) (b : Bool) (hb : b = true → l = []) (he : l = [] → f true = f false) : Hid (f b = some r) := by
  have h : f false = some r := H
  cases b with
  | false => exact h
  | true => exact (he (hb rfl)).trans h
theorem nil_cells {w : World} {K n : Nat} {A : Option Addr} {α : Type} {l : List α} {cs : List Value} (h : Cells w K A n cs) (hl : cs = [] → l = []) : A.isNone = true → l = [] := by
  intro hA
  refine hl ?_
  cases hc : cs with
  | nil => rfl
  | cons y ys => obtain ⟨a, e, _⟩ := h.2 (by rw [hc]; simp); rw [e] at hA; simp at hA
/-- where a row lies that a function hands on: where another one lay, or behind all that was there -/
def From (w : World) (A A' : Option Addr) : Prop := ∀ a', A' = some a' → (∃ a, A = some a ∧ a.block = a'.block) ∨ w.heap.size ≤ a'.block
theorem from_self {w : World} {A : Option Addr} : From w A A := fun a h => .inl ⟨a, h, rfl⟩
theorem from_new {w : World} {A : Option Addr} {g : Nat} (h : w.heap.size ≤ g) : From w A (some ⟨g, 0, none⟩) := by
  intro a' e
  injection e with e
  subst e
  exact .inr h
theorem apart_from {w : World} {A A' B : Option Addr} (hD : Apart A B) (hB : ∀ a, B = some a → a.block < w.heap.size) (h : From w A A') : Apart A' B := by
  intro a a' ha ha' e
  have hl := hB a' ha'
  rcases h a ha with ⟨a2, h2, e2⟩ | h2
  · exact hD a2 a' h2 ha' (e2.trans e)
  · omega
theorem own_emptyB {b : Nat} {wc : World} {T K : Nat} (h : b ≤ wc.heap.size) : (wc.alloc (.cells #[] T)).ownsRow b T K (.slice (some ⟨wc.heap.size, 0, none⟩) 0 0) 0 [] :=
  ⟨by simp, .inr ⟨wc.heap.size, 0, #[], rfl, h, heap_alloc_new wc _, Nat.le_refl _, by unfold maxLen; omega, by simp, by simp⟩⟩
theorem own_setCells {b T K n c g : Nat} : ∀ (vs : List Value) (o : Nat) {w : World} {xs : List Value}, w.ownsRow b T K (.slice (some ⟨g, 0, none⟩) n c) n xs → o + vs.length ≤ xs.length →
    (w.setCells g o vs).ownsRow b T K (.slice (some ⟨g, 0, none⟩) n c) n (xs.take o ++ vs ++ xs.drop (o + vs.length)) ∧ w.grownBy (w.setCells g o vs) (some g) := by
  intro vs
  induction vs with
  | nil => intro o w xs h _; exact ⟨by simpa [World.setCells] using h, Aid.grown_refl _ _⟩
  | cons v vs ih =>
    intro o w xs h hl
    simp only [List.length_cons] at hl
    have h1 := h.stored o v
    have h2 := ih (o + 1) h1.1 (by rw [List.length_set]; omega)
    refine ⟨?_, Aid.grown_tr h1.2 h2.2⟩
    have e : (xs.set o v).take (o + 1) ++ vs ++ (xs.set o v).drop (o + 1 + vs.length) = xs.take o ++ (v :: vs) ++ xs.drop (o + (v :: vs).length) := by
      have ho : o < xs.length := by omega
      rw [List.drop_set_of_lt (by omega), List.take_add_one, List.getElem?_set_self ho, List.take_set_of_le (Nat.le_refl _)]
      simp [Nat.add_comm, Nat.add_left_comm]
    rw [← e]
    exact h2.1
/-- clear(s[lo:]) of a row of its own -/
theorem own_clear {P : Program} {t e : TypeId} {i : TypeInfo} {k : IntKind} {n c b : Nat} {A : Option Addr} {lo : Int} {w : World} {xs ys : List Value} {z : Value}
    (ht : P.underlying t = some (.slice (P.elem t))) (he : P.elem t = e) (hi : P.info? e = some i) (hs : i.size = 1) (hv : i.zero = some z) (hz : z.cells = #[z]) (h1 : z.oneCell' = true)
    (h : w.ownsRow b e 1 (.slice A n c) n xs) (hl : 0 ≤ lo ∧ lo ≤ (n : Int)) (hd : xs.take lo.toNat ++ List.replicate (n - lo.toNat) z = ys) :
    ∃ A' m c' w', (∀ W, (Instr.slice t (.slice A n c) (some (.int k lo)) none none).run P W = .ok (.slice A' m c') W) ∧ (∀ ty, (Builtin.clear_ #[t] ty #[.slice A' m c']).run P w = .ok (.tuple #[]) w') ∧
      w'.ownsRow b e 1 (.slice A n c) n ys ∧ w.grownBy w' (Value.slice A n c).ownBlock := by
  have hR := own_room h
  have hxs : xs.length = n := by have := h.1; omega
  have hsz : ∀ W, (sizeOf (P.elem t)).run P W = .ok 1 W := by intro W; subst he; simp [sizeOf, typeInfo, hi, hs]
  have hrun : ∀ W, (Instr.slice t (.slice A n c) (some (.int k lo)) none none).run P W = .ok (.slice (if c = lo.toNat then A else A.map (·.add (lo.toNat * 1))) (n - lo.toNat) (c - lo.toNat)) W := by
    intro W
    rw [run_slice_l (P := P) W t A n c ht k lo hl.1 hl.2, hsz W]
    rfl
  by_cases hm : n - lo.toNat = 0
  · refine ⟨_, _, _, w, hrun, ?_, ?_, Aid.grown_refl _ _⟩
    · intro ty
      rw [hm]
      generalize (if c = lo.toNat then A else A.map (·.add (lo.toNat * 1))) = A'
      cases A' <;> simp [Builtin.clear_, run_underlying ht]
    · rw [← hd, hm, List.replicate_zero, List.append_nil, List.take_of_length_le (by omega)]
      exact h
  · obtain ⟨g, rfl⟩ := own_some h (by omega)
    have hne : ¬ c = lo.toNat := by have := hR.1; omega
    have hcl := own_cells h
    have hget : ∀ j, j < n → (w.cell? ⟨g, j, none⟩).isSome = true := by
      intro j hj
      obtain ⟨ad, e0, hc⟩ := hcl.2 (by omega)
      obtain rfl := Option.some.inj e0
      have := hc j xs[j] (List.getElem?_eq_getElem (by omega))
      rw [add_flat, Nat.zero_add] at this
      rw [this]; rfl
    have hadd : (if c = lo.toNat then (some ⟨g, 0, none⟩ : Option Addr) else (some ⟨g, 0, none⟩ : Option Addr).map (·.add (lo.toNat * 1))) = some ⟨g, lo.toNat, none⟩ := by
      rw [if_neg hne, Option.map_some, add_flat, Nat.zero_add, Nat.mul_one]
    rw [hadd] at hrun
    have h2 := own_setCells (List.replicate (n - lo.toNat) z) lo.toNat h (by rw [List.length_replicate]; omega)
    refine ⟨_, _, _, _, hrun, fun ty => ?_, ?_, h2.2⟩
    · refine Lib.run_clear_slice w t e ty z (he ▸ ht) (fun w => by simp [zeroValue, typeInfo, hi, hv]) hz h1 g lo.toNat (n - lo.toNat) (c - lo.toNat) (by omega) (fun j hj => hget _ (by omega)) (fun j hj => h.frozenAt _)
    · have e2 : xs.take lo.toNat ++ List.replicate (n - lo.toNat) z ++ xs.drop (lo.toNat + (List.replicate (n - lo.toNat) z).length) = ys := by
        rw [List.length_replicate, List.drop_of_length_le (by omega), List.append_nil, hd]
      rw [← e2]
      exact h2.1
theorem apart_xio {n bb oo : Nat} {B : Option Addr} (h : 0 < n → Apart (some ⟨bb, oo, none⟩) B) (h0 : 0 < n) : Apart B (some ⟨bb, 0, none⟩) := by
  intro a a' ha ha' e
  injection ha' with ha'
  subst ha'
  exact h h0 ⟨bb, oo, none⟩ a rfl ha e.symm
/-- a row that came in, where another one was written -/
theorem cells_wr {w w' : World} {K n q c' : Nat} {A B : Option Addr} {xs : List Value} (h : Cells w K A n xs) (hg : w.grownBy w' (Value.slice B q c').ownBlock) (hX : 0 < n → Apart A B) : Cells w' K A n xs := by
  refine ⟨h.1, fun h0 => ?_⟩
  obtain ⟨a, e, hc⟩ := h.2 h0
  have hn : 0 < n := by
    rcases Nat.eq_zero_or_pos n with h1 | h1
    · have := h.1; rw [h1, Nat.zero_mul] at this; omega
    · exact h1
  refine ⟨a, e, fun j u hu => ?_⟩
  have hj := hc j u hu
  have hb : (a.add j).block = a.block := by unfold Addr.add; split <;> rfl
  rw [World.cell?_of_block (hg.block (a.add j).block (cell_lt hj) ?_)]
  · exact hj
  · cases hB : B with
    | none => simp [Value.ownBlock]
    | some y =>
      simp only [Value.ownBlock, ne_eq, Option.some.injEq]
      intro e2
      exact hX hn a y e hB (by rw [← hb]; exact e2)
/-- what came in lies apart from a row of one's own -/
theorem far_base {w w1 : World} {K n T K' m c n' : Nat} {A B : Option Addr} {cs xs : List Value} (hK : 0 < K) (h : Cells w K A n cs) (hO : w1.ownsRow w.heap.size T K' (.slice B m c) n' xs) : 0 < n → Apart A B := by
  intro hn a a' ha ha' e
  have h0 : 0 < cs.length := by rw [h.1]; exact Nat.mul_pos hn hK
  obtain ⟨a2, e2, hc⟩ := h.2 h0
  obtain rfl : a = a2 := by rw [ha] at e2; exact Option.some.inj e2
  have hl := cell_lt (hc 0 _ (List.getElem?_eq_getElem h0))
  have hb : (a.add 0).block = a.block := by unfold Addr.add; simp
  have := (own_lt hO a' ha').1
  rw [hb] at hl
  omega
end Go.Proofs.YtlljmgphgmklcaaDoor.GoK

/- A row of numbers of one's own that the library's sort or Compact has gone over. No condition. -/
namespace Go.Proofs.YtlljmgphgmklcaaDoor.GoS
set_option linter.unusedVariables false
open Go.RowKit
open Go.Proofs.YtlljmgphgmklcaaDoor.Turn Go.Proofs.YtlljmgphgmklcaaDoor.GoM
theorem own_holds {b T n c g : Nat} {w : World} {l : List Int} (hn : l.length = n) (h : w.ownsRow b T 1 (.slice (some ⟨g, 0, none⟩) n c) n (Go.Proofs.YtlljmgphgmklcaaDoor.HelpInt.iv l)) : Sort.Holds (Value.int .i64) w g 0 l.toArray := by
  intro j hj
  have hj' : j < l.length := by simpa using hj
  refine ⟨?_, h.frozenAt _⟩
  obtain ⟨ad, ea, hc⟩ := (own_cells h).2 (by unfold Go.Proofs.YtlljmgphgmklcaaDoor.HelpInt.iv; rw [List.length_map]; omega)
  obtain rfl := Option.some.inj ea
  have hu : (Go.Proofs.YtlljmgphgmklcaaDoor.HelpInt.iv l)[j]? = some (.int .i64 l[j]) := by unfold Go.Proofs.YtlljmgphgmklcaaDoor.HelpInt.iv; simp [hj']
  have := hc j _ hu
  rw [add_flat] at this
  simp only [Nat.zero_add] at this ⊢
  rw [this]
  simp [hj']
theorem own_put {b T n c g : Nat} {w : World} {l m : List Int} (hn : l.length = n) (hm : m.length = n) (h : w.ownsRow b T 1 (.slice (some ⟨g, 0, none⟩) n c) n (Go.Proofs.YtlljmgphgmklcaaDoor.HelpInt.iv l)) (q : Nat) :
    (Sort.putRow (Value.int .i64) (Sort.ahead w q) g 0 m.toArray).ownsRow b T 1 (.slice (some ⟨g, 0, none⟩) n c) n (Go.Proofs.YtlljmgphgmklcaaDoor.HelpInt.iv m) ∧ w.grownBy (Sort.putRow (Value.int .i64) (Sort.ahead w q) g 0 m.toArray) (some g) := by
  have hH := own_holds hn h
  rw [Lib.putRow_eq_setCells (Value.int .i64) w g 0 l.toArray m q hH (by simp; omega)]
  have hd : w.grownBy (w.drewN q) (some g) := ⟨rfl, rfl, rfl, Nat.le_refl _, fun _ _ _ => rfl⟩
  have h0 : w.grownBy (w.drewN q) none := ⟨rfl, rfl, rfl, Nat.le_refl _, fun _ _ _ => rfl⟩
  have h1 := h.kept h0 (by simp [Value.ownBlock])
  have hl : (Go.Proofs.YtlljmgphgmklcaaDoor.HelpInt.iv l).length = n := by unfold Go.Proofs.YtlljmgphgmklcaaDoor.HelpInt.iv; simp [hn]
  have h2 := Go.Proofs.YtlljmgphgmklcaaDoor.GoK.own_setCells (m.map (Value.int .i64)) 0 h1 (by rw [List.length_map]; omega)
  have e : (Go.Proofs.YtlljmgphgmklcaaDoor.HelpInt.iv l).take 0 ++ m.map (Value.int .i64) ++ (Go.Proofs.YtlljmgphgmklcaaDoor.HelpInt.iv l).drop (0 + (m.map (Value.int .i64)).length) = Go.Proofs.YtlljmgphgmklcaaDoor.HelpInt.iv m := by
    rw [List.length_map, Nat.zero_add, hm, List.drop_of_length_le (by omega)]
    simp [Go.Proofs.YtlljmgphgmklcaaDoor.HelpInt.iv]
  rw [e] at h2
  exact ⟨h2.1, Aid.grown_tr hd h2.2⟩
def bts (l : List ByteArray) : List (List UInt8) := l.map (·.data.toList)
def unb (l : List (List UInt8)) : List ByteArray := l.map fun x => ⟨x.toArray⟩
theorem unb_bts (l : List ByteArray) : unb (bts l) = l := by
  unfold unb bts
  rw [List.map_map]
  have : ((fun x : List UInt8 => (⟨x.toArray⟩ : ByteArray)) ∘ fun x : ByteArray => x.data.toList) = id := by
    funext x; obtain ⟨⟨l⟩⟩ := x; rfl
  rw [this, List.map_id]
theorem bts_len (l : List ByteArray) : (bts l).length = l.length := by simp [bts]
theorem unb_len (l : List (List UInt8)) : (unb l).length = l.length := by simp [unb]
theorem unb_map (l : List (List UInt8)) : (unb l).map Value.string = l.map Go.Proofs.encStr := by
  unfold unb
  rw [List.map_map]; rfl
theorem own_holdsS {b T n c g : Nat} {w : World} {l : List ByteArray} (hn : l.length = n) (h : w.ownsRow b T 1 (.slice (some ⟨g, 0, none⟩) n c) n (l.map Value.string)) : Sort.Holds Go.Proofs.encStr w g 0 (bts l).toArray := by
  intro j hj
  have hj' : j < l.length := by simpa [bts] using hj
  refine ⟨?_, h.frozenAt _⟩
  obtain ⟨ad, ea, hc⟩ := (own_cells h).2 (by rw [List.length_map]; omega)
  obtain rfl := Option.some.inj ea
  have hu : (l.map Value.string)[j]? = some (.string l[j]) := by simp [hj']
  have := hc j _ hu
  rw [add_flat] at this
  simp only [Nat.zero_add] at this ⊢
  rw [this]
  simp [bts, hj', Go.Proofs.encStr]
theorem own_putS {b T n c g : Nat} {w : World} {l : List ByteArray} {m : List (List UInt8)} (hn : l.length = n) (hm : m.length = n) (h : w.ownsRow b T 1 (.slice (some ⟨g, 0, none⟩) n c) n (l.map Value.string)) (q : Nat) :
    (Sort.putRow Go.Proofs.encStr (Sort.ahead w q) g 0 m.toArray).ownsRow b T 1 (.slice (some ⟨g, 0, none⟩) n c) n ((unb m).map Value.string) ∧ w.grownBy (Sort.putRow Go.Proofs.encStr (Sort.ahead w q) g 0 m.toArray) (some g) := by
  have hH := own_holdsS hn h
  rw [Lib.putRow_eq_setCells Go.Proofs.encStr w g 0 (bts l).toArray m q hH (by simp [bts]; omega)]
  have hd : w.grownBy (w.drewN q) (some g) := ⟨rfl, rfl, rfl, Nat.le_refl _, fun _ _ _ => rfl⟩
  have h0 : w.grownBy (w.drewN q) none := ⟨rfl, rfl, rfl, Nat.le_refl _, fun _ _ _ => rfl⟩
  have h1 := h.kept h0 (by simp [Value.ownBlock])
  have hl : (l.map Value.string).length = n := by simp [hn]
  have h2 := Go.Proofs.YtlljmgphgmklcaaDoor.GoK.own_setCells (m.map Go.Proofs.encStr) 0 h1 (by rw [List.length_map]; omega)
  have e : (l.map Value.string).take 0 ++ m.map Go.Proofs.encStr ++ (l.map Value.string).drop (0 + (m.map Go.Proofs.encStr).length) = (unb m).map Value.string := by
    rw [List.length_map, Nat.zero_add, hm, List.drop_of_length_le (by omega), unb_map]
    simp
  rw [e] at h2
  exact ⟨h2.1, Aid.grown_tr hd h2.2⟩
theorem grown_grow (w : World) (os : Array Obj) (r : Option Nat) : w.grownBy (Sort.grow w os) r := by
  refine ⟨rfl, rfl, rfl, by simp [Sort.grow], fun k hk _ => ?_⟩
  show (w.heap ++ os)[k]? = w.heap[k]?
  rw [Array.getElem?_append_left hk]
end Go.Proofs.YtlljmgphgmklcaaDoor.GoS

