/- Texts on which the proofs of several laws stand, one behind the other (7 of 18). No condition of their own. -/
import Derived.Test.YtgbcdmlcmnaimaaChecked
import Derived.Test.YtgbcdmlcmnaimaaX10P1
import Derived.Test.YtgbcdmlcmnaimaaX10P3
import Derived.Test.YtgbcdmlcmnaimaaX10P5
import Derived.Test.YtgbcdmlcmnaimaaX10P6
import Derived.WalkKit
import Derived.WalkSpells
import Derived.WalkLawsBesides
import Derived.BigQuiet
import Derived.OwnWalk
import Derived.Deep.LoopGhost
import Derived.Deep.QuietTactic
import Derived.IntWalk
import Derived.Lib.QuietBelow
import Derived.Laws.StructEq
import Derived.ChangeKeysEq
import Derived.Deep.RegionHeld3
set_option linter.unusedVariables false
set_option linter.unusedSimpArgs false
namespace Go.Proofs.Ytgbcdmlcmnaimaa.GsDrawFaultOf
open Go.RowKit
open Go.Proofs.Ytgbcdmlcmnaimaa.Rowed Go.Proofs.Ytgbcdmlcmnaimaa.Turn Go.Proofs.Ytgbcdmlcmnaimaa.Aid Go.Proofs.Ytgbcdmlcmnaimaa.GoP Go.Proofs.Ytgbcdmlcmnaimaa.GoM

def P (fuel : Nat) (tapes : List Int → GoC.Tape) (code : (List Int)) : Option ((List PRate.Rate) × (List PMail.Mail) × PCover.Cover) :=
 letK (tapes code) fun (t_5 : GoC.Tape) =>
 bind2 (GsL1CurRates.P fuel t_5) fun (t_8 : (List PRate.Rate)) (t_8_tp : GoC.Tape) =>
 bind2 (GsL1CurTimetable.P fuel t_8_tp) fun (t_10 : (List PMail.Mail)) (t_10_tp : GoC.Tape) =>
 bind2 (GsL1CurCover.P t_10_tp 7) fun (t_12 : PCover.Cover) (t_12_tp : GoC.Tape) =>
 unCover t_12 fun (t_12_id : Int) (t_12_day : Int) (t_12_zone : Int) (t_12_grams : Int) (t_12_paid : Int) (t_12_from_ : Int) (t_12_to_ : Int) (t_12_leave : Int) (t_12_arrive : Int) =>
 some (t_8, t_10, (PCover.Cover.mk t_12_id t_12_day t_12_zone t_12_grams t_12_paid t_12_from_ t_12_to_ t_12_leave t_12_arrive))

set_option maxRecDepth 100000 in
set_option maxHeartbeats 2000000 in
theorem C (fuel : Nat) (tapes : List Int → GoC.Tape) (code : (List Int)) (A0 : Option Addr) (c0 : Nat)  (w : World) (HE : Hid (GoC.Tells tapes)) (M0 : Hid (Cells w 1 A0 code.length (GoC.u8s code))) (N0 : Hid (code.length ≤ 9223372036854775807)) (V0 : Hid (∀ z ∈ code, 0 ≤ z ∧ z ≤ 255))  {r0 : (List PRate.Rate)} {r1 : (List PMail.Mail)} {r2 : PCover.Cover} (H : Hid (P fuel tapes code = some (r0, r1, r2))) :
  Calls Try.prog 6 #[.slice A0 code.length c0] w (fun e w' => ∃ A_r0 c_r0 A_r1 c_r1, e = .returned (.tuple #[.slice A_r0 r0.length c_r0, .slice A_r1 r1.length c_r1, (PCover.Cover.val r2)]) ∧ w'.ownsRow w.heap.size 92 5 (.slice A_r0 r0.length c_r0) r0.length (PRate.flat r0) ∧ w'.ownsRow w.heap.size 77 4 (.slice A_r1 r1.length c_r1) r1.length (PMail.flat r1) ∧ Apart A_r0 A_r1 ∧ Below w.heap.size w w') := by
 have HB := Lib.hid (Below.refl w.heap.size w); unfold P at H; have N0o := N0.out
 go_enter Try.func6, Try.ntmps6
 obtain ⟨b10, f10⟩ : ∃ x, w.alloc (.cells #[.int .i64 0, .int .i64 0, .int .i64 0, .int .i64 0, .int .i64 0, .int .i64 0, .int .i64 0, .int .i64 0, .int .i64 0] 27) = x := ⟨_, rfl⟩; have o11 : Below w.heap.size w b10 := (by rw [← f10]; exact (Below.refl _ _).alloc (Nat.le_refl _) _); have k11 := Lib.hid (Below.step HB.out o11); clear o11; have i11 : b10.cell? ⟨w.heap.size, 0, none⟩ = some (.int .i64 0) := (by rw [← f10]; exact box_new _ _ _ 0 _ rfl); have c12 : b10.cell? ⟨w.heap.size, 1, none⟩ = some (.int .i64 0) := (by rw [← f10]; exact box_new _ _ _ 1 _ rfl); have v11 : b10.cell? ⟨w.heap.size, 2, none⟩ = some (.int .i64 0) := (by rw [← f10]; exact box_new _ _ _ 2 _ rfl); have b12 : b10.cell? ⟨w.heap.size, 3, none⟩ = some (.int .i64 0) := (by rw [← f10]; exact box_new _ _ _ 3 _ rfl); have a12 : b10.cell? ⟨w.heap.size, 4, none⟩ = some (.int .i64 0) := (by rw [← f10]; exact box_new _ _ _ 4 _ rfl); have t11 : b10.cell? ⟨w.heap.size, 5, none⟩ = some (.int .i64 0) := (by rw [← f10]; exact box_new _ _ _ 5 _ rfl); have f12 : b10.cell? ⟨w.heap.size, 6, none⟩ = some (.int .i64 0) := (by rw [← f10]; exact box_new _ _ _ 6 _ rfl); have g12 : b10.cell? ⟨w.heap.size, 7, none⟩ = some (.int .i64 0) := (by rw [← f10]; exact box_new _ _ _ 7 _ rfl); have x11 : b10.cell? ⟨w.heap.size, 8, none⟩ = some (.int .i64 0) := (by rw [← f10]; exact box_new _ _ _ 8 _ rfl); have Ot_2 : Hid (b10.ownsRow w.heap.size 27 9 (.slice (some ⟨w.heap.size, 0, none⟩) 1 1) 1 [.int .i64 0, .int .i64 0, .int .i64 0, .int .i64 0, .int .i64 0, .int .i64 0, .int .i64 0, .int .i64 0, .int .i64 0]) := Lib.hid (by rw [← f10]; exact own_laid (n := 1) HB.out.size rfl rfl (by unfold maxLen; omega)); replace H := let_hid H; obtain ⟨t_5, ht_5, H⟩ := H; obtain ⟨l11, q11⟩ : ∃ x, b10.alloc (.cells #[.slice A0 code.length c0, .int .i64 0, .int .u64 0] 60) = x := ⟨_, rfl⟩; have e10 : Below b10.heap.size b10 l11 := (by rw [← q11]; exact (Below.refl _ _).alloc (Nat.le_refl _) _); have Kt_5 : Hid (GoC.CurIs l11 w.heap.size b10.heap.size A0 c0 t_5) := Lib.hid (by rw [← q11, ← ht_5]; exact GoC.cur_new k11.out.size (Cells.below M0.out k11.out) (fun a_ ha_ h0_ => by subst ha_; exact GoC.cells_lt M0.out (by unfold GoC.u8s; rw [List.length_map]; exact h0_)) (HE.out.2.2 code V0.out N0.out)); have g13 := Lib.hid ht_5; clear ht_5; have a10 := Lib.hid (apart_box i11); have j11 := Lib.hid (Below.step k11.out e10); have i10 := cell_below e10 i11; have m10 := cell_below e10 c12; have q10 := cell_below e10 v11; have j10 := cell_below e10 b12; have p10 := cell_below e10 a12; have k10 := cell_below e10 t11; have o10 := cell_below e10 f12; have n10 := cell_below e10 g12; have l10 := cell_below e10 x11; replace Ot_2 := Lib.hid (own_below Ot_2.out e10); clear e10; replace H := bind2_hid H; obtain ⟨t_8, s12, qt_8, H⟩ := H; go_wp2_with fail; clear i11 c12 v11 b12 a12 t11 f12 g12 x11; go_at_call 34; refine (GsL1CurRates.C fuel (t_5) (b10.heap.size) (A0) (c0) (w.heap.size) _   Kt_5 qt_8).mono ?_; rintro h13 wt_8 ⟨At_8, ct_8, rfl, ot_8, kt_8, gt_8⟩; have r12 := Lib.hid (apart_callbox ot_8 i10); have d12 := Lib.hid (GoC.apart_callcur ot_8 Kt_5.out); have Ot_8 := Lib.hid (own_lower ot_8 j11.out.size); clear ot_8; have Kt_8 := Lib.hid kt_8; have Gt_8 : Hid (l11.grownBy wt_8 (Value.slice (some ⟨b10.heap.size, 0, none⟩) 1 1).ownBlock) := Lib.hid gt_8; clear kt_8 gt_8; have g11 := Lib.hid (GoC.below_cur j11.out Gt_8.out j11.out.size (GoC.cur_lt Kt_5.out).1); replace i10 := cell_other i10 Gt_8.out a10.out; replace m10 := cell_other m10 Gt_8.out a10.out; replace q10 := cell_other q10 Gt_8.out a10.out; replace j10 := cell_other j10 Gt_8.out a10.out; replace p10 := cell_other p10 Gt_8.out a10.out; replace k10 := cell_other k10 Gt_8.out a10.out; replace o10 := cell_other o10 Gt_8.out a10.out; replace n10 := cell_other n10 Gt_8.out a10.out; replace l10 := cell_other l10 Gt_8.out a10.out; replace Ot_2 := Lib.hid (own_other Ot_2.out Gt_8.out a10.out)
 clear Kt_5 Gt_8; replace H := bind2_hid H; obtain ⟨t_10, j12, o12, H⟩ := H; go_wp2_with fail; go_at_call 35; refine (GsL1CurTimetable.C fuel (s12) (b10.heap.size) (A0) (c0) (w.heap.size) _   Kt_8 o12).mono ?_; rintro f13 y11 ⟨p11, i12, rfl, c11, r11, m11⟩; have k12 := Lib.hid (apart_call c11 Ot_8.out); have a13 := Lib.hid (apart_callbox c11 i10); have n12 := Lib.hid (GoC.apart_callcur c11 Kt_8.out); have a11 := Lib.hid (own_lower c11 g11.out.size); clear c11; have h11 := Lib.hid r11; have d10 : Hid (wt_8.grownBy y11 (Value.slice (some ⟨b10.heap.size, 0, none⟩) 1 1).ownBlock) := Lib.hid m11; clear r11 m11; have h12 := Lib.hid (GoC.below_cur g11.out d10.out g11.out.size (GoC.cur_lt Kt_8.out).1); replace i10 := cell_other i10 d10.out a10.out; replace m10 := cell_other m10 d10.out a10.out; replace q10 := cell_other q10 d10.out a10.out; replace j10 := cell_other j10 d10.out a10.out; replace p10 := cell_other p10 d10.out a10.out; replace k10 := cell_other k10 d10.out a10.out; replace o10 := cell_other o10 d10.out a10.out; replace n10 := cell_other n10 d10.out a10.out; replace l10 := cell_other l10 d10.out a10.out; replace Ot_2 := Lib.hid (own_other Ot_2.out d10.out a10.out); replace Ot_8 := Lib.hid (own_other Ot_8.out d10.out (Apart.symm d12.out)); clear Kt_8 d10; replace H := bind2_hid H; obtain ⟨t_12, n13, v12, H⟩ := H; obtain ⟨v10, t10, r10, d11, w10, s10, b11, z10, x10⟩ := t_12; replace H := unCover_hid H; go_wp2_with fail; go_at_call 36; refine (GsL1CurCover.C (j12) (7) (b10.heap.size) (A0) (c0) (w.heap.size) _   h11 v12).mono ?_; rintro e13 e11 ⟨rfl, s11, w11⟩; unfold PCover.Cover.val; have n11 := Lib.hid s11; have c10 : Hid (y11.grownBy e11 (Value.slice (some ⟨b10.heap.size, 0, none⟩) 1 1).ownBlock) := Lib.hid w11; clear s11 w11; have z11 := Lib.hid (GoC.below_cur h12.out c10.out h12.out.size (GoC.cur_lt h11.out).1); replace i10 := cell_other i10 c10.out a10.out; replace m10 := cell_other m10 c10.out a10.out; replace q10 := cell_other q10 c10.out a10.out; replace j10 := cell_other j10 c10.out a10.out; replace p10 := cell_other p10 c10.out a10.out; replace k10 := cell_other k10 c10.out a10.out; replace o10 := cell_other o10 c10.out a10.out; replace n10 := cell_other n10 c10.out a10.out; replace l10 := cell_other l10 c10.out a10.out; replace Ot_2 := Lib.hid (own_other Ot_2.out c10.out a10.out); replace Ot_8 := Lib.hid (own_other Ot_8.out c10.out (Apart.symm d12.out)); replace a11 := Lib.hid (own_other a11.out c10.out (Apart.symm n12.out)); clear h11 c10; obtain ⟨g10, e12⟩ : ∃ x, (((((((((e11).setCell ⟨w.heap.size, 0, none⟩ (.int .i64 v10)).setCell ⟨w.heap.size, 1, none⟩ (.int .i64 t10)).setCell ⟨w.heap.size, 2, none⟩ (.int .i64 r10)).setCell ⟨w.heap.size, 3, none⟩ (.int .i64 d11)).setCell ⟨w.heap.size, 4, none⟩ (.int .i64 w10)).setCell ⟨w.heap.size, 5, none⟩ (.int .i64 s10)).setCell ⟨w.heap.size, 6, none⟩ (.int .i64 b11)).setCell ⟨w.heap.size, 7, none⟩ (.int .i64 z10)).setCell ⟨w.heap.size, 8, none⟩ (.int .i64 x10) = x := ⟨_, rfl⟩; have o13 := Ot_2.out.frozenAt 0; have c13 := Ot_2.out.frozenAt 1; have i13 := Ot_2.out.frozenAt 2; have k13 := Ot_2.out.frozenAt 3; have d13 := Ot_2.out.frozenAt 4; have l13 := Ot_2.out.frozenAt 5; have p13 := Ot_2.out.frozenAt 6; have m13 := Ot_2.out.frozenAt 7; have j13 := Ot_2.out.frozenAt 8; have f11 := Lib.hid (own_stores [(0, .int .i64 v10), (1, .int .i64 t10), (2, .int .i64 r10), (3, .int .i64 d11), (4, .int .i64 w10), (5, .int .i64 s10), (6, .int .i64 b11), (7, .int .i64 z10), (8, .int .i64 x10)] Ot_2.out); have h10 : Hid (g10.ownsRow w.heap.size 27 9 (.slice (some ⟨w.heap.size, 0, none⟩) 1 1) 1 [.int .i64 v10, .int .i64 t10, .int .i64 r10, .int .i64 d11, .int .i64 w10, .int .i64 s10, .int .i64 b11, .int .i64 z10, .int .i64 x10]) := Lib.hid (by rw [← e12]; exact f11.out.1); have y10 : Hid (e11.grownBy g10 (Value.slice (some ⟨w.heap.size, 0, none⟩) 1 1).ownBlock) := Lib.hid (by rw [← e12]; exact f11.out.2); have q12 := Lib.hid (z11.out.grown y10.out z11.out.size (fun q hq => (Ot_2.out.lt q hq).1))
 clear f11; replace Ot_8 := Lib.hid (own_other Ot_8.out y10.out (Apart.symm r12.out)); replace a11 := Lib.hid (own_other a11.out y10.out (Apart.symm a13.out)); replace n11 := Lib.hid (GoC.cur_other n11.out y10.out (Apart.symm a10.out) (GoC.own_ge Ot_2.out)); clear Ot_2 y10; have z12 : g10.cell? ⟨w.heap.size, 0, none⟩ = some (.int .i64 v10) := h10.out.cells rfl 0 _ rfl; have w12 : g10.cell? ⟨w.heap.size, 1, none⟩ = some (.int .i64 t10) := h10.out.cells rfl 1 _ rfl; have b13 : g10.cell? ⟨w.heap.size, 2, none⟩ = some (.int .i64 r10) := h10.out.cells rfl 2 _ rfl; have x12 : g10.cell? ⟨w.heap.size, 3, none⟩ = some (.int .i64 d11) := h10.out.cells rfl 3 _ rfl; have m12 : g10.cell? ⟨w.heap.size, 4, none⟩ = some (.int .i64 w10) := h10.out.cells rfl 4 _ rfl; have t12 : g10.cell? ⟨w.heap.size, 5, none⟩ = some (.int .i64 s10) := h10.out.cells rfl 5 _ rfl; have l12 : g10.cell? ⟨w.heap.size, 6, none⟩ = some (.int .i64 b11) := h10.out.cells rfl 6 _ rfl; have y12 : g10.cell? ⟨w.heap.size, 7, none⟩ = some (.int .i64 z10) := h10.out.cells rfl 7 _ rfl; have p12 : g10.cell? ⟨w.heap.size, 8, none⟩ = some (.int .i64 x10) := h10.out.cells rfl 8 _ rfl; have hR_ := ret_hid H; simp only [Prod.mk.injEq] at hR_; obtain ⟨rfl, rfl, rfl⟩ := hR_; go_wp2_with fail
 (try simp only [Exit.inBlock, Exit.then])
 refine bodyPost_ret (v := .tuple #[.slice At_8 t_8.length ct_8, .slice p11 t_10.length i12, .agg #[.int .i64 v10, .int .i64 t10, .int .i64 r10, .int .i64 d11, .int .i64 w10, .int .i64 s10, .int .i64 b11, .int .i64 z10, .int .i64 x10]]) ?hr_ ?hd_ ?_
 case hd_ => rfl
 case hr_ => simp [results, Try.results6, z12, w12, b13, x12, m12, t12, l12, y12, p12, go_sem]
 exact ⟨At_8, ct_8, p11, i12, rfl, Ot_8.out, a11.out, (Apart.symm k12.out), q12.out⟩
end Go.Proofs.Ytgbcdmlcmnaimaa.GsDrawFaultOf

namespace Go.Proofs.Ytgbcdmlcmnaimaa.GiWithin
open Go.RowKit
open Go.Proofs.Ytgbcdmlcmnaimaa.Rowed Go.Proofs.Ytgbcdmlcmnaimaa.Turn Go.Proofs.Ytgbcdmlcmnaimaa.Aid Go.Proofs.Ytgbcdmlcmnaimaa.GoP Go.Proofs.Ytgbcdmlcmnaimaa.GoM

def P (n_0 : Int) (low : Int) (high : Int) : Option (Bool) :=
  letK (decide (low ≤ n_0)) fun (t_3 : Bool) =>
  joinK (fun (t_8 : Bool) =>
  some t_8) fun jt_8 => iteK t_3 (letK (decide (n_0 ≤ high)) fun (t_7 : Bool) =>
  appK jt_8 t_7) (appK jt_8 false)

set_option maxRecDepth 100000 in
set_option maxHeartbeats 2000000 in
theorem C (n_0 : Int) (low : Int) (high : Int)   (w : World)   {r : Bool} (H : Hid (P n_0 low high = some r)) :
    Calls Try.prog 52 #[.int .i64 n_0, .int .i64 low, .int .i64 high] w (Gives (.bool r) w) := by
  have HB := Lib.hid (Below.refl w.heap.size w)
  unfold P at H
  go_enter Try.func52, Try.ntmps52
  replace H := let_hid H
  obtain ⟨t_3, ht_3, H⟩ := H
  replace H := join_hid H
  cases t_3 with
  | false =>
    replace H := ite_f H
    replace H := app_hid H
    obtain rfl := ret_hid H
    go_wp2_with fail
    go_ret
    exact ⟨rfl, HB.out⟩
  | true =>
    replace H := ite_t H
    replace H := let_hid H
    obtain ⟨t_7, ht_7, H⟩ := H
    replace H := app_hid H
    obtain rfl := ret_hid H
    go_wp2_with fail
    go_ret
    exact ⟨rfl, HB.out⟩

set_option maxRecDepth 100000 in
set_option maxHeartbeats 2000000 in
theorem C0 (n_0 : Int) (low : Int) (high : Int)   (w : World)   {r : Bool} (H : Hid (P n_0 low high = some r)) :
    Calls Try.prog 52 #[.int .i64 n_0, .int .i64 low, .int .i64 high] w (fun e w'' => e = .returned (.bool r) ∧ w'' = w) := by
  have HB := Lib.hid (Below.refl w.heap.size w)
  unfold P at H
  go_enter Try.func52, Try.ntmps52
  replace H := let_hid H
  obtain ⟨t_3, ht_3, H⟩ := H
  replace H := join_hid H
  cases t_3 with
  | false =>
    replace H := ite_f H
    replace H := app_hid H
    obtain rfl := ret_hid H
    go_wp2_with fail
    go_ret
    exact ⟨rfl, rfl⟩
  | true =>
    replace H := ite_t H
    replace H := let_hid H
    obtain ⟨t_7, ht_7, H⟩ := H
    replace H := app_hid H
    obtain rfl := ret_hid H
    go_wp2_with fail
    go_ret
    exact ⟨rfl, rfl⟩
end Go.Proofs.Ytgbcdmlcmnaimaa.GiWithin

namespace Go.Proofs.Ytgbcdmlcmnaimaa.GiIsZone
open Go.RowKit
open Go.Proofs.Ytgbcdmlcmnaimaa.Rowed Go.Proofs.Ytgbcdmlcmnaimaa.Turn Go.Proofs.Ytgbcdmlcmnaimaa.Aid Go.Proofs.Ytgbcdmlcmnaimaa.GoP Go.Proofs.Ytgbcdmlcmnaimaa.GoM

def P (zone : Int) : Option (Bool) :=
  Option.bind (Go.Proofs.Ytgbcdmlcmnaimaa.GiWithin.P zone 0 9) fun (t_2 : Bool) =>
  some t_2

set_option maxRecDepth 100000 in
set_option maxHeartbeats 2000000 in
theorem C (zone : Int)   (w : World)   {r : Bool} (H : Hid (P zone = some r)) :
    Calls Try.prog 58 #[.int .i64 zone] w (Gives (.bool r) w) := by
  have HB := Lib.hid (Below.refl w.heap.size w)
  unfold P at H
  go_enter Try.func58, Try.ntmps58
  replace H := bind_hid H
  obtain ⟨t_2, qt_2, H⟩ := H
  go_wp2_with fail
  go_at_call 52
  refine (Go.Proofs.Ytgbcdmlcmnaimaa.GiWithin.C (zone) (0) (9)  _    qt_2).mono ?_
  rintro e_t_2 wt_2 ⟨rfl, bt_2⟩
  have HBwt_2 := Lib.hid (Below.step HB.out bt_2)
  clear bt_2
  obtain rfl := ret_hid H
  go_wp2_with fail
  go_ret
  exact ⟨rfl, HBwt_2.out⟩
end Go.Proofs.Ytgbcdmlcmnaimaa.GiIsZone

namespace Go.Proofs.Ytgbcdmlcmnaimaa.GiIsWeight
open Go.RowKit
open Go.Proofs.Ytgbcdmlcmnaimaa.Rowed Go.Proofs.Ytgbcdmlcmnaimaa.Turn Go.Proofs.Ytgbcdmlcmnaimaa.Aid Go.Proofs.Ytgbcdmlcmnaimaa.GoP Go.Proofs.Ytgbcdmlcmnaimaa.GoM

def P (grams : Int) : Option (Bool) :=
  Option.bind (Go.Proofs.Ytgbcdmlcmnaimaa.GiWithin.P grams 1 2000) fun (t_2 : Bool) =>
  some t_2

set_option maxRecDepth 100000 in
set_option maxHeartbeats 2000000 in
theorem C (grams : Int)   (w : World)   {r : Bool} (H : Hid (P grams = some r)) :
    Calls Try.prog 59 #[.int .i64 grams] w (Gives (.bool r) w) := by
  have HB := Lib.hid (Below.refl w.heap.size w)
  unfold P at H
  go_enter Try.func59, Try.ntmps59
  replace H := bind_hid H
  obtain ⟨t_2, qt_2, H⟩ := H
  go_wp2_with fail
  go_at_call 52
  refine (Go.Proofs.Ytgbcdmlcmnaimaa.GiWithin.C (grams) (1) (2000)  _    qt_2).mono ?_
  rintro e_t_2 wt_2 ⟨rfl, bt_2⟩
  have HBwt_2 := Lib.hid (Below.step HB.out bt_2)
  clear bt_2
  obtain rfl := ret_hid H
  go_wp2_with fail
  go_ret
  exact ⟨rfl, HBwt_2.out⟩
end Go.Proofs.Ytgbcdmlcmnaimaa.GiIsWeight

namespace Go.Proofs.Ytgbcdmlcmnaimaa.GiIsRateCents
open Go.RowKit
open Go.Proofs.Ytgbcdmlcmnaimaa.Rowed Go.Proofs.Ytgbcdmlcmnaimaa.Turn Go.Proofs.Ytgbcdmlcmnaimaa.Aid Go.Proofs.Ytgbcdmlcmnaimaa.GoP Go.Proofs.Ytgbcdmlcmnaimaa.GoM

def P (cents : Int) : Option (Bool) :=
  Option.bind (Go.Proofs.Ytgbcdmlcmnaimaa.GiWithin.P cents 1 9999) fun (t_2 : Bool) =>
  some t_2

set_option maxRecDepth 100000 in
set_option maxHeartbeats 2000000 in
theorem C (cents : Int)   (w : World)   {r : Bool} (H : Hid (P cents = some r)) :
    Calls Try.prog 60 #[.int .i64 cents] w (Gives (.bool r) w) := by
  have HB := Lib.hid (Below.refl w.heap.size w)
  unfold P at H
  go_enter Try.func60, Try.ntmps60
  replace H := bind_hid H
  obtain ⟨t_2, qt_2, H⟩ := H
  go_wp2_with fail
  go_at_call 52
  refine (Go.Proofs.Ytgbcdmlcmnaimaa.GiWithin.C (cents) (1) (9999)  _    qt_2).mono ?_
  rintro e_t_2 wt_2 ⟨rfl, bt_2⟩
  have HBwt_2 := Lib.hid (Below.step HB.out bt_2)
  clear bt_2
  obtain rfl := ret_hid H
  go_wp2_with fail
  go_ret
  exact ⟨rfl, HBwt_2.out⟩
end Go.Proofs.Ytgbcdmlcmnaimaa.GiIsRateCents

namespace Go.Proofs.Ytgbcdmlcmnaimaa.GiIsDay
open Go.RowKit
open Go.Proofs.Ytgbcdmlcmnaimaa.Rowed Go.Proofs.Ytgbcdmlcmnaimaa.Turn Go.Proofs.Ytgbcdmlcmnaimaa.Aid Go.Proofs.Ytgbcdmlcmnaimaa.GoP Go.Proofs.Ytgbcdmlcmnaimaa.GoM

def P (day : Int) : Option (Bool) :=
  Option.bind (Go.Proofs.Ytgbcdmlcmnaimaa.GiWithin.P day 0 4000) fun (t_2 : Bool) =>
  some t_2

set_option maxRecDepth 100000 in
set_option maxHeartbeats 2000000 in
theorem C (day : Int)   (w : World)   {r : Bool} (H : Hid (P day = some r)) :
    Calls Try.prog 57 #[.int .i64 day] w (Gives (.bool r) w) := by
  have HB := Lib.hid (Below.refl w.heap.size w)
  unfold P at H
  go_enter Try.func57, Try.ntmps57
  replace H := bind_hid H
  obtain ⟨t_2, qt_2, H⟩ := H
  go_wp2_with fail
  go_at_call 52
  refine (Go.Proofs.Ytgbcdmlcmnaimaa.GiWithin.C (day) (0) (4000)  _    qt_2).mono ?_
  rintro e_t_2 wt_2 ⟨rfl, bt_2⟩
  have HBwt_2 := Lib.hid (Below.step HB.out bt_2)
  clear bt_2
  obtain rfl := ret_hid H
  go_wp2_with fail
  go_ret
  exact ⟨rfl, HBwt_2.out⟩
end Go.Proofs.Ytgbcdmlcmnaimaa.GiIsDay

namespace Go.Proofs.Ytgbcdmlcmnaimaa.GiIsRate
open Go.RowKit
open Go.Proofs.Ytgbcdmlcmnaimaa.Rowed Go.Proofs.Ytgbcdmlcmnaimaa.Turn Go.Proofs.Ytgbcdmlcmnaimaa.Aid Go.Proofs.Ytgbcdmlcmnaimaa.GoP Go.Proofs.Ytgbcdmlcmnaimaa.GoM

def P (r_0 : PRate.Rate) : Option (Bool) :=
 unRate r_0 fun (r_0_zone : Int) (r_0_grams : Int) (r_0_from_ : Int) (r_0_until_ : Int) (r_0_cents : Int) =>
 Option.bind (GiIsZone.P r_0_zone) fun (t_4 : Bool) =>
 joinK (fun (t_9 : Bool) =>
 joinK (fun (t_14 : Bool) =>
 joinK (fun (t_19 : Bool) =>
 joinK (fun (t_24 : Bool) =>
 joinK (fun (t_31 : Bool) =>
 some t_31) fun jt_31 => iteK t_24 (letK (decide (r_0_from_ ≤ r_0_until_)) fun (t_30 : Bool) =>
 appK jt_31 t_30) (appK jt_31 false)) fun jt_24 => iteK t_19 (Option.bind (GiIsDay.P r_0_until_) fun (t_23 : Bool) =>
 appK jt_24 t_23) (appK jt_24 false)) fun jt_19 => iteK t_14 (Option.bind (GiIsDay.P r_0_from_) fun (t_18 : Bool) =>
 appK jt_19 t_18) (appK jt_19 false)) fun jt_14 => iteK t_9 (Option.bind (GiIsRateCents.P r_0_cents) fun (t_13 : Bool) =>
 appK jt_14 t_13) (appK jt_14 false)) fun jt_9 => iteK t_4 (Option.bind (GiIsWeight.P r_0_grams) fun (t_8 : Bool) =>
 appK jt_9 t_8) (appK jt_9 false)

set_option maxRecDepth 100000 in
set_option maxHeartbeats 2000000 in
theorem C (r_0 : PRate.Rate)   (w : World)   {r : Bool} (H : Hid (P r_0 = some r)) :
  Calls Try.prog 88 #[r_0.val] w (Gives (.bool r) w) := by
 have HB := Lib.hid (Below.refl w.heap.size w); unfold P at H; obtain ⟨l10, m10, o10, n10, k10⟩ := r_0; replace H := unRate_hid H; unfold PRate.Rate.val
 go_enter Try.func88, Try.ntmps88
 obtain ⟨i10, j10⟩ : ∃ x, w.alloc (.cells #[.int .i64 l10, .int .i64 m10, .int .i64 o10, .int .i64 n10, .int .i64 k10] 92) = x := ⟨_, rfl⟩; have q10 : Below w.heap.size w i10 := (by rw [← j10]; exact (Below.refl _ _).alloc (Nat.le_refl _) _); have y10 := Lib.hid (Below.step HB.out q10); clear q10; have a10 : i10.cell? ⟨w.heap.size, 0, none⟩ = some (.int .i64 l10) := (by rw [← j10]; exact box_new _ _ _ 0 _ rfl); have e10 : i10.cell? ⟨w.heap.size, 1, none⟩ = some (.int .i64 m10) := (by rw [← j10]; exact box_new _ _ _ 1 _ rfl); have c10 : i10.cell? ⟨w.heap.size, 2, none⟩ = some (.int .i64 o10) := (by rw [← j10]; exact box_new _ _ _ 2 _ rfl); have d10 : i10.cell? ⟨w.heap.size, 3, none⟩ = some (.int .i64 n10) := (by rw [← j10]; exact box_new _ _ _ 3 _ rfl); have b10 : i10.cell? ⟨w.heap.size, 4, none⟩ = some (.int .i64 k10) := (by rw [← j10]; exact box_new _ _ _ 4 _ rfl); replace H := bind_hid H; obtain ⟨t_4, qt_4, H⟩ := H; go_wp2_with fail; go_at_call 58; refine (GiIsZone.C (l10)  _    qt_4).mono ?_; rintro f11 wt_4 ⟨rfl, bt_4⟩; have p10 := Lib.hid (Below.step y10.out bt_4); replace a10 := cell_below bt_4 a10; replace e10 := cell_below bt_4 e10; replace c10 := cell_below bt_4 c10; replace d10 := cell_below bt_4 d10; replace b10 := cell_below bt_4 b10; clear bt_4; replace H := join_hid H
 cases t_4 with
 | false =>
  replace H := ite_f H; replace H := app_hid H; replace H := join_hid H; replace H := ite_f H; replace H := app_hid H; replace H := join_hid H; replace H := ite_f H; replace H := app_hid H; replace H := join_hid H; replace H := ite_f H; replace H := app_hid H; replace H := join_hid H; replace H := ite_f H; replace H := app_hid H; obtain rfl := ret_hid H; go_wp2_with fail; go_ret; exact ⟨rfl, p10.out⟩
 | true =>
  replace H := ite_t H; replace H := bind_hid H; obtain ⟨t_8, qt_8, H⟩ := H; go_wp2_with fail; go_at_call 59; refine (GiIsWeight.C (m10)  _    qt_8).mono ?_; rintro a11 wt_8 ⟨rfl, bt_8⟩; have t10 := Lib.hid (Below.step p10.out bt_8); replace a10 := cell_below bt_8 a10; replace e10 := cell_below bt_8 e10; replace c10 := cell_below bt_8 c10; replace d10 := cell_below bt_8 d10; replace b10 := cell_below bt_8 b10; clear bt_8; replace H := app_hid H; replace H := join_hid H
  cases t_8 with
  | false =>
   replace H := ite_f H; replace H := app_hid H; replace H := join_hid H; replace H := ite_f H; replace H := app_hid H; replace H := join_hid H; replace H := ite_f H; replace H := app_hid H; replace H := join_hid H; replace H := ite_f H; replace H := app_hid H; obtain rfl := ret_hid H; go_wp2_with fail; go_ret; exact ⟨rfl, t10.out⟩
  | true =>
   replace H := ite_t H; replace H := bind_hid H; obtain ⟨t_13, w10, H⟩ := H; go_wp2_with fail; go_at_call 60; refine (GiIsRateCents.C (k10)  _    w10).mono ?_; rintro i11 c11 ⟨rfl, g10⟩; have s10 := Lib.hid (Below.step t10.out g10); replace a10 := cell_below g10 a10; replace e10 := cell_below g10 e10; replace c10 := cell_below g10 c10; replace d10 := cell_below g10 d10; replace b10 := cell_below g10 b10; clear g10; replace H := app_hid H; replace H := join_hid H
   cases t_13 with
   | false =>
    replace H := ite_f H; replace H := app_hid H; replace H := join_hid H; replace H := ite_f H; replace H := app_hid H; replace H := join_hid H; replace H := ite_f H; replace H := app_hid H; obtain rfl := ret_hid H; go_wp2_with fail; go_ret; exact ⟨rfl, s10.out⟩
   | true =>
    replace H := ite_t H; replace H := bind_hid H; obtain ⟨t_18, x10, H⟩ := H; go_wp2_with fail; go_at_call 57; refine (GiIsDay.C (o10)  _    x10).mono ?_; rintro d11 g11 ⟨rfl, h10⟩; have v10 := Lib.hid (Below.step s10.out h10); replace a10 := cell_below h10 a10; replace e10 := cell_below h10 e10; replace c10 := cell_below h10 c10; replace d10 := cell_below h10 d10; replace b10 := cell_below h10 b10; clear h10; replace H := app_hid H; replace H := join_hid H
    cases t_18 with
    | false =>
     replace H := ite_f H; replace H := app_hid H; replace H := join_hid H; replace H := ite_f H; replace H := app_hid H; obtain rfl := ret_hid H; go_wp2_with fail; go_ret; exact ⟨rfl, v10.out⟩
    | true =>
     replace H := ite_t H; replace H := bind_hid H; obtain ⟨t_23, z10, H⟩ := H; go_wp2_with fail; go_at_call 57; refine (GiIsDay.C (n10)  _    z10).mono ?_; rintro b11 e11 ⟨rfl, f10⟩; have r10 := Lib.hid (Below.step v10.out f10); replace a10 := cell_below f10 a10; replace e10 := cell_below f10 e10; replace c10 := cell_below f10 c10; replace d10 := cell_below f10 d10; replace b10 := cell_below f10 b10; clear f10; replace H := app_hid H; replace H := join_hid H
     cases t_23 with
     | false =>
      replace H := ite_f H; replace H := app_hid H; obtain rfl := ret_hid H; go_wp2_with fail; go_ret; exact ⟨rfl, r10.out⟩
     | true =>
      replace H := ite_t H; replace H := let_hid H; obtain ⟨t_30, h11, H⟩ := H; replace H := app_hid H; obtain rfl := ret_hid H; go_wp2_with fail; go_ret; exact ⟨rfl, r10.out⟩
end Go.Proofs.Ytgbcdmlcmnaimaa.GiIsRate

namespace Go.Proofs.Ytgbcdmlcmnaimaa.PrateClass
set_option maxRecDepth 100000

structure rateClass where
  zone : Int
  grams : Int
def rateClass.cells (s : rateClass) : List Value := [.int .i64 s.zone, .int .i64 s.grams]
def rateClass.val (s : rateClass) : Value := .agg #[.int .i64 s.zone, .int .i64 s.grams]
/-- each field fits -/
def rateClass.fits (s : rateClass) : Prop := (Lit.int .i64 s.zone).wf = true ∧ (Lit.int .i64 s.grams).wf = true
def zero : rateClass := ⟨0, 0⟩
/-- the letters of its texts -/
def rateClass.wt (s : rateClass) : Nat := 0
def wts (l : List rateClass) : Nat := (l.map rateClass.wt).sum
theorem wts_snoc (l : List rateClass) (s : rateClass) : wts (l ++ [s]) = wts l + s.wt := by unfold wts; simp [List.sum_append]
theorem wts_succ {l : List rateClass} {k : Nat} {s : rateClass} (h : l[k]? = some s) : wts (l.take (k + 1)) = wts (l.take k) + s.wt := by
  have hk := List.getElem?_eq_some_iff.1 h
  rw [List.take_succ_eq_append_getElem hk.1, hk.2, wts_snoc]
theorem wts_take (l : List rateClass) (k : Nat) : wts (l.take k) ≤ wts l := by
  have : wts l = wts (l.take k) + wts (l.drop k) := by
    unfold wts; rw [← List.sum_append, ← List.map_append, List.take_append_drop]
  omega
theorem wts_all (l : List rateClass) : wts (l.take l.length) = wts l := by rw [List.take_of_length_le (Nat.le_refl _)]

/-- the cells of a list of records, one after the other -/
def flat (l : List rateClass) : List Value := l.flatMap rateClass.cells
theorem flat_nil : flat [] = [] := rfl
theorem flat_cons (s : rateClass) (l : List rateClass) : flat (s :: l) = s.cells ++ flat l := by simp [flat]
theorem flat_snoc (l : List rateClass) (s : rateClass) : flat (l ++ [s]) = flat l ++ s.cells := by simp [flat]
theorem flat_len (l : List rateClass) : (flat l).length = l.length * 2 := by
  induction l with
  | nil => rfl
  | cons s l ih => rw [flat_cons, List.length_append, ih]; simp [rateClass.cells]; omega
theorem flat_at : ∀ (l : List rateClass) (k : Nat) (s : rateClass), l[k]? = some s → ∀ j, j < 2 → (flat l)[k * 2 + j]? = s.cells[j]?
  | [], k, s, h, _, _ => by simp at h
  | r :: l, 0, s, h, j, hj => by
    obtain rfl : r = s := by simpa using h
    rw [flat_cons, List.getElem?_append_left (by simp [rateClass.cells]; omega)]; simp
  | r :: l, k + 1, s, h, j, hj => by
    rw [flat_cons, List.getElem?_append_right (by simp [rateClass.cells]; omega), show (k + 1) * 2 + j - r.cells.length = k * 2 + j by simp [rateClass.cells]; omega]
    exact flat_at l k s (by simpa using h) j hj
end Go.Proofs.Ytgbcdmlcmnaimaa.PrateClass

namespace Go.Proofs.Ytgbcdmlcmnaimaa.GoP
open Go.RowKit
def unrateClass {ρ : Type} (s : Go.Proofs.Ytgbcdmlcmnaimaa.PrateClass.rateClass) (f : Int → Int → Option ρ) : Option ρ := f s.zone s.grams
theorem unrateClass_hid {ρ : Type} {x0 : Int} {x1 : Int} {f : Int → Int → Option ρ} {r : ρ} (H : Hid (unrateClass ⟨x0, x1⟩ f = some r)) : Hid (f x0 x1 = some r) := H
end Go.Proofs.Ytgbcdmlcmnaimaa.GoP

namespace Go.Proofs.Ytgbcdmlcmnaimaa.GiClassOf
open Go.RowKit
open Go.Proofs.Ytgbcdmlcmnaimaa.Rowed Go.Proofs.Ytgbcdmlcmnaimaa.Turn Go.Proofs.Ytgbcdmlcmnaimaa.Aid Go.Proofs.Ytgbcdmlcmnaimaa.GoP Go.Proofs.Ytgbcdmlcmnaimaa.GoM

def P (r_0 : PRate.Rate) : Option (PrateClass.rateClass) :=
 unRate r_0 fun (r_0_zone : Int) (r_0_grams : Int) (r_0_from_ : Int) (r_0_until_ : Int) (r_0_cents : Int) =>
 some (PrateClass.rateClass.mk r_0_zone r_0_grams)

set_option maxRecDepth 100000 in
set_option maxHeartbeats 2000000 in
theorem C (r_0 : PRate.Rate)   (w : World)   {r : PrateClass.rateClass} (H : Hid (P r_0 = some r)) :
  Calls Try.prog 103 #[r_0.val] w (Gives ((PrateClass.rateClass.val r)) w) := by
 have HB := Lib.hid (Below.refl w.heap.size w); unfold P at H; obtain ⟨b10, e10, s10, p10, r10⟩ := r_0; replace H := unRate_hid H; unfold PRate.Rate.val
 go_enter Try.func103, Try.ntmps103
 obtain ⟨a10, f10⟩ : ∃ x, w.alloc (.cells #[.int .i64 b10, .int .i64 e10, .int .i64 s10, .int .i64 p10, .int .i64 r10] 92) = x := ⟨_, rfl⟩; have q10 : Below w.heap.size w a10 := (by rw [← f10]; exact (Below.refl _ _).alloc (Nat.le_refl _) _); have l10 := Lib.hid (Below.step HB.out q10); clear q10; have o10 : a10.cell? ⟨w.heap.size, 0, none⟩ = some (.int .i64 b10) := (by rw [← f10]; exact box_new _ _ _ 0 _ rfl); have e11 : a10.cell? ⟨w.heap.size, 1, none⟩ = some (.int .i64 e10) := (by rw [← f10]; exact box_new _ _ _ 1 _ rfl); have x10 : a10.cell? ⟨w.heap.size, 2, none⟩ = some (.int .i64 s10) := (by rw [← f10]; exact box_new _ _ _ 2 _ rfl); have f11 : a10.cell? ⟨w.heap.size, 3, none⟩ = some (.int .i64 p10) := (by rw [← f10]; exact box_new _ _ _ 3 _ rfl); have z10 : a10.cell? ⟨w.heap.size, 4, none⟩ = some (.int .i64 r10) := (by rw [← f10]; exact box_new _ _ _ 4 _ rfl); obtain ⟨g10, j10⟩ : ∃ x, a10.alloc (.cells #[.int .i64 0, .int .i64 0] 107) = x := ⟨_, rfl⟩; have d10 : Below a10.heap.size a10 g10 := (by rw [← j10]; exact (Below.refl _ _).alloc (Nat.le_refl _) _); have h10 := Lib.hid (apart_box o10); have n10 := Lib.hid (Below.step l10.out d10); have w10 := cell_below d10 o10; have y10 := cell_below d10 e11; have a11 := cell_below d10 x10; have c11 := cell_below d10 f11; have v10 := cell_below d10 z10; clear d10; have h11 : g10.cell? ⟨a10.heap.size, 0, none⟩ = some (.int .i64 0) := (by rw [← j10]; exact box_new _ _ _ 0 _ rfl); have i11 : g10.cell? ⟨a10.heap.size, 1, none⟩ = some (.int .i64 0) := (by rw [← j10]; exact box_new _ _ _ 1 _ rfl); have Ot_1 : Hid (g10.ownsRow w.heap.size 107 2 (.slice (some ⟨a10.heap.size, 0, none⟩) 1 1) 1 [.int .i64 0, .int .i64 0]) := Lib.hid (by rw [← j10]; exact own_laid (n := 1) l10.out.size rfl rfl (by unfold maxLen; omega)); obtain ⟨i10, m10⟩ : ∃ x, ((g10).setCell ⟨a10.heap.size, 0, none⟩ (.int .i64 b10)).setCell ⟨a10.heap.size, 1, none⟩ (.int .i64 e10) = x := ⟨_, rfl⟩; have m11 := Ot_1.out.frozenAt 0; have p11 := Ot_1.out.frozenAt 1; have k10 := Lib.hid (own_stores [(0, .int .i64 b10), (1, .int .i64 e10)] Ot_1.out); have t10 : Hid (i10.ownsRow w.heap.size 107 2 (.slice (some ⟨a10.heap.size, 0, none⟩) 1 1) 1 [.int .i64 b10, .int .i64 e10]) := Lib.hid (by rw [← m10]; exact k10.out.1); have c10 : Hid (g10.grownBy i10 (Value.slice (some ⟨a10.heap.size, 0, none⟩) 1 1).ownBlock) := Lib.hid (by rw [← m10]; exact k10.out.2); have d11 := Lib.hid (n10.out.grown c10.out n10.out.size (fun q hq => (Ot_1.out.lt q hq).1)); clear k10; have o11 := cell_other w10 c10.out h10.out; have n11 := cell_other y10 c10.out h10.out; have k11 := cell_other a11 c10.out h10.out; have l11 := cell_other c11 c10.out h10.out; have j11 := cell_other v10 c10.out h10.out; clear Ot_1 c10; have b11 : i10.cell? ⟨a10.heap.size, 0, none⟩ = some (.int .i64 b10) := t10.out.cells rfl 0 _ rfl; have g11 : i10.cell? ⟨a10.heap.size, 1, none⟩ = some (.int .i64 e10) := t10.out.cells rfl 1 _ rfl; cases ret_hid H; go_wp2_with fail
 (try simp only [Exit.inBlock, Exit.then])
 refine bodyPost_ret (v := .agg #[.int .i64 b10, .int .i64 e10]) ?hr_ ?hd_ ?_
 case hd_ => rfl
 case hr_ => simp [results, Try.results103, b11, g11, go_sem]
 exact ⟨rfl, d11.out⟩
end Go.Proofs.Ytgbcdmlcmnaimaa.GiClassOf

namespace Go.Proofs.Ytgbcdmlcmnaimaa.GxCmpIsNaNInt
open Go.RowKit
open Go.Proofs.Ytgbcdmlcmnaimaa.Rowed Go.Proofs.Ytgbcdmlcmnaimaa.Turn Go.Proofs.Ytgbcdmlcmnaimaa.Aid Go.Proofs.Ytgbcdmlcmnaimaa.GoP Go.Proofs.Ytgbcdmlcmnaimaa.GoM

def P (x : Int) : Option (Bool) :=
  some false

set_option maxRecDepth 100000 in
set_option maxHeartbeats 2000000 in
theorem C (x : Int)   (w : World)   {r : Bool} (H : Hid (P x = some r)) :
    Calls Try.prog 106 #[.int .i64 x] w (Gives (.bool r) w) := by
  have HB := Lib.hid (Below.refl w.heap.size w)
  unfold P at H
  go_enter Try.func106, Try.ntmps106
  obtain rfl := ret_hid H
  go_wp2_with fail
  go_ret
  exact ⟨rfl, HB.out⟩

set_option maxRecDepth 100000 in
set_option maxHeartbeats 2000000 in
theorem C0 (x : Int)   (w : World)   {r : Bool} (H : Hid (P x = some r)) :
    Calls Try.prog 106 #[.int .i64 x] w (fun e w'' => e = .returned (.bool r) ∧ w'' = w) := by
  have HB := Lib.hid (Below.refl w.heap.size w)
  unfold P at H
  go_enter Try.func106, Try.ntmps106
  obtain rfl := ret_hid H
  go_wp2_with fail
  go_ret
  exact ⟨rfl, rfl⟩
end Go.Proofs.Ytgbcdmlcmnaimaa.GxCmpIsNaNInt

namespace Go.Proofs.Ytgbcdmlcmnaimaa.GxCmpCompareInt
open Go.RowKit
open Go.Proofs.Ytgbcdmlcmnaimaa.Rowed Go.Proofs.Ytgbcdmlcmnaimaa.Turn Go.Proofs.Ytgbcdmlcmnaimaa.Aid Go.Proofs.Ytgbcdmlcmnaimaa.GoP Go.Proofs.Ytgbcdmlcmnaimaa.GoM

def P (x : Int) (y : Int) : Option (Int) :=
  Option.bind (Go.Proofs.Ytgbcdmlcmnaimaa.GxCmpIsNaNInt.P x) fun (t_2 : Bool) =>
  Option.bind (Go.Proofs.Ytgbcdmlcmnaimaa.GxCmpIsNaNInt.P y) fun (t_5 : Bool) =>
  iteK t_2
  (iteK t_5
  (some 0)
  (some (-1)))
  (iteK t_5
  (some 1)
  (letK (decide (x < y)) fun (t_15 : Bool) =>
  iteK t_15
  (some (-1))
  (letK (decide (y < x)) fun (t_19 : Bool) =>
  iteK t_19
  (some 1)
  (some 0))))

set_option maxRecDepth 100000 in
set_option maxHeartbeats 2000000 in
theorem C (x : Int) (y : Int)   (w : World)   {r : Int} (H : Hid (P x y = some r)) :
    Calls Try.prog 105 #[.int .i64 x, .int .i64 y] w (Gives (.int .i64 r) w) := by
  have HB := Lib.hid (Below.refl w.heap.size w)
  unfold P at H
  go_enter Try.func105, Try.ntmps105
  replace H := bind_hid H
  obtain ⟨t_2, qt_2, H⟩ := H
  go_wp2_with fail
  go_at_call 106
  refine (Go.Proofs.Ytgbcdmlcmnaimaa.GxCmpIsNaNInt.C (x)  _    qt_2).mono ?_
  rintro e_t_2 wt_2 ⟨rfl, bt_2⟩
  have HBwt_2 := Lib.hid (Below.step HB.out bt_2)
  clear bt_2
  replace H := bind_hid H
  obtain ⟨t_5, qt_5, H⟩ := H
  go_wp2_with fail
  go_at_call 106
  refine (Go.Proofs.Ytgbcdmlcmnaimaa.GxCmpIsNaNInt.C (y)  _    qt_5).mono ?_
  rintro e_t_5 wt_5 ⟨rfl, bt_5⟩
  have HBwt_5 := Lib.hid (Below.step HBwt_2.out bt_5)
  clear bt_5
  cases t_2 with
  | false =>
    replace H := ite_f H
    cases t_5 with
    | false =>
      replace H := ite_f H
      replace H := let_hid H
      obtain ⟨t_15, ht_15, H⟩ := H
      cases t_15 with
      | false =>
        replace H := ite_f H
        replace H := let_hid H
        obtain ⟨t_19, ht_19, H⟩ := H
        cases t_19 with
        | false =>
          replace H := ite_f H
          obtain rfl := ret_hid H
          go_wp2_with fail
          go_ret
          exact ⟨rfl, HBwt_5.out⟩
        | true =>
          replace H := ite_t H
          obtain rfl := ret_hid H
          go_wp2_with fail
          go_ret
          exact ⟨rfl, HBwt_5.out⟩
      | true =>
        replace H := ite_t H
        obtain rfl := ret_hid H
        go_wp2_with fail
        go_ret
        exact ⟨rfl, HBwt_5.out⟩
    | true =>
      replace H := ite_t H
      obtain rfl := ret_hid H
      go_wp2_with fail
      go_ret
      exact ⟨rfl, HBwt_5.out⟩
  | true =>
    replace H := ite_t H
    cases t_5 with
    | false =>
      replace H := ite_f H
      obtain rfl := ret_hid H
      go_wp2_with fail
      go_ret
      exact ⟨rfl, HBwt_5.out⟩
    | true =>
      replace H := ite_t H
      obtain rfl := ret_hid H
      go_wp2_with fail
      go_ret
      exact ⟨rfl, HBwt_5.out⟩
end Go.Proofs.Ytgbcdmlcmnaimaa.GxCmpCompareInt

namespace Go.Proofs.Ytgbcdmlcmnaimaa.GxCmpOrInt
open Go.RowKit
open Go.Proofs.Ytgbcdmlcmnaimaa.Rowed Go.Proofs.Ytgbcdmlcmnaimaa.Turn Go.Proofs.Ytgbcdmlcmnaimaa.Aid Go.Proofs.Ytgbcdmlcmnaimaa.GoP Go.Proofs.Ytgbcdmlcmnaimaa.GoM

def l0 (vals : (List Int)) (k0 : Nat) (s : Unit) (nx0 bk0 : Unit → Option (Int)) : Option (Int) :=
  
  Option.bind (idx vals (k0 : Int)) fun (yt_6 : Int) =>
  letK (yt_6 != 0) fun (t_11 : Bool) =>
  iteK t_11
  (some yt_6)
  (appK nx0 ())

def e0  (s : Unit) : Option (Int) :=
  
  some 0

def P (vals : (List Int)) : Option (Int) :=
  cntK (l0 vals) (vals.length) 0 () (e0 )

set_option maxRecDepth 100000 in
set_option maxHeartbeats 2000000 in
theorem C (vals : (List Int)) (A0 : Option Addr) (c0 : Nat)  (w : World) (M0 : Hid (Cells w 1 A0 vals.length (Go.Proofs.Ytgbcdmlcmnaimaa.HelpInt.iv vals))) (N0 : Hid (vals.length ≤ 9223372036854775807))  {r : Int} (H : Hid (P vals = some r)) :
    Calls Try.prog 104 #[.slice A0 vals.length c0] w (Gives (.int .i64 r) w) := by
  have HB := Lib.hid (Below.refl w.heap.size w)
  unfold P at H
  have N0o := N0.out
  go_enter Try.func104, Try.ntmps104
  go_wp2_with fail
  go_loopg [8] (vals.length) (fun m_ v8_ wr => ∃ (k0 : Nat) , k0 + m_ = vals.length ∧ v8_ = .int .i64 (k0 : Int) ∧ Hid (cntK (l0 vals) m_ k0 () (e0 ) = some r) ∧ Hid (Below w.heap.size w wr))
  case atStart => exact ⟨0, by omega, rfl, H, HB⟩
  case round =>
    obtain ⟨k0, hkm0, rfl, H, HBwr0⟩ := hrel
    rename World => wr0
    cases gk with
    | zero =>
      obtain rfl : k0 = vals.length := by omega
      have hc0 : decide (((vals.length : Nat) : Int) < ((vals.length : Nat) : Int)) = false := by simp
      replace H := cnt_zero H
      unfold e0 at H
      obtain rfl := ret_hid H
      go_wp2_with fail
      go_ret
      exact ⟨rfl, HBwr0.out⟩
    | succ m0 =>
      have hlt0 : k0 < vals.length := by omega
      have hc0 : decide ((k0 : Int) < ((vals.length : Nat) : Int)) = true := by simp; omega
      replace H := cnt_succ H
      unfold l0 at H
      replace H := idx_hid H
      obtain ⟨nt_6, yt_6, et_6, lt_6, gt_6, H⟩ := H
      obtain rfl : k0 = nt_6 := by omega
      clear et_6
      obtain ⟨ab_t_6, ao_t_6, zt_6, At_6, z_t_6, ct_6_0⟩ := Go.Proofs.Ytgbcdmlcmnaimaa.HelpInt.Ints.at_ M0.out lt_6
      obtain rfl := Option.some.inj (gt_6.out.symm.trans z_t_6)
      subst At_6
      have ltt_6 := cell_lt ct_6_0
      replace ct_6_0 := cell_below HBwr0.out ct_6_0
      clear z_t_6
      have b0t_6 : (0 : Int) ≤ (k0 : Int) := by omega
      have b1t_6 : (k0 : Int) < ((vals.length : Nat) : Int) := by omega
      have b2t_6 : ((k0 : Int)).toNat = k0 := by omega
      replace H := let_hid H
      obtain ⟨t_11, ht_11, H⟩ := H
      cases t_11 with
      | false =>
        replace H := ite_f H
        replace H := app_hid H
        go_wp2_with fail
        go_roundg m0
        case measure => omega
        case rel => exact ⟨k0 + 1, by omega, by go_num, H, HBwr0⟩
      | true =>
        replace H := ite_t H
        obtain rfl := ret_hid H
        go_wp2_with fail
        go_ret
        exact ⟨rfl, HBwr0.out⟩
end Go.Proofs.Ytgbcdmlcmnaimaa.GxCmpOrInt

namespace Go.Proofs.Ytgbcdmlcmnaimaa.GiCanFollow
open Go.RowKit
open Go.Proofs.Ytgbcdmlcmnaimaa.Rowed Go.Proofs.Ytgbcdmlcmnaimaa.Turn Go.Proofs.Ytgbcdmlcmnaimaa.Aid Go.Proofs.Ytgbcdmlcmnaimaa.GoP Go.Proofs.Ytgbcdmlcmnaimaa.GoM

def P (r_0 : Go.Proofs.Ytgbcdmlcmnaimaa.PRate.Rate) (before : Go.Proofs.Ytgbcdmlcmnaimaa.PRate.Rate) : Option (Bool) :=
  unRate r_0 fun (r_0_zone : Int) (r_0_grams : Int) (r_0_from_ : Int) (r_0_until_ : Int) (r_0_cents : Int) =>
  unRate before fun (before_zone : Int) (before_grams : Int) (before_from_ : Int) (before_until_ : Int) (before_cents : Int) =>
  Option.bind (Go.Proofs.Ytgbcdmlcmnaimaa.GiClassOf.P (Go.Proofs.Ytgbcdmlcmnaimaa.PRate.Rate.mk r_0_zone r_0_grams r_0_from_ r_0_until_ r_0_cents)) fun (t_4 : Go.Proofs.Ytgbcdmlcmnaimaa.PrateClass.rateClass) =>
  unrateClass t_4 fun (t_4_zone : Int) (t_4_grams : Int) =>
  Option.bind (Go.Proofs.Ytgbcdmlcmnaimaa.GiClassOf.P (Go.Proofs.Ytgbcdmlcmnaimaa.PRate.Rate.mk before_zone before_grams before_from_ before_until_ before_cents)) fun (t_6 : Go.Proofs.Ytgbcdmlcmnaimaa.PrateClass.rateClass) =>
  unrateClass t_6 fun (t_6_zone : Int) (t_6_grams : Int) =>
  letK (t_4_zone == t_6_zone && t_4_grams == t_6_grams) fun (t_7 : Bool) =>
  iteK t_7
  (letK (decide (before_until_ < r_0_from_)) fun (t_12 : Bool) =>
  some t_12)
  (Option.bind (Go.Proofs.Ytgbcdmlcmnaimaa.GxCmpCompareInt.P before_zone r_0_zone) fun (t_18 : Int) =>
  Option.bind (Go.Proofs.Ytgbcdmlcmnaimaa.GxCmpCompareInt.P before_grams r_0_grams) fun (t_23 : Int) =>
  letK ([t_18, t_23]) fun (t_24 : (List Int)) =>
  Option.bind (Go.Proofs.Ytgbcdmlcmnaimaa.GxCmpOrInt.P t_24) fun (t_25 : Int) =>
  letK (decide (t_25 < 0)) fun (t_26 : Bool) =>
  some t_26)

set_option maxRecDepth 100000
theorem eqr_107 (x0 x1 y0 y1 : Int) : ∀ W, (Op.equalIn 10000 107 (.agg #[Value.int IntKind.i64 x0, Value.int IntKind.i64 x1]) (.agg #[Value.int IntKind.i64 y0, Value.int IntKind.i64 y1])).run Try.prog W = .ok (x0 == y0 && x1 == y1) W := by
  intro W
  rw [run_equalIn_agg W _ _ _ _ (by kernel_rfl) (by kernel_rfl)]
  obtain ⟨f, hf⟩ : ∃ f, (Try.prog.fieldsOf 107).toList = f := ⟨_, rfl⟩
  have : (Try.prog.fieldsOf 107).toList.map (fun f => (f.name, f.type, f.offset)) = [("zone", 3, 0), ("grams", 3, 1)] := by kernel_rfl
  rw [hf] at this ⊢
  match f, this with
  | [f0, f1], h =>
    simp only [List.map_cons, List.map_nil, List.cons.injEq, Prod.mk.injEq, and_true] at h
    obtain ⟨⟨a0, b0, d0⟩, a1, b1, d1⟩ := h
    simp only [Op.eqFields, a0, b0, d0, a1, b1, d1]
    have p0 : ∀ (w : World) (x0 x1 : Int), (part 3 #[Value.int IntKind.i64 x0, Value.int IntKind.i64 x1] 0).run Try.prog w = .ok (.int .i64 x0) w := fun w x0 x1 => run_part_plain w (by kernel_rfl) rfl
    have p1 : ∀ (w : World) (x0 x1 : Int), (part 3 #[Value.int IntKind.i64 x0, Value.int IntKind.i64 x1] 1).run Try.prog w = .ok (.int .i64 x1) w := fun w x0 x1 => run_part_plain w (by kernel_rfl) rfl
    have e0 : ∀ (w : World) (d : Nat) (x y : Int), (Op.equalIn (d + 1) 3 (.int .i64 x) (.int .i64 y)).run Try.prog w = .ok (x == y) w := fun w d x y => run_equalIn_int w d 3 .i64 .i64 x y Try.underlying3
    have e1 : ∀ (w : World) (x y : Int), (Op.equalIn 9999 3 (.int .i64 x) (.int .i64 y)).run Try.prog w = .ok (x == y) w := fun w x y => e0 w 9998 x y
    rw [if_pos (by decide)]; rw [if_pos (by decide)]
    simp only [Sem.run_bind, p0, p1, e1, Result.andThen_ok, Sem.run_ite, Sem.run_pure]
    cases x0 == y0 <;> cases x1 == y1 <;> rfl
theorem eqla_107 (x0 x1 y0 y1 : Int) : ∀ W, (binOp .eql 107 (.agg #[Value.int IntKind.i64 x0, Value.int IntKind.i64 x1]) (.agg #[Value.int IntKind.i64 y0, Value.int IntKind.i64 y1])).run Try.prog W = .ok (.bool (x0 == y0 && x1 == y1)) W := by
  intro W
  rw [run_eql_struct, eqr_107]; rfl
theorem neqa_107 (x0 x1 y0 y1 : Int) : ∀ W, (binOp .neq 107 (.agg #[Value.int IntKind.i64 x0, Value.int IntKind.i64 x1]) (.agg #[Value.int IntKind.i64 y0, Value.int IntKind.i64 y1])).run Try.prog W = .ok (.bool (!(x0 == y0 && x1 == y1))) W := by
  intro W
  rw [run_neq_struct, eqr_107]; rfl

set_option maxRecDepth 100000 in
set_option maxHeartbeats 2000000 in
theorem C (r_0 : Go.Proofs.Ytgbcdmlcmnaimaa.PRate.Rate) (before : Go.Proofs.Ytgbcdmlcmnaimaa.PRate.Rate)   (w : World)   {r : Bool} (H : Hid (P r_0 before = some r)) :
    Calls Try.prog 89 #[r_0.val, before.val] w (Gives (.bool r) w) := by
  have HB := Lib.hid (Below.refl w.heap.size w); unfold P at H; obtain ⟨r_0_zone, r_0_grams, r_0_from_, r_0_until_, r_0_cents⟩ := r_0; replace H := unRate_hid H; obtain ⟨before_zone, before_grams, before_from_, before_until_, before_cents⟩ := before; replace H := unRate_hid H; unfold Go.Proofs.Ytgbcdmlcmnaimaa.PRate.Rate.val
  go_enter Try.func89, Try.ntmps89
  obtain ⟨w_r_0, hw_r_0⟩ : ∃ x, w.alloc (.cells #[.int .i64 r_0_zone, .int .i64 r_0_grams, .int .i64 r_0_from_, .int .i64 r_0_until_, .int .i64 r_0_cents] 92) = x := ⟨_, rfl⟩; have bw_r_0 : Below w.heap.size w w_r_0 := (by rw [← hw_r_0]; exact (Below.refl _ _).alloc (Nat.le_refl _) _); have HBw_r_0 := Lib.hid (Below.step HB.out bw_r_0); clear bw_r_0; have kr_0_0 : w_r_0.cell? ⟨w.heap.size, 0, none⟩ = some (.int .i64 r_0_zone) := (by rw [← hw_r_0]; exact box_new _ _ _ 0 _ rfl); have kr_0_1 : w_r_0.cell? ⟨w.heap.size, 1, none⟩ = some (.int .i64 r_0_grams) := (by rw [← hw_r_0]; exact box_new _ _ _ 1 _ rfl); have kr_0_2 : w_r_0.cell? ⟨w.heap.size, 2, none⟩ = some (.int .i64 r_0_from_) := (by rw [← hw_r_0]; exact box_new _ _ _ 2 _ rfl); have kr_0_3 : w_r_0.cell? ⟨w.heap.size, 3, none⟩ = some (.int .i64 r_0_until_) := (by rw [← hw_r_0]; exact box_new _ _ _ 3 _ rfl); have kr_0_4 : w_r_0.cell? ⟨w.heap.size, 4, none⟩ = some (.int .i64 r_0_cents) := (by rw [← hw_r_0]; exact box_new _ _ _ 4 _ rfl); obtain ⟨w_before_1, hw_before_1⟩ : ∃ x, w_r_0.alloc (.cells #[.int .i64 before_zone, .int .i64 before_grams, .int .i64 before_from_, .int .i64 before_until_, .int .i64 before_cents] 92) = x := ⟨_, rfl⟩; have bw_before_1 : Below w_r_0.heap.size w_r_0 w_before_1 := (by rw [← hw_before_1]; exact (Below.refl _ _).alloc (Nat.le_refl _) _); have HBw_before_1 := Lib.hid (Below.step HBw_r_0.out bw_before_1); have kr_0_0__697 := cell_below bw_before_1 kr_0_0; have kr_0_1__698 := cell_below bw_before_1 kr_0_1; have kr_0_2__699 := cell_below bw_before_1 kr_0_2; have kr_0_3__700 := cell_below bw_before_1 kr_0_3; have kr_0_4__701 := cell_below bw_before_1 kr_0_4; clear bw_before_1; have kbefore_1_0 : w_before_1.cell? ⟨w_r_0.heap.size, 0, none⟩ = some (.int .i64 before_zone) := (by rw [← hw_before_1]; exact box_new _ _ _ 0 _ rfl); have kbefore_1_1 : w_before_1.cell? ⟨w_r_0.heap.size, 1, none⟩ = some (.int .i64 before_grams) := (by rw [← hw_before_1]; exact box_new _ _ _ 1 _ rfl); have kbefore_1_2 : w_before_1.cell? ⟨w_r_0.heap.size, 2, none⟩ = some (.int .i64 before_from_) := (by rw [← hw_before_1]; exact box_new _ _ _ 2 _ rfl); have kbefore_1_3 : w_before_1.cell? ⟨w_r_0.heap.size, 3, none⟩ = some (.int .i64 before_until_) := (by rw [← hw_before_1]; exact box_new _ _ _ 3 _ rfl); have kbefore_1_4 : w_before_1.cell? ⟨w_r_0.heap.size, 4, none⟩ = some (.int .i64 before_cents) := (by rw [← hw_before_1]; exact box_new _ _ _ 4 _ rfl); go_wp2_with fail; clear kr_0_0 kr_0_1 kr_0_2 kr_0_3 kr_0_4; have Hkr_0_0__697 := Lib.hid kr_0_0__697; replace kr_0_0__697 := cell_regrown kr_0_0__697; have Hkr_0_1__698 := Lib.hid kr_0_1__698; replace kr_0_1__698 := cell_regrown kr_0_1__698; have Hkr_0_2__699 := Lib.hid kr_0_2__699; replace kr_0_2__699 := cell_regrown kr_0_2__699; have Hkr_0_3__700 := Lib.hid kr_0_3__700; replace kr_0_3__700 := cell_regrown kr_0_3__700; have Hkr_0_4__701 := Lib.hid kr_0_4__701; replace kr_0_4__701 := cell_regrown kr_0_4__701; have Hkbefore_1_0 := Lib.hid kbefore_1_0; replace kbefore_1_0 := cell_regrown kbefore_1_0; have Hkbefore_1_1 := Lib.hid kbefore_1_1; replace kbefore_1_1 := cell_regrown kbefore_1_1; have Hkbefore_1_2 := Lib.hid kbefore_1_2; replace kbefore_1_2 := cell_regrown kbefore_1_2; have Hkbefore_1_3 := Lib.hid kbefore_1_3; replace kbefore_1_3 := cell_regrown kbefore_1_3; have Hkbefore_1_4 := Lib.hid kbefore_1_4; replace kbefore_1_4 := cell_regrown kbefore_1_4; replace H := bind_hid H; obtain ⟨t_4, qt_4, H⟩ := H; obtain ⟨t_4_zone, t_4_grams⟩ := t_4; replace H := unrateClass_hid H; have nt_4 : ∀ d os, Calls Try.prog 103 #[.agg #[.int .i64 r_0_zone, .int .i64 r_0_grams, .int .i64 r_0_from_, .int .i64 r_0_until_, .int .i64 r_0_cents]] (Go.Sort.grow (redrawn w_before_1 d) os) fun e w'' => e = .returned (.agg #[.int .i64 t_4_zone, .int .i64 t_4_grams]) ∧ ∃ p : Regrown, w'' = Go.Sort.grow (redrawn w_before_1 p.d) p.os := fun d os => Calls.regrown_of (Go.Proofs.Ytgbcdmlcmnaimaa.GiClassOf.C ((Go.Proofs.Ytgbcdmlcmnaimaa.PRate.Rate.mk r_0_zone r_0_grams r_0_from_ r_0_until_ r_0_cents))  _    qt_4)
  replace H := bind_hid H; obtain ⟨t_6, qt_6, H⟩ := H; obtain ⟨t_6_zone, t_6_grams⟩ := t_6; replace H := unrateClass_hid H; have nt_6 : ∀ d os, Calls Try.prog 103 #[.agg #[.int .i64 before_zone, .int .i64 before_grams, .int .i64 before_from_, .int .i64 before_until_, .int .i64 before_cents]] (Go.Sort.grow (redrawn w_before_1 d) os) fun e w'' => e = .returned (.agg #[.int .i64 t_6_zone, .int .i64 t_6_grams]) ∧ ∃ p : Regrown, w'' = Go.Sort.grow (redrawn w_before_1 p.d) p.os := fun d os => Calls.regrown_of (Go.Proofs.Ytgbcdmlcmnaimaa.GiClassOf.C ((Go.Proofs.Ytgbcdmlcmnaimaa.PRate.Rate.mk before_zone before_grams before_from_ before_until_ before_cents))  _    qt_6); replace H := let_hid H; obtain ⟨t_7, ht_7, H⟩ := H; have ct_7 : ∀ W, (binOp .eql 107 (.agg #[.int .i64 t_4_zone, .int .i64 t_4_grams]) (.agg #[.int .i64 t_6_zone, .int .i64 t_6_grams])).run Try.prog W = .ok (.bool t_7) W := fun W => (by rw [eqla_107, ht_7]); refine wp_region_quiet_below (by kernel_rfl) (by kernel_rfl) ?_
  repeat (go_big_quiet_step (first | (go_at_call 103; with_reducible exact nt_4 _ _) | (go_at_call 103; with_reducible exact nt_6 _ _) | (go_at_call 103; exact nt_4 _ _) | (go_at_call 103; exact nt_6 _ _)))
  refine wpQuiet_nil ?_; intro Y1 hY1; replace hY1 := below_class hY1; clear nt_4 nt_6; replace kr_0_0__697 := Hkr_0_0__697.out; clear Hkr_0_0__697; replace kr_0_1__698 := Hkr_0_1__698.out; clear Hkr_0_1__698; replace kr_0_2__699 := Hkr_0_2__699.out; clear Hkr_0_2__699; replace kr_0_3__700 := Hkr_0_3__700.out; clear Hkr_0_3__700; replace kr_0_4__701 := Hkr_0_4__701.out; clear Hkr_0_4__701; replace kbefore_1_0 := Hkbefore_1_0.out; clear Hkbefore_1_0; replace kbefore_1_1 := Hkbefore_1_1.out; clear Hkbefore_1_1; replace kbefore_1_2 := Hkbefore_1_2.out; clear Hkbefore_1_2; replace kbefore_1_3 := Hkbefore_1_3.out; clear Hkbefore_1_3; replace kbefore_1_4 := Hkbefore_1_4.out; clear Hkbefore_1_4; have HBY1 := Lib.hid (Below.step HBw_before_1.out hY1); replace kr_0_0__697 := cell_below hY1 kr_0_0__697; replace kr_0_1__698 := cell_below hY1 kr_0_1__698; replace kr_0_2__699 := cell_below hY1 kr_0_2__699; replace kr_0_3__700 := cell_below hY1 kr_0_3__700; replace kr_0_4__701 := cell_below hY1 kr_0_4__701; replace kbefore_1_0 := cell_below hY1 kbefore_1_0; replace kbefore_1_1 := cell_below hY1 kbefore_1_1; replace kbefore_1_2 := cell_below hY1 kbefore_1_2; replace kbefore_1_3 := cell_below hY1 kbefore_1_3; replace kbefore_1_4 := cell_below hY1 kbefore_1_4; clear hY1
  cases t_7 with
  | false =>
    replace H := ite_f H; go_wp2_with fail; have bd3 : Below Y1.heap.size Y1 Y1.drew := (Below.refl _ _).drew; have HBY1.drew := Lib.hid (Below.step HBY1.out bd3); replace kr_0_0__697 := cell_below bd3 kr_0_0__697; replace kr_0_1__698 := cell_below bd3 kr_0_1__698; replace kr_0_2__699 := cell_below bd3 kr_0_2__699; replace kr_0_3__700 := cell_below bd3 kr_0_3__700; replace kr_0_4__701 := cell_below bd3 kr_0_4__701; replace kbefore_1_0 := cell_below bd3 kbefore_1_0; replace kbefore_1_1 := cell_below bd3 kbefore_1_1; replace kbefore_1_2 := cell_below bd3 kbefore_1_2; replace kbefore_1_3 := cell_below bd3 kbefore_1_3; replace kbefore_1_4 := cell_below bd3 kbefore_1_4; clear bd3; replace H := bind_hid H; obtain ⟨t_18, qt_18, H⟩ := H; replace H := bind_hid H; obtain ⟨t_23, qt_23, H⟩ := H; replace H := let_hid H; obtain ⟨t_24, ht_24, H⟩ := H; replace H := bind_hid H; obtain ⟨t_25, qt_25, H⟩ := H; replace H := let_hid H; obtain ⟨t_26, ht_26, H⟩ := H
    go_region_held3 (fun w' => w'.cell? ⟨w.heap.size, 0, none⟩ = some (.int .i64 r_0_zone) ∧ w'.cell? ⟨w.heap.size, 1, none⟩ = some (.int .i64 r_0_grams) ∧ w'.cell? ⟨w.heap.size, 2, none⟩ = some (.int .i64 r_0_from_) ∧ w'.cell? ⟨w.heap.size, 3, none⟩ = some (.int .i64 r_0_until_) ∧ w'.cell? ⟨w.heap.size, 4, none⟩ = some (.int .i64 r_0_cents) ∧ w'.cell? ⟨w_r_0.heap.size, 0, none⟩ = some (.int .i64 before_zone) ∧ w'.cell? ⟨w_r_0.heap.size, 1, none⟩ = some (.int .i64 before_grams) ∧ w'.cell? ⟨w_r_0.heap.size, 2, none⟩ = some (.int .i64 before_from_) ∧ w'.cell? ⟨w_r_0.heap.size, 3, none⟩ = some (.int .i64 before_until_) ∧ w'.cell? ⟨w_r_0.heap.size, 4, none⟩ = some (.int .i64 before_cents)) (first | exact ⟨kr_0_0__697, kr_0_1__698, kr_0_2__699, kr_0_3__700, kr_0_4__701, kbefore_1_0, kbefore_1_1, kbefore_1_2, kbefore_1_3, kbefore_1_4⟩ | exact ⟨kr_0_0__702, kr_0_1__703, kr_0_2__704, kr_0_3__705, kr_0_4__706, kbefore_1_0__707, kbefore_1_1__708, kbefore_1_2__709, kbefore_1_3__710, kbefore_1_4__711⟩)
        (first
          | (go_at_call 105
             refine (Go.Proofs.Ytgbcdmlcmnaimaa.GxCmpCompareInt.C (before_zone) (r_0_zone)  _    qt_18).mono ?_; rintro e_t_18 wt_18 ⟨rfl, bt_18⟩; have HBwt_18 := Lib.hid (Below.step HBY1.drew.out bt_18); replace kr_0_0__697 := cell_below bt_18 kr_0_0__697; replace kr_0_1__698 := cell_below bt_18 kr_0_1__698; replace kr_0_2__699 := cell_below bt_18 kr_0_2__699; replace kr_0_3__700 := cell_below bt_18 kr_0_3__700; replace kr_0_4__701 := cell_below bt_18 kr_0_4__701; replace kbefore_1_0 := cell_below bt_18 kbefore_1_0; replace kbefore_1_1 := cell_below bt_18 kbefore_1_1; replace kbefore_1_2 := cell_below bt_18 kbefore_1_2; replace kbefore_1_3 := cell_below bt_18 kbefore_1_3; replace kbefore_1_4 := cell_below bt_18 kbefore_1_4; clear bt_18
             clear qt_18)
          | (go_at_call 105
             refine (Go.Proofs.Ytgbcdmlcmnaimaa.GxCmpCompareInt.C (before_grams) (r_0_grams)  _    qt_23).mono ?_; rintro e_t_23 wt_23 ⟨rfl, bt_23⟩; have HBwt_23 := Lib.hid (Below.step HBwt_18.out bt_23); replace kr_0_0__697 := cell_below bt_23 kr_0_0__697; replace kr_0_1__698 := cell_below bt_23 kr_0_1__698; replace kr_0_2__699 := cell_below bt_23 kr_0_2__699; replace kr_0_3__700 := cell_below bt_23 kr_0_3__700; replace kr_0_4__701 := cell_below bt_23 kr_0_4__701; replace kbefore_1_0 := cell_below bt_23 kbefore_1_0; replace kbefore_1_1 := cell_below bt_23 kbefore_1_1; replace kbefore_1_2 := cell_below bt_23 kbefore_1_2; replace kbefore_1_3 := cell_below bt_23 kbefore_1_3; replace kbefore_1_4 := cell_below bt_23 kbefore_1_4; clear bt_23; clear qt_23; obtain ⟨w_t_24, hw_t_24⟩ : ∃ x, wt_23.alloc (.cells #[.int .i64 t_18, .int .i64 t_23] 3) = x := ⟨_, rfl⟩; have bw_t_24 : Below wt_23.heap.size wt_23 w_t_24 := (by rw [← hw_t_24]; exact (Below.refl _ _).alloc (Nat.le_refl _) _); have hs_t_24 := HBwt_23.out.size; have nt_24 : t_24.length = 2 := (by rw [← ht_24]; rfl)
             have Ot_24 : Hid (w_t_24.ownsRow w.heap.size 3 1 (.slice (some ⟨wt_23.heap.size, 0, none⟩) 2 2) 2 (Go.Proofs.Ytgbcdmlcmnaimaa.HelpInt.iv t_24)) := by
               rw [← hw_t_24, ← ht_24]; have e_ : ([.int .i64 t_18, .int .i64 t_23] : List Value) = (Go.Proofs.Ytgbcdmlcmnaimaa.HelpInt.iv ([t_18, t_23] : List Int)) := rfl; exact Lib.hid (own_laid (n := 2) hs_t_24 e_ rfl (by unfold maxLen; omega))
             clear hs_t_24; have hht_24 := Lib.hid ht_24; clear ht_24; replace nt_24 := Lib.hid nt_24; have Dt_24_r_0 := Lib.hid (apart_box kr_0_0__697); have Dt_24_before_1 := Lib.hid (apart_box kbefore_1_0); have HBw_t_24 := Lib.hid (Below.step HBwt_23.out bw_t_24); have kr_0_0__702 := cell_below bw_t_24 kr_0_0__697; have kr_0_1__703 := cell_below bw_t_24 kr_0_1__698; have kr_0_2__704 := cell_below bw_t_24 kr_0_2__699; have kr_0_3__705 := cell_below bw_t_24 kr_0_3__700; have kr_0_4__706 := cell_below bw_t_24 kr_0_4__701; have kbefore_1_0__707 := cell_below bw_t_24 kbefore_1_0; have kbefore_1_1__708 := cell_below bw_t_24 kbefore_1_1; have kbefore_1_2__709 := cell_below bw_t_24 kbefore_1_2; have kbefore_1_3__710 := cell_below bw_t_24 kbefore_1_3; have kbefore_1_4__711 := cell_below bw_t_24 kbefore_1_4
             clear bw_t_24)
          | (have hc0_ := nt_24.out
             have Oct_25_1 := Lib.hid (own_len hc0_ Ot_24.out); have con_ := Go.Proofs.Ytgbcdmlcmnaimaa.GxCmpOrInt.C (t_24) (some ⟨wt_23.heap.size, 0, none⟩) 2 _   (Lib.hid (own_cells Oct_25_1.out)) (Lib.hid (own_max Oct_25_1.out)) qt_25; rw [hc0_] at con_; clear hc0_ Oct_25_1; go_at_call 104; refine con_.mono ?_; rintro e_t_25 wt_25 ⟨rfl, bt_25⟩; have HBwt_25 := Lib.hid (Below.step HBw_t_24.out bt_25); replace kr_0_0__702 := cell_below bt_25 kr_0_0__702; replace kr_0_1__703 := cell_below bt_25 kr_0_1__703; replace kr_0_2__704 := cell_below bt_25 kr_0_2__704; replace kr_0_3__705 := cell_below bt_25 kr_0_3__705; replace kr_0_4__706 := cell_below bt_25 kr_0_4__706; replace kbefore_1_0__707 := cell_below bt_25 kbefore_1_0__707; replace kbefore_1_1__708 := cell_below bt_25 kbefore_1_1__708; replace kbefore_1_2__709 := cell_below bt_25 kbefore_1_2__709; replace kbefore_1_3__710 := cell_below bt_25 kbefore_1_3__710; replace kbefore_1_4__711 := cell_below bt_25 kbefore_1_4__711; replace Ot_24 := Lib.hid (own_below Ot_24.out bt_25); clear bt_25
             clear qt_25))
    try clear kr_0_0__697
    try clear kr_0_1__698
    try clear kr_0_2__699
    try clear kr_0_3__700
    try clear kr_0_4__701
    try clear kbefore_1_0
    try clear kbefore_1_1
    try clear kbefore_1_2
    try clear kbefore_1_3
    try clear kbefore_1_4
    obtain rfl := ret_hid H; go_wp2_with fail; go_ret; exact ⟨rfl, HBwt_25.out⟩
  | true =>
    replace H := ite_t H; replace H := let_hid H; obtain ⟨t_12, ht_12, H⟩ := H; obtain rfl := ret_hid H; go_wp2_with fail; go_ret; exact ⟨rfl, HBY1.out⟩
end Go.Proofs.Ytgbcdmlcmnaimaa.GiCanFollow

namespace Go.Proofs.Ytgbcdmlcmnaimaa.GiAreRates
open Go.RowKit
open Go.Proofs.Ytgbcdmlcmnaimaa.Rowed Go.Proofs.Ytgbcdmlcmnaimaa.Turn Go.Proofs.Ytgbcdmlcmnaimaa.Aid Go.Proofs.Ytgbcdmlcmnaimaa.GoP Go.Proofs.Ytgbcdmlcmnaimaa.GoM

def l0 (list : (List PRate.Rate)) (k0 : Nat) (s : Unit) (nx0 bk0 : Unit → Option (Bool)) : Option (Bool) :=
 
 Option.bind (idx list (k0 : Int)) fun (yt_10 : PRate.Rate) =>
 unRate yt_10 fun (t_10_zone : Int) (t_10_grams : Int) (t_10_from_ : Int) (t_10_until_ : Int) (t_10_cents : Int) =>
 Option.bind (GiIsRate.P (PRate.Rate.mk t_10_zone t_10_grams t_10_from_ t_10_until_ t_10_cents)) fun (t_16 : Bool) =>
 letK (!t_16) fun (t_17 : Bool) =>
 joinK (fun (t_31 : Bool) =>
 iteK t_31
 (some false)
 (appK nx0 ())) fun jt_31 => iteK t_17 (appK jt_31 true) (letK (decide (0 < (k0 : Int))) fun (t_20 : Bool) =>
 joinK (fun (t_30 : Bool) =>
 appK jt_31 t_30) fun jt_30 => iteK t_20 (letK (IntKind.i64.wrap ((k0 : Int) - 1)) fun (t_25 : Int) =>
 Option.bind (idx list t_25) fun (yt_26 : PRate.Rate) =>
 unRate yt_26 fun (t_26_zone : Int) (t_26_grams : Int) (t_26_from_ : Int) (t_26_until_ : Int) (t_26_cents : Int) =>
 Option.bind (GiCanFollow.P (PRate.Rate.mk t_10_zone t_10_grams t_10_from_ t_10_until_ t_10_cents) (PRate.Rate.mk t_26_zone t_26_grams t_26_from_ t_26_until_ t_26_cents)) fun (t_28 : Bool) =>
 letK (!t_28) fun (t_29 : Bool) =>
 appK jt_30 t_29) (appK jt_30 false))

def e0  (s : Unit) : Option (Bool) :=
 
 some true

def P (list : (List PRate.Rate)) : Option (Bool) :=
 letK (decide (16 < (list.length : Int))) fun (t_3 : Bool) =>
 iteK t_3
 (some false)
 (cntK (l0 list) (list.length) 0 () (e0 ))

set_option maxRecDepth 100000 in
set_option maxHeartbeats 2000000 in
theorem C (list : (List PRate.Rate)) (A0 : Option Addr) (c0 : Nat)  (w : World) (M0 : Hid (Cells w 5 A0 list.length (PRate.flat list))) (N0 : Hid (list.length ≤ 9223372036854775807))  {r : Bool} (H : Hid (P list = some r)) :
  Calls Try.prog 43 #[.slice A0 list.length c0] w (Gives (.bool r) w) := by
 have HB := Lib.hid (Below.refl w.heap.size w); unfold P at H; have N0o := N0.out
 go_enter Try.func43, Try.ntmps43
 replace H := let_hid H; obtain ⟨t_3, ht_3, H⟩ := H
 cases t_3 with
 | false =>
  have w12 : ¬ (16 < list.length) := (by have := of_decide_eq_false ht_3; omega); replace H := ite_f H; go_wp2_with fail; go_loopg [10] (list.length) (fun m_ v10_ wr => ∃ (k0 : Nat) , k0 + m_ = list.length ∧ v10_ = .int .i64 (k0 : Int) ∧ Hid (cntK (l0 list) m_ k0 () (e0 ) = some r) ∧ Hid (Below w.heap.size w wr))
  case atStart => exact ⟨0, by omega, rfl, H, HB⟩
  case round =>
   obtain ⟨k0, hkm0, rfl, H, e11⟩ := hrel; rename World => wr0
   cases gk with
   | zero =>
    obtain rfl : k0 = list.length := (by omega); have hc0 : decide (((list.length : Nat) : Int) < ((list.length : Nat) : Int)) = false := (by simp); replace H := cnt_zero H; unfold e0 at H; obtain rfl := ret_hid H; go_wp2_with fail; go_ret; exact ⟨rfl, e11.out⟩
   | succ m0 =>
    have hlt0 : k0 < list.length := (by omega); have hc0 : decide ((k0 : Int) < ((list.length : Nat) : Int)) = true := (by simp; omega); replace H := cnt_succ H; unfold l0 at H; replace H := idx_hid H; obtain ⟨q12, m12, p12, j12, v12, H⟩ := H; obtain rfl : k0 = q12 := (by omega); clear p12; obtain ⟨h11, k11, f11, j11, g11⟩ := m12; replace H := unRate_hid H; obtain ⟨y12, a13, j13, o12, b12, l11, t11, s11, n11, w11⟩ := ORate.at_ M0.out j12; obtain rfl := Option.some.inj (v12.out.symm.trans b12); subst o12; have l13 := cell_lt l11; replace l11 := cell_below e11.out l11; replace t11 := cell_below e11.out t11; replace s11 := cell_below e11.out s11; replace n11 := cell_below e11.out n11; replace w11 := cell_below e11.out w11; clear b12; have d13 : (0 : Int) ≤ (k0 : Int) := (by omega); have e13 : (k0 : Int) < ((list.length : Nat) : Int) := (by omega); have b13 : ((k0 : Int)).toNat = k0 := (by omega); obtain ⟨p10, i11⟩ : ∃ x, wr0.alloc (.cells #[.int .i64 h11, .int .i64 k11, .int .i64 f11, .int .i64 j11, .int .i64 g11] 92) = x := ⟨_, rfl⟩; have d11 : Below wr0.heap.size wr0 p10 := (by rw [← i11]; exact (Below.refl _ _).alloc (Nat.le_refl _) _); have q10 := Lib.hid (Below.step e11.out d11); have c10 := cell_below d11 l11; have j10 := cell_below d11 t11; have d10 := cell_below d11 s11; have g10 := cell_below d11 n11; have f10 := cell_below d11 w11; clear d11; have b10 : p10.cell? ⟨wr0.heap.size, 0, none⟩ = some (.int .i64 h11) := (by rw [← i11]; exact box_new _ _ _ 0 _ rfl); have h10 : p10.cell? ⟨wr0.heap.size, 1, none⟩ = some (.int .i64 k11) := (by rw [← i11]; exact box_new _ _ _ 1 _ rfl); have e10 : p10.cell? ⟨wr0.heap.size, 2, none⟩ = some (.int .i64 f11) := (by rw [← i11]; exact box_new _ _ _ 2 _ rfl); have i10 : p10.cell? ⟨wr0.heap.size, 3, none⟩ = some (.int .i64 j11) := (by rw [← i11]; exact box_new _ _ _ 3 _ rfl); have a10 : p10.cell? ⟨wr0.heap.size, 4, none⟩ = some (.int .i64 g11) := (by rw [← i11]; exact box_new _ _ _ 4 _ rfl); go_wp2_with fail; clear l11 t11 s11 n11 w11; have y10 := Lib.hid c10; replace c10 := cell_regrown c10; have s10 := Lib.hid j10; replace j10 := cell_regrown j10; have z10 := Lib.hid d10; replace d10 := cell_regrown d10; have r10 := Lib.hid g10; replace g10 := cell_regrown g10; have a11 := Lib.hid f10; replace f10 := cell_regrown f10; have c11 := Lib.hid b10; replace b10 := cell_regrown b10; have b11 := Lib.hid h10; replace h10 := cell_regrown h10; have x10 := Lib.hid e10; replace e10 := cell_regrown e10; have w10 := Lib.hid i10; replace i10 := cell_regrown i10; have t10 := Lib.hid a10; replace a10 := cell_regrown a10; replace H := bind_hid H; obtain ⟨t_16, s12, H⟩ := H; have v10 : ∀ d os, Calls Try.prog 88 #[.agg #[.int .i64 h11, .int .i64 k11, .int .i64 f11, .int .i64 j11, .int .i64 g11]] (Go.Sort.grow (redrawn p10 d) os) fun e w'' => e = .returned (.bool t_16) ∧ ∃ p : Regrown, w'' = Go.Sort.grow (redrawn p10 p.d) p.os := fun d os => Calls.regrown_of (GiIsRate.C ((PRate.Rate.mk h11 k11 f11 j11 g11))  _    s12)
    cases t_16 with
    | false =>
     replace H := let_hid H; obtain ⟨t_17, y11, H⟩ := H; obtain rfl : t_17 = true := y11.symm; replace H := join_hid H; replace H := ite_t H; replace H := app_hid H; refine wp_region_quiet_below (by kernel_rfl) (by kernel_rfl) ?_
     repeat (go_big_quiet_step (first | (go_at_call 88; exact v10 _ _)))
     refine wpQuiet_nil ?_; intro Y6 hY6; replace hY6 := below_class hY6; clear v10; replace c10 := y10.out; clear y10; replace j10 := s10.out; clear s10; replace d10 := z10.out; clear z10; replace g10 := r10.out; clear r10; replace f10 := a11.out; clear a11; replace b10 := c11.out; clear c11; replace h10 := b11.out; clear b11; replace e10 := x10.out; clear x10; replace i10 := w10.out; clear w10; replace a10 := t10.out; clear t10; have HBY6 := Lib.hid (Below.step q10.out hY6); replace c10 := cell_below hY6 c10; replace j10 := cell_below hY6 j10; replace d10 := cell_below hY6 d10; replace g10 := cell_below hY6 g10; replace f10 := cell_below hY6 f10; replace b10 := cell_below hY6 b10; replace h10 := cell_below hY6 h10; replace e10 := cell_below hY6 e10; replace i10 := cell_below hY6 i10; replace a10 := cell_below hY6 a10; clear hY6; replace H := ite_t H; obtain rfl := ret_hid H; go_wp2_with fail; go_ret; exact ⟨rfl, HBY6.out⟩
    | true =>
     replace H := let_hid H; obtain ⟨t_17, y11, H⟩ := H; obtain rfl : t_17 = false := y11.symm; replace H := join_hid H; replace H := ite_f H; replace H := let_hid H; obtain ⟨t_20, d12, H⟩ := H; replace H := join_hid H
     cases t_20 with
     | false =>
      have n12 : ¬ (0 < k0) := (by have := of_decide_eq_false d12; omega); replace H := ite_f H; replace H := app_hid H; replace H := app_hid H; refine wp_region_quiet_below (by kernel_rfl) (by kernel_rfl) ?_
      repeat (go_big_quiet_step (first | (go_at_call 88; exact v10 _ _)))
      refine wpQuiet_nil ?_; intro Y6 hY6; replace hY6 := below_class hY6; clear v10; replace c10 := y10.out; clear y10; replace j10 := s10.out; clear s10; replace d10 := z10.out; clear z10; replace g10 := r10.out; clear r10; replace f10 := a11.out; clear a11; replace b10 := c11.out; clear c11; replace h10 := b11.out; clear b11; replace e10 := x10.out; clear x10; replace i10 := w10.out; clear w10; replace a10 := t10.out; clear t10; have HBY6 := Lib.hid (Below.step q10.out hY6); replace c10 := cell_below hY6 c10; replace j10 := cell_below hY6 j10; replace d10 := cell_below hY6 d10; replace g10 := cell_below hY6 g10; replace f10 := cell_below hY6 f10; replace b10 := cell_below hY6 b10; replace h10 := cell_below hY6 h10; replace e10 := cell_below hY6 e10; replace i10 := cell_below hY6 i10; replace a10 := cell_below hY6 a10; clear hY6; replace H := ite_f H; replace H := app_hid H; go_wp2_with fail
      go_roundg m0
      case measure => omega
      case rel => exact ⟨k0 + 1, by omega, by go_num, H, HBY6⟩
     | true =>
      have n12 : 0 < k0 := (by have := of_decide_eq_true d12; omega); replace H := ite_t H; replace H := let_hid H; obtain ⟨t_25, h13, H⟩ := H; replace H := idx_hid H; obtain ⟨p11, l12, r12, x12, t12, H⟩ := H; subst r12; obtain ⟨a12, c12, g12, f12, e12⟩ := l12; replace H := unRate_hid H; obtain ⟨i13, m13, z12, h12, i12, k10, l10, m10, o10, n10⟩ := ORate.at_ M0.out x12; obtain rfl := Option.some.inj (t12.out.symm.trans i12); simp only [Option.some.injEq, Addr.mk.injEq] at h12; obtain ⟨rfl, rfl, _⟩ := h12; have k13 := cell_lt k10; replace k10 := cell_below q10.out k10; replace l10 := cell_below q10.out l10; replace m10 := cell_below q10.out m10; replace o10 := cell_below q10.out o10; replace n10 := cell_below q10.out n10; clear i12; have c13 : (0 : Int) ≤ (p11 : Int) := (by omega); have f13 : (p11 : Int) < ((list.length : Nat) : Int) := (by omega); have g13 : ((p11 : Int)).toNat = p11 := (by omega); have q11 := Lib.hid k10; replace k10 := cell_regrown k10; have o11 := Lib.hid l10; replace l10 := cell_regrown l10; have r11 := Lib.hid m10; replace m10 := cell_regrown m10; have v11 := Lib.hid o10; replace o10 := cell_regrown o10; have m11 := Lib.hid n10; replace n10 := cell_regrown n10; replace H := bind_hid H; obtain ⟨t_28, k12, H⟩ := H; have x11 : ∀ d os, Calls Try.prog 89 #[.agg #[.int .i64 h11, .int .i64 k11, .int .i64 f11, .int .i64 j11, .int .i64 g11], .agg #[.int .i64 a12, .int .i64 c12, .int .i64 g12, .int .i64 f12, .int .i64 e12]] (Go.Sort.grow (redrawn p10 d) os) fun e w'' => e = .returned (.bool t_28) ∧ ∃ p : Regrown, w'' = Go.Sort.grow (redrawn p10 p.d) p.os := fun d os => Calls.regrown_of (GiCanFollow.C ((PRate.Rate.mk h11 k11 f11 j11 g11)) ((PRate.Rate.mk a12 c12 g12 f12 e12))  _    k12)
      cases t_28 with
      | false =>
       replace H := let_hid H; obtain ⟨t_29, z11, H⟩ := H; obtain rfl : t_29 = true := z11.symm; replace H := app_hid H; replace H := app_hid H; refine wp_region_quiet_below (by kernel_rfl) (by kernel_rfl) ?_
       repeat (go_big_quiet_step (first | (go_at_call 88; exact v10 _ _) | (go_at_call 89; exact x11 _ _)))
       refine wpQuiet_nil ?_; intro Y6 hY6; replace hY6 := below_class hY6; clear v10 x11; replace c10 := y10.out; clear y10; replace j10 := s10.out; clear s10; replace d10 := z10.out; clear z10; replace g10 := r10.out; clear r10; replace f10 := a11.out; clear a11; replace b10 := c11.out; clear c11; replace h10 := b11.out; clear b11; replace e10 := x10.out; clear x10; replace i10 := w10.out; clear w10; replace a10 := t10.out; clear t10; replace k10 := q11.out; clear q11; replace l10 := o11.out; clear o11; replace m10 := r11.out; clear r11; replace o10 := v11.out; clear v11; replace n10 := m11.out; clear m11; have HBY6 := Lib.hid (Below.step q10.out hY6); replace c10 := cell_below hY6 c10; replace j10 := cell_below hY6 j10; replace d10 := cell_below hY6 d10; replace g10 := cell_below hY6 g10; replace f10 := cell_below hY6 f10; replace b10 := cell_below hY6 b10; replace h10 := cell_below hY6 h10; replace e10 := cell_below hY6 e10; replace i10 := cell_below hY6 i10; replace a10 := cell_below hY6 a10; replace k10 := cell_below hY6 k10; replace l10 := cell_below hY6 l10; replace m10 := cell_below hY6 m10; replace o10 := cell_below hY6 o10; replace n10 := cell_below hY6 n10; clear hY6; replace H := ite_t H; obtain rfl := ret_hid H; go_wp2_with fail; go_ret; exact ⟨rfl, HBY6.out⟩
      | true =>
       replace H := let_hid H; obtain ⟨t_29, z11, H⟩ := H; obtain rfl : t_29 = false := z11.symm; replace H := app_hid H; replace H := app_hid H; refine wp_region_quiet_below (by kernel_rfl) (by kernel_rfl) ?_
       repeat (go_big_quiet_step (first | (go_at_call 88; exact v10 _ _) | (go_at_call 89; exact x11 _ _)))
       refine wpQuiet_nil ?_; intro Y6 hY6; replace hY6 := below_class hY6; clear v10 x11; replace c10 := y10.out; clear y10; replace j10 := s10.out; clear s10; replace d10 := z10.out; clear z10; replace g10 := r10.out; clear r10; replace f10 := a11.out; clear a11; replace b10 := c11.out; clear c11; replace h10 := b11.out; clear b11; replace e10 := x10.out; clear x10; replace i10 := w10.out; clear w10; replace a10 := t10.out; clear t10; replace k10 := q11.out; clear q11; replace l10 := o11.out; clear o11; replace m10 := r11.out; clear r11; replace o10 := v11.out; clear v11; replace n10 := m11.out; clear m11; have HBY6 := Lib.hid (Below.step q10.out hY6); replace c10 := cell_below hY6 c10; replace j10 := cell_below hY6 j10; replace d10 := cell_below hY6 d10; replace g10 := cell_below hY6 g10; replace f10 := cell_below hY6 f10; replace b10 := cell_below hY6 b10; replace h10 := cell_below hY6 h10; replace e10 := cell_below hY6 e10; replace i10 := cell_below hY6 i10; replace a10 := cell_below hY6 a10; replace k10 := cell_below hY6 k10; replace l10 := cell_below hY6 l10; replace m10 := cell_below hY6 m10; replace o10 := cell_below hY6 o10; replace n10 := cell_below hY6 n10; clear hY6; replace H := ite_f H; replace H := app_hid H; go_wp2_with fail
       go_roundg m0
       case measure => omega
       case rel => exact ⟨k0 + 1, by omega, by go_num, H, HBY6⟩
 | true =>
  have w12 : 16 < list.length := (by have := of_decide_eq_true ht_3; omega); replace H := ite_t H; obtain rfl := ret_hid H; go_wp2_with fail; go_ret; exact ⟨rfl, HB.out⟩
end Go.Proofs.Ytgbcdmlcmnaimaa.GiAreRates

namespace Go.Proofs.Ytgbcdmlcmnaimaa.GiIsPostOffice
open Go.RowKit
open Go.Proofs.Ytgbcdmlcmnaimaa.Rowed Go.Proofs.Ytgbcdmlcmnaimaa.Turn Go.Proofs.Ytgbcdmlcmnaimaa.Aid Go.Proofs.Ytgbcdmlcmnaimaa.GoP Go.Proofs.Ytgbcdmlcmnaimaa.GoM

def P (office : Int) : Option (Bool) :=
  Option.bind (Go.Proofs.Ytgbcdmlcmnaimaa.GiWithin.P office 0 9) fun (t_2 : Bool) =>
  some t_2

set_option maxRecDepth 100000 in
set_option maxHeartbeats 2000000 in
theorem C (office : Int)   (w : World)   {r : Bool} (H : Hid (P office = some r)) :
    Calls Try.prog 61 #[.int .i64 office] w (Gives (.bool r) w) := by
  have HB := Lib.hid (Below.refl w.heap.size w)
  unfold P at H
  go_enter Try.func61, Try.ntmps61
  replace H := bind_hid H
  obtain ⟨t_2, qt_2, H⟩ := H
  go_wp2_with fail
  go_at_call 52
  refine (Go.Proofs.Ytgbcdmlcmnaimaa.GiWithin.C (office) (0) (9)  _    qt_2).mono ?_
  rintro e_t_2 wt_2 ⟨rfl, bt_2⟩
  have HBwt_2 := Lib.hid (Below.step HB.out bt_2)
  clear bt_2
  obtain rfl := ret_hid H
  go_wp2_with fail
  go_ret
  exact ⟨rfl, HBwt_2.out⟩
end Go.Proofs.Ytgbcdmlcmnaimaa.GiIsPostOffice

namespace Go.Proofs.Ytgbcdmlcmnaimaa.GiIsMinute
open Go.RowKit
open Go.Proofs.Ytgbcdmlcmnaimaa.Rowed Go.Proofs.Ytgbcdmlcmnaimaa.Turn Go.Proofs.Ytgbcdmlcmnaimaa.Aid Go.Proofs.Ytgbcdmlcmnaimaa.GoP Go.Proofs.Ytgbcdmlcmnaimaa.GoM

def P (minute : Int) : Option (Bool) :=
  Option.bind (Go.Proofs.Ytgbcdmlcmnaimaa.GiWithin.P minute 0 9999) fun (t_2 : Bool) =>
  some t_2

set_option maxRecDepth 100000 in
set_option maxHeartbeats 2000000 in
theorem C (minute : Int)   (w : World)   {r : Bool} (H : Hid (P minute = some r)) :
    Calls Try.prog 62 #[.int .i64 minute] w (Gives (.bool r) w) := by
  have HB := Lib.hid (Below.refl w.heap.size w)
  unfold P at H
  go_enter Try.func62, Try.ntmps62
  replace H := bind_hid H
  obtain ⟨t_2, qt_2, H⟩ := H
  go_wp2_with fail
  go_at_call 52
  refine (Go.Proofs.Ytgbcdmlcmnaimaa.GiWithin.C (minute) (0) (9999)  _    qt_2).mono ?_
  rintro e_t_2 wt_2 ⟨rfl, bt_2⟩
  have HBwt_2 := Lib.hid (Below.step HB.out bt_2)
  clear bt_2
  obtain rfl := ret_hid H
  go_wp2_with fail
  go_ret
  exact ⟨rfl, HBwt_2.out⟩
end Go.Proofs.Ytgbcdmlcmnaimaa.GiIsMinute

namespace Go.Proofs.Ytgbcdmlcmnaimaa.GiIsMail
open Go.RowKit
open Go.Proofs.Ytgbcdmlcmnaimaa.Rowed Go.Proofs.Ytgbcdmlcmnaimaa.Turn Go.Proofs.Ytgbcdmlcmnaimaa.Aid Go.Proofs.Ytgbcdmlcmnaimaa.GoP Go.Proofs.Ytgbcdmlcmnaimaa.GoM

def P (x : PMail.Mail) : Option (Bool) :=
 unMail x fun (x_leave : Int) (x_from_ : Int) (x_to_ : Int) (x_arrive : Int) =>
 Option.bind (GiIsPostOffice.P x_from_) fun (t_4 : Bool) =>
 joinK (fun (t_9 : Bool) =>
 joinK (fun (t_16 : Bool) =>
 joinK (fun (t_21 : Bool) =>
 joinK (fun (t_26 : Bool) =>
 joinK (fun (t_33 : Bool) =>
 some t_33) fun jt_33 => iteK t_26 (letK (decide (x_leave < x_arrive)) fun (t_32 : Bool) =>
 appK jt_33 t_32) (appK jt_33 false)) fun jt_26 => iteK t_21 (Option.bind (GiIsMinute.P x_arrive) fun (t_25 : Bool) =>
 appK jt_26 t_25) (appK jt_26 false)) fun jt_21 => iteK t_16 (Option.bind (GiIsMinute.P x_leave) fun (t_20 : Bool) =>
 appK jt_21 t_20) (appK jt_21 false)) fun jt_16 => iteK t_9 (letK (x_from_ != x_to_) fun (t_15 : Bool) =>
 appK jt_16 t_15) (appK jt_16 false)) fun jt_9 => iteK t_4 (Option.bind (GiIsPostOffice.P x_to_) fun (t_8 : Bool) =>
 appK jt_9 t_8) (appK jt_9 false)

set_option maxRecDepth 100000 in
set_option maxHeartbeats 2000000 in
theorem C (x : PMail.Mail)   (w : World)   {r : Bool} (H : Hid (P x = some r)) :
  Calls Try.prog 91 #[x.val] w (Gives (.bool r) w) := by
 have HB := Lib.hid (Below.refl w.heap.size w); unfold P at H; obtain ⟨x_leave, x_from_, x_to_, x_arrive⟩ := x; replace H := unMail_hid H; unfold PMail.Mail.val
 go_enter Try.func91, Try.ntmps91
 obtain ⟨h10, g10⟩ : ∃ x, w.alloc (.cells #[.int .i64 x_leave, .int .i64 x_from_, .int .i64 x_to_, .int .i64 x_arrive] 77) = x := ⟨_, rfl⟩; have l10 : Below w.heap.size w h10 := (by rw [← g10]; exact (Below.refl _ _).alloc (Nat.le_refl _) _); have p10 := Lib.hid (Below.step HB.out l10); clear l10; have b10 : h10.cell? ⟨w.heap.size, 0, none⟩ = some (.int .i64 x_leave) := (by rw [← g10]; exact box_new _ _ _ 0 _ rfl); have d10 : h10.cell? ⟨w.heap.size, 1, none⟩ = some (.int .i64 x_from_) := (by rw [← g10]; exact box_new _ _ _ 1 _ rfl); have a10 : h10.cell? ⟨w.heap.size, 2, none⟩ = some (.int .i64 x_to_) := (by rw [← g10]; exact box_new _ _ _ 2 _ rfl); have c10 : h10.cell? ⟨w.heap.size, 3, none⟩ = some (.int .i64 x_arrive) := (by rw [← g10]; exact box_new _ _ _ 3 _ rfl); replace H := bind_hid H; obtain ⟨t_4, qt_4, H⟩ := H; go_wp2_with fail; go_at_call 61; refine (GiIsPostOffice.C (x_from_)  _    qt_4).mono ?_; rintro q10 wt_4 ⟨rfl, bt_4⟩; have j10 := Lib.hid (Below.step p10.out bt_4); replace b10 := cell_below bt_4 b10; replace d10 := cell_below bt_4 d10; replace a10 := cell_below bt_4 a10; replace c10 := cell_below bt_4 c10; clear bt_4; replace H := join_hid H
 cases t_4 with
 | false =>
  replace H := ite_f H; replace H := app_hid H; replace H := join_hid H; replace H := ite_f H; replace H := app_hid H; replace H := join_hid H; replace H := ite_f H; replace H := app_hid H; replace H := join_hid H; replace H := ite_f H; replace H := app_hid H; replace H := join_hid H; replace H := ite_f H; replace H := app_hid H; obtain rfl := ret_hid H; go_wp2_with fail; go_ret; exact ⟨rfl, j10.out⟩
 | true =>
  replace H := ite_t H; replace H := bind_hid H; obtain ⟨t_8, qt_8, H⟩ := H; go_wp2_with fail; go_at_call 61; refine (GiIsPostOffice.C (x_to_)  _    qt_8).mono ?_; rintro v10 wt_8 ⟨rfl, bt_8⟩; have i10 := Lib.hid (Below.step j10.out bt_8); replace b10 := cell_below bt_8 b10; replace d10 := cell_below bt_8 d10; replace a10 := cell_below bt_8 a10; replace c10 := cell_below bt_8 c10; clear bt_8; replace H := app_hid H; replace H := join_hid H
  cases t_8 with
  | false =>
   replace H := ite_f H; replace H := app_hid H; replace H := join_hid H; replace H := ite_f H; replace H := app_hid H; replace H := join_hid H; replace H := ite_f H; replace H := app_hid H; replace H := join_hid H; replace H := ite_f H; replace H := app_hid H; obtain rfl := ret_hid H; go_wp2_with fail; go_ret; exact ⟨rfl, i10.out⟩
  | true =>
   replace H := ite_t H; replace H := let_hid H; obtain ⟨t_15, r10, H⟩ := H; replace H := app_hid H; replace H := join_hid H
   cases t_15 with
   | false =>
    replace H := ite_f H; replace H := app_hid H; replace H := join_hid H; replace H := ite_f H; replace H := app_hid H; replace H := join_hid H; replace H := ite_f H; replace H := app_hid H; obtain rfl := ret_hid H; go_wp2_with fail; go_ret; exact ⟨rfl, i10.out⟩
   | true =>
    replace H := ite_t H; replace H := bind_hid H; obtain ⟨t_20, n10, H⟩ := H; go_wp2_with fail; go_at_call 62; refine (GiIsMinute.C (x_leave)  _    n10).mono ?_; rintro y10 x10 ⟨rfl, f10⟩; have m10 := Lib.hid (Below.step i10.out f10); replace b10 := cell_below f10 b10; replace d10 := cell_below f10 d10; replace a10 := cell_below f10 a10; replace c10 := cell_below f10 c10; clear f10; replace H := app_hid H; replace H := join_hid H
    cases t_20 with
    | false =>
     replace H := ite_f H; replace H := app_hid H; replace H := join_hid H; replace H := ite_f H; replace H := app_hid H; obtain rfl := ret_hid H; go_wp2_with fail; go_ret; exact ⟨rfl, m10.out⟩
    | true =>
     replace H := ite_t H; replace H := bind_hid H; obtain ⟨t_25, o10, H⟩ := H; go_wp2_with fail; go_at_call 62; refine (GiIsMinute.C (x_arrive)  _    o10).mono ?_; rintro s10 t10 ⟨rfl, e10⟩; have k10 := Lib.hid (Below.step m10.out e10); replace b10 := cell_below e10 b10; replace d10 := cell_below e10 d10; replace a10 := cell_below e10 a10; replace c10 := cell_below e10 c10; clear e10; replace H := app_hid H; replace H := join_hid H
     cases t_25 with
     | false =>
      replace H := ite_f H; replace H := app_hid H; obtain rfl := ret_hid H; go_wp2_with fail; go_ret; exact ⟨rfl, k10.out⟩
     | true =>
      replace H := ite_t H; replace H := let_hid H; obtain ⟨t_32, w10, H⟩ := H; replace H := app_hid H; obtain rfl := ret_hid H; go_wp2_with fail; go_ret; exact ⟨rfl, k10.out⟩
end Go.Proofs.Ytgbcdmlcmnaimaa.GiIsMail

namespace Go.Proofs.Ytgbcdmlcmnaimaa.GiCompareMails
open Go.RowKit
open Go.Proofs.Ytgbcdmlcmnaimaa.Rowed Go.Proofs.Ytgbcdmlcmnaimaa.Turn Go.Proofs.Ytgbcdmlcmnaimaa.Aid Go.Proofs.Ytgbcdmlcmnaimaa.GoP Go.Proofs.Ytgbcdmlcmnaimaa.GoM

def P (a : Go.Proofs.Ytgbcdmlcmnaimaa.PMail.Mail) (b : Go.Proofs.Ytgbcdmlcmnaimaa.PMail.Mail) : Option (Int) :=
  unMail a fun (a_leave : Int) (a_from_ : Int) (a_to_ : Int) (a_arrive : Int) =>
  unMail b fun (b_leave : Int) (b_from_ : Int) (b_to_ : Int) (b_arrive : Int) =>
  Option.bind (Go.Proofs.Ytgbcdmlcmnaimaa.GxCmpCompareInt.P a_leave b_leave) fun (t_7 : Int) =>
  Option.bind (Go.Proofs.Ytgbcdmlcmnaimaa.GxCmpCompareInt.P a_from_ b_from_) fun (t_12 : Int) =>
  Option.bind (Go.Proofs.Ytgbcdmlcmnaimaa.GxCmpCompareInt.P a_to_ b_to_) fun (t_17 : Int) =>
  Option.bind (Go.Proofs.Ytgbcdmlcmnaimaa.GxCmpCompareInt.P a_arrive b_arrive) fun (t_22 : Int) =>
  letK ([t_7, t_12, t_17, t_22]) fun (t_23 : (List Int)) =>
  Option.bind (Go.Proofs.Ytgbcdmlcmnaimaa.GxCmpOrInt.P t_23) fun (t_24 : Int) =>
  some t_24

set_option maxRecDepth 100000 in
set_option maxHeartbeats 2000000 in
theorem C (a : Go.Proofs.Ytgbcdmlcmnaimaa.PMail.Mail) (b : Go.Proofs.Ytgbcdmlcmnaimaa.PMail.Mail)   (w : World)   {r : Int} (H : Hid (P a b = some r)) :
    Calls Try.prog 92 #[a.val, b.val] w (Gives (.int .i64 r) w) := by
  have HB := Lib.hid (Below.refl w.heap.size w); unfold P at H; obtain ⟨a_leave, a_from_, a_to_, a_arrive⟩ := a; replace H := unMail_hid H; obtain ⟨b_leave, b_from_, b_to_, b_arrive⟩ := b; replace H := unMail_hid H; unfold Go.Proofs.Ytgbcdmlcmnaimaa.PMail.Mail.val
  go_enter Try.func92, Try.ntmps92
  obtain ⟨w_a_0, hw_a_0⟩ : ∃ x, w.alloc (.cells #[.int .i64 a_leave, .int .i64 a_from_, .int .i64 a_to_, .int .i64 a_arrive] 77) = x := ⟨_, rfl⟩; have bw_a_0 : Below w.heap.size w w_a_0 := (by rw [← hw_a_0]; exact (Below.refl _ _).alloc (Nat.le_refl _) _); have HBw_a_0 := Lib.hid (Below.step HB.out bw_a_0); clear bw_a_0; have ka_0_0 : w_a_0.cell? ⟨w.heap.size, 0, none⟩ = some (.int .i64 a_leave) := (by rw [← hw_a_0]; exact box_new _ _ _ 0 _ rfl); have ka_0_1 : w_a_0.cell? ⟨w.heap.size, 1, none⟩ = some (.int .i64 a_from_) := (by rw [← hw_a_0]; exact box_new _ _ _ 1 _ rfl); have ka_0_2 : w_a_0.cell? ⟨w.heap.size, 2, none⟩ = some (.int .i64 a_to_) := (by rw [← hw_a_0]; exact box_new _ _ _ 2 _ rfl); have ka_0_3 : w_a_0.cell? ⟨w.heap.size, 3, none⟩ = some (.int .i64 a_arrive) := (by rw [← hw_a_0]; exact box_new _ _ _ 3 _ rfl); obtain ⟨w_b_1, hw_b_1⟩ : ∃ x, w_a_0.alloc (.cells #[.int .i64 b_leave, .int .i64 b_from_, .int .i64 b_to_, .int .i64 b_arrive] 77) = x := ⟨_, rfl⟩; have bw_b_1 : Below w_a_0.heap.size w_a_0 w_b_1 := (by rw [← hw_b_1]; exact (Below.refl _ _).alloc (Nat.le_refl _) _); have HBw_b_1 := Lib.hid (Below.step HBw_a_0.out bw_b_1); have ka_0_0__717 := cell_below bw_b_1 ka_0_0; have ka_0_1__718 := cell_below bw_b_1 ka_0_1; have ka_0_2__719 := cell_below bw_b_1 ka_0_2; have ka_0_3__720 := cell_below bw_b_1 ka_0_3; clear bw_b_1; have kb_1_0 : w_b_1.cell? ⟨w_a_0.heap.size, 0, none⟩ = some (.int .i64 b_leave) := (by rw [← hw_b_1]; exact box_new _ _ _ 0 _ rfl); have kb_1_1 : w_b_1.cell? ⟨w_a_0.heap.size, 1, none⟩ = some (.int .i64 b_from_) := (by rw [← hw_b_1]; exact box_new _ _ _ 1 _ rfl); have kb_1_2 : w_b_1.cell? ⟨w_a_0.heap.size, 2, none⟩ = some (.int .i64 b_to_) := (by rw [← hw_b_1]; exact box_new _ _ _ 2 _ rfl); have kb_1_3 : w_b_1.cell? ⟨w_a_0.heap.size, 3, none⟩ = some (.int .i64 b_arrive) := (by rw [← hw_b_1]; exact box_new _ _ _ 3 _ rfl); go_wp2_with fail; clear ka_0_0 ka_0_1 ka_0_2 ka_0_3; have bd1 : Below w_b_1.heap.size w_b_1 w_b_1.drew := (Below.refl _ _).drew; have HBw_b_1.drew := Lib.hid (Below.step HBw_b_1.out bd1); replace ka_0_0__717 := cell_below bd1 ka_0_0__717; replace ka_0_1__718 := cell_below bd1 ka_0_1__718; replace ka_0_2__719 := cell_below bd1 ka_0_2__719; replace ka_0_3__720 := cell_below bd1 ka_0_3__720; replace kb_1_0 := cell_below bd1 kb_1_0; replace kb_1_1 := cell_below bd1 kb_1_1; replace kb_1_2 := cell_below bd1 kb_1_2; replace kb_1_3 := cell_below bd1 kb_1_3; clear bd1; replace H := bind_hid H; obtain ⟨t_7, qt_7, H⟩ := H; replace H := bind_hid H; obtain ⟨t_12, qt_12, H⟩ := H; replace H := bind_hid H; obtain ⟨t_17, qt_17, H⟩ := H; replace H := bind_hid H; obtain ⟨t_22, qt_22, H⟩ := H; replace H := let_hid H; obtain ⟨t_23, ht_23, H⟩ := H; replace H := bind_hid H; obtain ⟨t_24, qt_24, H⟩ := H
  go_region_held3 (fun w' => w'.cell? ⟨w.heap.size, 0, none⟩ = some (.int .i64 a_leave) ∧ w'.cell? ⟨w.heap.size, 1, none⟩ = some (.int .i64 a_from_) ∧ w'.cell? ⟨w.heap.size, 2, none⟩ = some (.int .i64 a_to_) ∧ w'.cell? ⟨w.heap.size, 3, none⟩ = some (.int .i64 a_arrive) ∧ w'.cell? ⟨w_a_0.heap.size, 0, none⟩ = some (.int .i64 b_leave) ∧ w'.cell? ⟨w_a_0.heap.size, 1, none⟩ = some (.int .i64 b_from_) ∧ w'.cell? ⟨w_a_0.heap.size, 2, none⟩ = some (.int .i64 b_to_) ∧ w'.cell? ⟨w_a_0.heap.size, 3, none⟩ = some (.int .i64 b_arrive)) (first | exact ⟨ka_0_0__717, ka_0_1__718, ka_0_2__719, ka_0_3__720, kb_1_0, kb_1_1, kb_1_2, kb_1_3⟩ | exact ⟨ka_0_0__721, ka_0_1__722, ka_0_2__723, ka_0_3__724, kb_1_0__725, kb_1_1__726, kb_1_2__727, kb_1_3__728⟩)
      (first
        | (go_at_call 105
           refine (Go.Proofs.Ytgbcdmlcmnaimaa.GxCmpCompareInt.C (a_leave) (b_leave)  _    qt_7).mono ?_; rintro e_t_7 wt_7 ⟨rfl, bt_7⟩; have HBwt_7 := Lib.hid (Below.step HBw_b_1.drew.out bt_7); replace ka_0_0__717 := cell_below bt_7 ka_0_0__717; replace ka_0_1__718 := cell_below bt_7 ka_0_1__718; replace ka_0_2__719 := cell_below bt_7 ka_0_2__719; replace ka_0_3__720 := cell_below bt_7 ka_0_3__720; replace kb_1_0 := cell_below bt_7 kb_1_0; replace kb_1_1 := cell_below bt_7 kb_1_1; replace kb_1_2 := cell_below bt_7 kb_1_2; replace kb_1_3 := cell_below bt_7 kb_1_3; clear bt_7
           clear qt_7)
        | (go_at_call 105
           refine (Go.Proofs.Ytgbcdmlcmnaimaa.GxCmpCompareInt.C (a_from_) (b_from_)  _    qt_12).mono ?_; rintro e_t_12 wt_12 ⟨rfl, bt_12⟩; have HBwt_12 := Lib.hid (Below.step HBwt_7.out bt_12); replace ka_0_0__717 := cell_below bt_12 ka_0_0__717; replace ka_0_1__718 := cell_below bt_12 ka_0_1__718; replace ka_0_2__719 := cell_below bt_12 ka_0_2__719; replace ka_0_3__720 := cell_below bt_12 ka_0_3__720; replace kb_1_0 := cell_below bt_12 kb_1_0; replace kb_1_1 := cell_below bt_12 kb_1_1; replace kb_1_2 := cell_below bt_12 kb_1_2; replace kb_1_3 := cell_below bt_12 kb_1_3; clear bt_12
           clear qt_12)
        | (go_at_call 105
           refine (Go.Proofs.Ytgbcdmlcmnaimaa.GxCmpCompareInt.C (a_to_) (b_to_)  _    qt_17).mono ?_; rintro e_t_17 wt_17 ⟨rfl, bt_17⟩; have HBwt_17 := Lib.hid (Below.step HBwt_12.out bt_17); replace ka_0_0__717 := cell_below bt_17 ka_0_0__717; replace ka_0_1__718 := cell_below bt_17 ka_0_1__718; replace ka_0_2__719 := cell_below bt_17 ka_0_2__719; replace ka_0_3__720 := cell_below bt_17 ka_0_3__720; replace kb_1_0 := cell_below bt_17 kb_1_0; replace kb_1_1 := cell_below bt_17 kb_1_1; replace kb_1_2 := cell_below bt_17 kb_1_2; replace kb_1_3 := cell_below bt_17 kb_1_3; clear bt_17
           clear qt_17)
        | (go_at_call 105
           refine (Go.Proofs.Ytgbcdmlcmnaimaa.GxCmpCompareInt.C (a_arrive) (b_arrive)  _    qt_22).mono ?_; rintro e_t_22 wt_22 ⟨rfl, bt_22⟩; have HBwt_22 := Lib.hid (Below.step HBwt_17.out bt_22); replace ka_0_0__717 := cell_below bt_22 ka_0_0__717; replace ka_0_1__718 := cell_below bt_22 ka_0_1__718; replace ka_0_2__719 := cell_below bt_22 ka_0_2__719; replace ka_0_3__720 := cell_below bt_22 ka_0_3__720; replace kb_1_0 := cell_below bt_22 kb_1_0; replace kb_1_1 := cell_below bt_22 kb_1_1; replace kb_1_2 := cell_below bt_22 kb_1_2; replace kb_1_3 := cell_below bt_22 kb_1_3; clear bt_22; clear qt_22; obtain ⟨w_t_23, hw_t_23⟩ : ∃ x, wt_22.alloc (.cells #[.int .i64 t_7, .int .i64 t_12, .int .i64 t_17, .int .i64 t_22] 3) = x := ⟨_, rfl⟩; have bw_t_23 : Below wt_22.heap.size wt_22 w_t_23 := (by rw [← hw_t_23]; exact (Below.refl _ _).alloc (Nat.le_refl _) _); have hs_t_23 := HBwt_22.out.size; have nt_23 : t_23.length = 4 := (by rw [← ht_23]; rfl)
           have Ot_23 : Hid (w_t_23.ownsRow w.heap.size 3 1 (.slice (some ⟨wt_22.heap.size, 0, none⟩) 4 4) 4 (Go.Proofs.Ytgbcdmlcmnaimaa.HelpInt.iv t_23)) := by
             rw [← hw_t_23, ← ht_23]; have e_ : ([.int .i64 t_7, .int .i64 t_12, .int .i64 t_17, .int .i64 t_22] : List Value) = (Go.Proofs.Ytgbcdmlcmnaimaa.HelpInt.iv ([t_7, t_12, t_17, t_22] : List Int)) := rfl; exact Lib.hid (own_laid (n := 4) hs_t_23 e_ rfl (by unfold maxLen; omega))
           clear hs_t_23; have hht_23 := Lib.hid ht_23; clear ht_23; replace nt_23 := Lib.hid nt_23; have Dt_23_a_0 := Lib.hid (apart_box ka_0_0__717); have Dt_23_b_1 := Lib.hid (apart_box kb_1_0); have HBw_t_23 := Lib.hid (Below.step HBwt_22.out bw_t_23); have ka_0_0__721 := cell_below bw_t_23 ka_0_0__717; have ka_0_1__722 := cell_below bw_t_23 ka_0_1__718; have ka_0_2__723 := cell_below bw_t_23 ka_0_2__719; have ka_0_3__724 := cell_below bw_t_23 ka_0_3__720; have kb_1_0__725 := cell_below bw_t_23 kb_1_0; have kb_1_1__726 := cell_below bw_t_23 kb_1_1; have kb_1_2__727 := cell_below bw_t_23 kb_1_2; have kb_1_3__728 := cell_below bw_t_23 kb_1_3
           clear bw_t_23)
        | (have hc0_ := nt_23.out
           have Oct_24_1 := Lib.hid (own_len hc0_ Ot_23.out); have con_ := Go.Proofs.Ytgbcdmlcmnaimaa.GxCmpOrInt.C (t_23) (some ⟨wt_22.heap.size, 0, none⟩) 4 _   (Lib.hid (own_cells Oct_24_1.out)) (Lib.hid (own_max Oct_24_1.out)) qt_24; rw [hc0_] at con_; clear hc0_ Oct_24_1; go_at_call 104; refine con_.mono ?_; rintro e_t_24 wt_24 ⟨rfl, bt_24⟩; have HBwt_24 := Lib.hid (Below.step HBw_t_23.out bt_24); replace ka_0_0__721 := cell_below bt_24 ka_0_0__721; replace ka_0_1__722 := cell_below bt_24 ka_0_1__722; replace ka_0_2__723 := cell_below bt_24 ka_0_2__723; replace ka_0_3__724 := cell_below bt_24 ka_0_3__724; replace kb_1_0__725 := cell_below bt_24 kb_1_0__725; replace kb_1_1__726 := cell_below bt_24 kb_1_1__726; replace kb_1_2__727 := cell_below bt_24 kb_1_2__727; replace kb_1_3__728 := cell_below bt_24 kb_1_3__728; replace Ot_23 := Lib.hid (own_below Ot_23.out bt_24); clear bt_24
           clear qt_24))
  try clear ka_0_0__717
  try clear ka_0_1__718
  try clear ka_0_2__719
  try clear ka_0_3__720
  try clear kb_1_0
  try clear kb_1_1
  try clear kb_1_2
  try clear kb_1_3
  obtain rfl := ret_hid H; go_wp2_with fail; go_ret; exact ⟨rfl, HBwt_24.out⟩
end Go.Proofs.Ytgbcdmlcmnaimaa.GiCompareMails

