/- Texts on which the proofs of several laws stand, one behind the other (12 of 17). No condition of their own. -/
import Derived.Test.YtihibckijdfidaaGreatChecked
import Derived.Test.YtihibckijdfidaaGreatX12P1
import Derived.Test.YtihibckijdfidaaGreatX12P9
import Derived.WalkKit
import Derived.WalkSpells
import Derived.WalkLawsBesides
import Derived.BigQuiet
import Derived.OwnWalk
import Derived.Deep.LoopGhost
import Derived.Deep.QuietTactic
import Derived.IntWalk
import Derived.Lib.QuietBelow
import Derived.Test.YtihibckijdfidaaGreatX12P11
import Derived.StillTailTactics
import Derived.Test.YtihibckijdfidaaGreatX12P7
import Derived.Test.YtihibckijdfidaaGreatX12P6
import Derived.Test.YtihibckijdfidaaGreatX12P10
import Derived.Test.YtihibckijdfidaaGreatX12P5
set_option linter.unusedVariables false
set_option linter.unusedSimpArgs false
namespace Go.Proofs.YtihibckijdfidaaGreat.GsL12Cost
open Go.RowKit
open Go.Proofs.YtihibckijdfidaaGreat.Rowed Go.Proofs.YtihibckijdfidaaGreat.Turn Go.Proofs.YtihibckijdfidaaGreat.Aid Go.Proofs.YtihibckijdfidaaGreat.GoP Go.Proofs.YtihibckijdfidaaGreat.GoM

def l0 (change : Int) (costs_x0 : Int) (costs_x1 : Int) (costs_x2 : Int) (costs_x3 : Int) (k0 : Nat) (s : Int) (nx0 bk0 : Int → Option (Int)) : Option (Int) :=
 letK s fun sum_5l0 =>
 letK ([1, 2, 4, 8]) fun (t_7 : (List Int)) =>
 Option.bind (idx t_7 (k0 : Int)) fun (yt_9 : Int) =>
 Option.bind (GsL12Has.P change yt_9) fun (t_11 : Bool) =>
 iteK t_11
 (Option.bind (idx [costs_x0, costs_x1, costs_x2, costs_x3] (k0 : Int)) fun (yt_14 : Int) =>
 letK (IntKind.i64.wrap (sum_5l0 + yt_14)) fun (t_16 : Int) =>
 appK nx0 (t_16))
 (appK nx0 (sum_5l0))

def e0  (s : Int) : Option (Int) :=
 letK s fun sum_5l0 =>
 some sum_5l0

def P (change : Int) (costs : PIntA4.IntA4) : Option (Int) :=
 unIntA4 costs fun (costs_x0 : Int) (costs_x1 : Int) (costs_x2 : Int) (costs_x3 : Int) =>
 cntK (l0 change costs_x0 costs_x1 costs_x2 costs_x3) (4) 0 (0) (e0 )

set_option maxRecDepth 100000 in
set_option maxHeartbeats 2000000 in
theorem C (change : Int) (costs : PIntA4.IntA4)   (w : World)   {r : Int} (H : Hid (P change costs = some r)) :
  Calls Tryz.prog 62 #[.int .i64 change, costs.val] w (Gives (.int .i64 r) w) := by
 have HB := Lib.hid (Below.refl w.heap.size w); unfold P at H; obtain ⟨p10, k10, l10, m10⟩ := costs; replace H := unIntA4_hid H; unfold PIntA4.IntA4.val
 go_enter Tryz.func62, Tryz.ntmps62
 obtain ⟨d10, h10⟩ : ∃ x, w.alloc (.cells #[.int .i64 p10, .int .i64 k10, .int .i64 l10, .int .i64 m10] 41) = x := ⟨_, rfl⟩; have x10 : Below w.heap.size w d10 := (by rw [← h10]; exact (Below.refl _ _).alloc (Nat.le_refl _) _); have b11 := Lib.hid (Below.step HB.out x10); clear x10; have i10 : d10.cell? ⟨w.heap.size, 0, none⟩ = some (.int .i64 p10) := (by rw [← h10]; exact box_new _ _ _ 0 _ rfl); have o10 : d10.cell? ⟨w.heap.size, 1, none⟩ = some (.int .i64 k10) := (by rw [← h10]; exact box_new _ _ _ 1 _ rfl); have j10 : d10.cell? ⟨w.heap.size, 2, none⟩ = some (.int .i64 l10) := (by rw [← h10]; exact box_new _ _ _ 2 _ rfl); have n10 : d10.cell? ⟨w.heap.size, 3, none⟩ = some (.int .i64 m10) := (by rw [← h10]; exact box_new _ _ _ 3 _ rfl); go_wp2_with fail; go_loopg [6, 5] (4) (fun m_ v6_ v5_ wr => ∃ (k0 : Nat) (r10 : Int), k0 + m_ = 4 ∧ v6_ = .int .i64 (k0 : Int) ∧ v5_ = .int .i64 r10 ∧ Hid (cntK (l0 change p10 k10 l10 m10) m_ k0 (r10) (e0 ) = some r) ∧ Hid (Below w.heap.size w wr) ∧ wr.cell? ⟨w.heap.size, 0, none⟩ = some (.int .i64 p10) ∧ wr.cell? ⟨w.heap.size, 1, none⟩ = some (.int .i64 k10) ∧ wr.cell? ⟨w.heap.size, 2, none⟩ = some (.int .i64 l10) ∧ wr.cell? ⟨w.heap.size, 3, none⟩ = some (.int .i64 m10))
 case atStart => exact ⟨0, _, by omega, rfl, rfl, H, b11, i10, o10, j10, n10⟩
 case round =>
  obtain ⟨k0, r10, hkm0, rfl, rfl, H, s10, i10, o10, j10, n10⟩ := hrel; rename World => wr0
  cases gk with
  | zero =>
   obtain rfl : k0 = 4 := (by omega); have hc0 : decide (((4 : Nat) : Int) < ((4 : Nat) : Int)) = false := (by simp); replace H := cnt_zero H; unfold e0 at H; replace H := let_hid H; obtain ⟨_, rfl, H⟩ := H; obtain rfl := ret_hid H; go_wp2_with fail; go_ret; exact ⟨rfl, s10.out⟩
  | succ m0 =>
   have hlt0 : k0 < 4 := (by omega); have hc0 : decide ((k0 : Int) < ((4 : Nat) : Int)) = true := (by simp; omega); replace H := cnt_succ H; have hd0 : decide ((k0 : Int) < 4) = true := (by simp; omega); unfold l0 at H; replace H := let_hid H; obtain ⟨_, rfl, H⟩ := H; replace H := let_hid H; obtain ⟨t_7, ht_7, H⟩ := H; obtain ⟨v10, w10⟩ : ∃ x, wr0.alloc (.cells #[.int .i64 1, .int .i64 2, .int .i64 4, .int .i64 8] 3) = x := ⟨_, rfl⟩; have b10 : Below wr0.heap.size wr0 v10 := (by rw [← w10]; exact (Below.refl _ _).alloc (Nat.le_refl _) _); have t10 := s10.out.size; have nt_7 : t_7.length = 4 := (by rw [← ht_7]; rfl)
   have Ot_7 : Hid (v10.ownsRow w.heap.size 3 1 (.slice (some ⟨wr0.heap.size, 0, none⟩) 4 4) 4 (HelpInt.iv t_7)) := by
    rw [← w10, ← ht_7]; have e_ : ([.int .i64 1, .int .i64 2, .int .i64 4, .int .i64 8] : List Value) = (HelpInt.iv ([1, 2, 4, 8] : List Int)) := rfl; exact Lib.hid (own_laid (n := 4) t10 e_ rfl (by unfold maxLen; omega))
   clear t10; have v11 := Lib.hid ht_7; clear ht_7; replace nt_7 := Lib.hid nt_7; have y11 := Lib.hid (apart_box i10); have e11 := Lib.hid (Below.step s10.out b10); have c10 := cell_below b10 i10; have e10 := cell_below b10 o10; have f10 := cell_below b10 j10; have g10 := cell_below b10 n10; clear b10; replace H := idx_hid H; obtain ⟨nt_9, yt_9, et_9, lt_9, gt_9, H⟩ := H; obtain rfl : k0 = nt_9 := (by omega); clear et_9; have d11 := nt_7.out; obtain ⟨t11, k11, zt_9, At_9, z10, q10⟩ := HelpInt.Ints.at_ (own_cells Ot_7.out) (k := k0) (by omega); obtain rfl := Option.some.inj (gt_9.out.symm.trans z10); simp only [Option.some.injEq, Addr.mk.injEq] at At_9; obtain ⟨rfl, rfl, _⟩ := At_9; clear z10; simp only [Nat.zero_add] at q10; have o11 : (0 : Int) ≤ (k0 : Int) := (by omega); have s11 : (k0 : Int) < ((4 : Nat) : Int) := (by omega); have q11 : ((k0 : Int)).toNat = k0 := (by omega); clear d11; replace H := bind_hid H; obtain ⟨t_11, c11, H⟩ := H; go_wp2_with fail; clear i10 o10 j10 n10; go_at_call 49; refine (GsL12Has.C (change) (yt_9)  _    c11).mono ?_; rintro p11 j11 ⟨rfl, a10⟩; have y10 := Lib.hid (Below.step e11.out a10); replace c10 := cell_below a10 c10; replace e10 := cell_below a10 e10; replace f10 := cell_below a10 f10; replace g10 := cell_below a10 g10; replace q10 := cell_below a10 q10; replace Ot_7 := Lib.hid (own_below Ot_7.out a10); clear a10
   cases t_11 with
   | false =>
    replace H := ite_f H; replace H := app_hid H; go_wp2_with fail
    go_roundg m0
    case measure => omega
    case rel => exact ⟨k0 + 1, _, by omega, by go_num, rfl, H, y10, c10, e10, f10, g10⟩
   | true =>
    replace H := ite_t H; replace H := idx_hid H; obtain ⟨f11, r11, h11, a11, g11, H⟩ := H; obtain rfl : k0 = f11 := (by omega); clear h11; have l11 : (0 : Int) ≤ (k0 : Int) := (by omega); have m11 : (k0 : Int) < (((4 : Nat) : Nat) : Int) := (by have h_ : k0 < 4 := a11; omega); have n11 : k0 < 4 := a11; have z11 : (k0 : Int) < (4 : Int) := (by omega); have w11 : ((k0 : Int)).toNat = k0 := (by omega); have i11 := PIntA4.cell_at c10 e10 f10 g10 g11.out; rw [Nat.zero_add] at i11; replace H := let_hid H; obtain ⟨t_16, x11, H⟩ := H; replace H := app_hid H; go_wp2_with fail
    go_roundg m0
    case measure => omega
    case rel => exact ⟨k0 + 1, _, by omega, by go_num, rfl, H, y10, c10, e10, f10, g10⟩
end Go.Proofs.YtihibckijdfidaaGreat.GsL12Cost

namespace Go.Proofs.YtihibckijdfidaaGreat.GsL12Smaller
open Go.RowKit
open Go.Proofs.YtihibckijdfidaaGreat.Rowed Go.Proofs.YtihibckijdfidaaGreat.Turn Go.Proofs.YtihibckijdfidaaGreat.Aid Go.Proofs.YtihibckijdfidaaGreat.GoP Go.Proofs.YtihibckijdfidaaGreat.GoM

def P (a : Int) (b : Int) : Option (Bool) :=
 Option.bind (GsL12Cost.P a (PIntA4.IntA4.mk 1 1 1 1)) fun (t_3 : Int) =>
 Option.bind (GsL12Cost.P b (PIntA4.IntA4.mk 1 1 1 1)) fun (t_6 : Int) =>
 letK (decide (t_3 < t_6)) fun (t_11 : Bool) =>
 joinK (fun (t_21 : Bool) =>
 some t_21) fun jt_21 => iteK t_11 (appK jt_21 true) (letK (t_3 == t_6) fun (t_15 : Bool) =>
 joinK (fun (t_20 : Bool) =>
 appK jt_21 t_20) fun jt_20 => iteK t_15 (letK (decide (a < b)) fun (t_19 : Bool) =>
 appK jt_20 t_19) (appK jt_20 false))

set_option maxRecDepth 100000 in
set_option maxHeartbeats 2000000 in
theorem C (a : Int) (b : Int)   (w : World)   {r : Bool} (H : Hid (P a b = some r)) :
  Calls Tryz.prog 78 #[.int .i64 a, .int .i64 b] w (Gives (.bool r) w) := by
 have HB := Lib.hid (Below.refl w.heap.size w); unfold P at H
 go_enter Tryz.func78, Tryz.ntmps78
 replace H := bind_hid H; obtain ⟨t_3, qt_3, H⟩ := H; go_wp2_with fail; go_at_call 62; refine (GsL12Cost.C (a) ((PIntA4.IntA4.mk 1 1 1 1))  _    qt_3).mono ?_; rintro d10 wt_3 ⟨rfl, bt_3⟩; have b10 := Lib.hid (Below.step HB.out bt_3); clear bt_3; replace H := bind_hid H; obtain ⟨t_6, qt_6, H⟩ := H; go_wp2_with fail; go_at_call 62; refine (GsL12Cost.C (b) ((PIntA4.IntA4.mk 1 1 1 1))  _    qt_6).mono ?_; rintro e10 wt_6 ⟨rfl, bt_6⟩; have a10 := Lib.hid (Below.step b10.out bt_6); clear bt_6; replace H := let_hid H; obtain ⟨t_11, c10, H⟩ := H; replace H := join_hid H
 cases t_11 with
 | false =>
  replace H := ite_f H; replace H := let_hid H; obtain ⟨t_15, g10, H⟩ := H; replace H := join_hid H
  cases t_15 with
  | false =>
   replace H := ite_f H; replace H := app_hid H; replace H := app_hid H; obtain rfl := ret_hid H; go_wp2_with fail; go_ret; exact ⟨rfl, a10.out⟩
  | true =>
   replace H := ite_t H; replace H := let_hid H; obtain ⟨t_19, f10, H⟩ := H; replace H := app_hid H; replace H := app_hid H; obtain rfl := ret_hid H; go_wp2_with fail; go_ret; exact ⟨rfl, a10.out⟩
 | true =>
  replace H := ite_t H; replace H := app_hid H; obtain rfl := ret_hid H; go_wp2_with fail; go_ret; exact ⟨rfl, a10.out⟩
end Go.Proofs.YtihibckijdfidaaGreat.GsL12Smaller

namespace Go.Proofs.YtihibckijdfidaaGreat.GsL12Best
open Go.RowKit
open Go.Proofs.YtihibckijdfidaaGreat.Rowed Go.Proofs.YtihibckijdfidaaGreat.Turn Go.Proofs.YtihibckijdfidaaGreat.Aid Go.Proofs.YtihibckijdfidaaGreat.GoP Go.Proofs.YtihibckijdfidaaGreat.GoM

def l0 (costs_x0 : Int) (costs_x1 : Int) (costs_x2 : Int) (costs_x3 : Int) (t_6 : (List Int)) (s : Int × Int) (nx0 bk0 : Int × Int → Option (Int × Bool)) : Option (Int × Bool) :=
 unp2 s fun best_9l0 i_10l0 =>
 letK (decide (i_10l0 < (t_6.length : Int))) fun (t_21 : Bool) =>
 iteK t_21
 (Option.bind (idx t_6 i_10l0) fun (yt_24 : Int) =>
 Option.bind (GsL12Cost.P yt_24 (PIntA4.IntA4.mk costs_x0 costs_x1 costs_x2 costs_x3)) fun (t_27 : Int) =>
 Option.bind (GsL12Cost.P best_9l0 (PIntA4.IntA4.mk costs_x0 costs_x1 costs_x2 costs_x3)) fun (t_30 : Int) =>
 letK (decide (t_27 < t_30)) fun (t_35 : Bool) =>
 joinK (fun (t_48 : Bool) =>
 iteK t_48
 (Option.bind (idx t_6 i_10l0) fun (yt_51 : Int) =>
 letK (IntKind.i64.wrap (i_10l0 + 1)) fun (t_55 : Int) =>
 appK nx0 (yt_51, t_55))
 (letK (IntKind.i64.wrap (i_10l0 + 1)) fun (t_55 : Int) =>
 appK nx0 (best_9l0, t_55))) fun jt_48 => iteK t_35 (appK jt_48 true) (letK (t_27 == t_30) fun (t_39 : Bool) =>
 joinK (fun (t_47 : Bool) =>
 appK jt_48 t_47) fun jt_47 => iteK t_39 (Option.bind (idx t_6 i_10l0) fun (yt_43 : Int) =>
 Option.bind (GsL12Smaller.P yt_43 best_9l0) fun (t_46 : Bool) =>
 appK jt_47 t_46) (appK jt_47 false)))
 (appK bk0 (best_9l0, i_10l0))

def e0  (s : Int × Int) : Option (Int × Bool) :=
 unp2 s fun best_9l0 i_10l0 =>
 some (best_9l0, true)

def P (fuel : Nat) (rates : (List PRate.Rate)) (x : PCover.Cover) (costs : PIntA4.IntA4) : Option (Int × Bool) :=
 unCover x fun (x_id : Int) (x_day : Int) (x_zone : Int) (x_grams : Int) (x_paid : Int) (x_from_ : Int) (x_to_ : Int) (x_leave : Int) (x_arrive : Int) =>
 unIntA4 costs fun (costs_x0 : Int) (costs_x1 : Int) (costs_x2 : Int) (costs_x3 : Int) =>
 Option.bind (GsL12All.P fuel rates (PCover.Cover.mk x_id x_day x_zone x_grams x_paid x_from_ x_to_ x_leave x_arrive)) fun (t_6 : (List Int)) =>
 letK ((t_6.length : Int) == 0) fun (t_10 : Bool) =>
 iteK t_10
 (some (0, false))
 (Option.bind (idx t_6 0) fun (yt_14 : Int) =>
 loopK (l0 costs_x0 costs_x1 costs_x2 costs_x3 t_6) fuel (yt_14, 1) (e0 ))

set_option maxRecDepth 100000 in
set_option maxHeartbeats 2000000 in
theorem C (fuel : Nat) (rates : (List PRate.Rate)) (x : PCover.Cover) (costs : PIntA4.IntA4) (A0 : Option Addr) (c0 : Nat)  (w : World) (M0 : Hid (Cells w 5 A0 rates.length (PRate.flat rates))) (N0 : Hid (rates.length ≤ 9223372036854775807))  {r0 : Int} {r1 : Bool} (H : Hid (P fuel rates x costs = some (r0, r1))) :
  Calls Tryz.prog 36 #[.slice A0 rates.length c0, x.val, costs.val] w (Gives (.tuple #[.int .i64 r0, .bool r1]) w) := by
 have HB := Lib.hid (Below.refl w.heap.size w); unfold P at H; obtain ⟨x_id, x_day, x_zone, x_grams, x_paid, x_from_, x_to_, x_leave, x_arrive⟩ := x; replace H := unCover_hid H; obtain ⟨w10, t10, x10, v10⟩ := costs; replace H := unIntA4_hid H; unfold PCover.Cover.val; unfold PIntA4.IntA4.val; have N0o := N0.out
 go_enter Tryz.func36, Tryz.ntmps36
 obtain ⟨a10, q10⟩ : ∃ x, w.alloc (.cells #[.int .i64 x_id, .int .i64 x_day, .int .i64 x_zone, .int .i64 x_grams, .int .i64 x_paid, .int .i64 x_from_, .int .i64 x_to_, .int .i64 x_leave, .int .i64 x_arrive] 26) = x := ⟨_, rfl⟩; have e12 : Below w.heap.size w a10 := (by rw [← q10]; exact (Below.refl _ _).alloc (Nat.le_refl _) _); have l13 := Lib.hid (Below.step HB.out e12); clear e12; have z11 : a10.cell? ⟨w.heap.size, 0, none⟩ = some (.int .i64 x_id) := (by rw [← q10]; exact box_new _ _ _ 0 _ rfl); have s12 : a10.cell? ⟨w.heap.size, 1, none⟩ = some (.int .i64 x_day) := (by rw [← q10]; exact box_new _ _ _ 1 _ rfl); have w11 : a10.cell? ⟨w.heap.size, 2, none⟩ = some (.int .i64 x_zone) := (by rw [← q10]; exact box_new _ _ _ 2 _ rfl); have g12 : a10.cell? ⟨w.heap.size, 3, none⟩ = some (.int .i64 x_grams) := (by rw [← q10]; exact box_new _ _ _ 3 _ rfl); have i12 : a10.cell? ⟨w.heap.size, 4, none⟩ = some (.int .i64 x_paid) := (by rw [← q10]; exact box_new _ _ _ 4 _ rfl); have k12 : a10.cell? ⟨w.heap.size, 5, none⟩ = some (.int .i64 x_from_) := (by rw [← q10]; exact box_new _ _ _ 5 _ rfl); have p11 : a10.cell? ⟨w.heap.size, 6, none⟩ = some (.int .i64 x_to_) := (by rw [← q10]; exact box_new _ _ _ 6 _ rfl); have l12 : a10.cell? ⟨w.heap.size, 7, none⟩ = some (.int .i64 x_leave) := (by rw [← q10]; exact box_new _ _ _ 7 _ rfl); have n11 : a10.cell? ⟨w.heap.size, 8, none⟩ = some (.int .i64 x_arrive) := (by rw [← q10]; exact box_new _ _ _ 8 _ rfl); obtain ⟨z10, a11⟩ : ∃ x, a10.alloc (.cells #[.int .i64 w10, .int .i64 t10, .int .i64 x10, .int .i64 v10] 41) = x := ⟨_, rfl⟩; have p10 : Below a10.heap.size a10 z10 := (by rw [← a11]; exact (Below.refl _ _).alloc (Nat.le_refl _) _); have j11 := Lib.hid (Below.step l13.out p10); have d10 := cell_below p10 z11; have n10 := cell_below p10 s12; have o10 := cell_below p10 w11; have l10 := cell_below p10 g12; have h10 := cell_below p10 i12; have i10 := cell_below p10 k12; have m10 := cell_below p10 p11; have k10 := cell_below p10 l12; have g10 := cell_below p10 n11; clear p10; have c10 : z10.cell? ⟨a10.heap.size, 0, none⟩ = some (.int .i64 w10) := (by rw [← a11]; exact box_new _ _ _ 0 _ rfl); have e10 : z10.cell? ⟨a10.heap.size, 1, none⟩ = some (.int .i64 t10) := (by rw [← a11]; exact box_new _ _ _ 1 _ rfl); have f10 : z10.cell? ⟨a10.heap.size, 2, none⟩ = some (.int .i64 x10) := (by rw [← a11]; exact box_new _ _ _ 2 _ rfl); have j10 : z10.cell? ⟨a10.heap.size, 3, none⟩ = some (.int .i64 v10) := (by rw [← a11]; exact box_new _ _ _ 3 _ rfl); replace H := bind_hid H; obtain ⟨t_6, qt_6, H⟩ := H; go_wp2_with fail; clear z11 s12 w11 g12 i12 k12 p11 l12 n11; go_at_call 40; refine (GsL12All.C fuel (rates) ((PCover.Cover.mk x_id x_day x_zone x_grams x_paid x_from_ x_to_ x_leave x_arrive)) A0 c0 _   (Lib.hid (Cells.below M0.out j11.out)) N0 qt_6).mono ?_; rintro c14 wt_6 ⟨At_6, ct_6, rfl, ot_6, bt_6⟩; have t13 := Lib.hid (apart_callbox ot_6 d10); have y13 := Lib.hid (apart_callbox ot_6 c10); have Ot_6 := Lib.hid (own_lower ot_6 j11.out.size); clear ot_6; have s11 := Lib.hid (Below.step j11.out bt_6); replace d10 := cell_below bt_6 d10; replace n10 := cell_below bt_6 n10; replace o10 := cell_below bt_6 o10; replace l10 := cell_below bt_6 l10; replace h10 := cell_below bt_6 h10; replace i10 := cell_below bt_6 i10; replace m10 := cell_below bt_6 m10; replace k10 := cell_below bt_6 k10; replace g10 := cell_below bt_6 g10; replace c10 := cell_below bt_6 c10; replace e10 := cell_below bt_6 e10; replace f10 := cell_below bt_6 f10; replace j10 := cell_below bt_6 j10; clear bt_6; replace H := let_hid H; obtain ⟨t_10, b12, H⟩ := H
 cases t_10 with
 | false =>
  have v12 : ¬ (t_6.length = 0) := (by have := ne_of_beq_false b12; omega); replace H := ite_f H; replace H := idx_hid H; obtain ⟨e13, s13, y12, n13, a13, H⟩ := H; obtain rfl : 0 = e13 := (by omega); clear y12; obtain ⟨m13, c13⟩ := own_some Ot_6.out (by omega); subst c13; obtain ⟨p13, o13, w13, r12, j12, z12⟩ := HelpInt.Ints.at_ (own_cells Ot_6.out) (k := 0) (by omega); obtain rfl := Option.some.inj (a13.out.symm.trans j12); simp only [Option.some.injEq, Addr.mk.injEq] at r12; obtain ⟨rfl, rfl, _⟩ := r12; clear j12; have f14 : (0 : Int) < ((t_6.length : Nat) : Int) := (by omega); have r13 : 0 < t_6.length := (by omega)
  try simp only [Nat.zero_mul, Nat.add_zero, Nat.zero_add, Nat.reduceMul] at z12
  go_wp2_with fail; go_loopg [9, 10] (fuel) (fun m_ v9_ v10_ wr => ∃ (y10 : Int) (e11 : Int), v9_ = .int .i64 y10 ∧ v10_ = .int .i64 e11 ∧ Hid (loopK (l0 w10 t10 x10 v10 t_6) m_ (y10, e11) (e0 ) = some (r0, r1)) ∧ Hid (Below w.heap.size w wr) ∧ wr.cell? ⟨w.heap.size, 0, none⟩ = some (.int .i64 x_id) ∧ wr.cell? ⟨w.heap.size, 1, none⟩ = some (.int .i64 x_day) ∧ wr.cell? ⟨w.heap.size, 2, none⟩ = some (.int .i64 x_zone) ∧ wr.cell? ⟨w.heap.size, 3, none⟩ = some (.int .i64 x_grams) ∧ wr.cell? ⟨w.heap.size, 4, none⟩ = some (.int .i64 x_paid) ∧ wr.cell? ⟨w.heap.size, 5, none⟩ = some (.int .i64 x_from_) ∧ wr.cell? ⟨w.heap.size, 6, none⟩ = some (.int .i64 x_to_) ∧ wr.cell? ⟨w.heap.size, 7, none⟩ = some (.int .i64 x_leave) ∧ wr.cell? ⟨w.heap.size, 8, none⟩ = some (.int .i64 x_arrive) ∧ wr.cell? ⟨a10.heap.size, 0, none⟩ = some (.int .i64 w10) ∧ wr.cell? ⟨a10.heap.size, 1, none⟩ = some (.int .i64 t10) ∧ wr.cell? ⟨a10.heap.size, 2, none⟩ = some (.int .i64 x10) ∧ wr.cell? ⟨a10.heap.size, 3, none⟩ = some (.int .i64 v10) ∧ Hid (wr.ownsRow w.heap.size 3 1 (.slice (some ⟨m13, 0, none⟩) t_6.length ct_6) t_6.length (HelpInt.iv t_6)))
  case atStart => exact ⟨_, _, rfl, rfl, H, s11, d10, n10, o10, l10, h10, i10, m10, k10, g10, c10, e10, f10, j10, Ot_6⟩
  case round =>
   obtain ⟨y10, e11, rfl, rfl, H, m11, d10, n10, o10, l10, h10, i10, m10, k10, g10, c10, e10, f10, j10, Ot_6⟩ := hrel; rename World => wr0
   cases gk with
   | zero => exact (loop_zero H).elim
   | succ m0 =>
    replace H := loop_succ H; unfold l0 at H; replace H := unp2_hid H; replace H := let_hid H; obtain ⟨t_21, h13, H⟩ := H
    cases t_21 with
    | false =>
     replace H := ite_f H; replace H := app_hid H; unfold e0 at H; replace H := unp2_hid H; cases ret_hid H; go_wp2_with fail; go_ret2; exact ⟨rfl, m11.out⟩
    | true =>
     replace H := ite_t H; go_wp2_with fail; have n12 := Lib.hid d10; replace d10 := cell_regrown d10; have t11 := Lib.hid n10; replace n10 := cell_regrown n10; have t12 := Lib.hid o10; replace o10 := cell_regrown o10; have q11 := Lib.hid l10; replace l10 := cell_regrown l10; have o11 := Lib.hid h10; replace h10 := cell_regrown h10; have q12 := Lib.hid i10; replace i10 := cell_regrown i10; have p12 := Lib.hid m10; replace m10 := cell_regrown m10; have y11 := Lib.hid k10; replace k10 := cell_regrown k10; have c12 := Lib.hid g10; replace g10 := cell_regrown g10; have h12 := Lib.hid c10; replace c10 := cell_regrown c10; have v11 := Lib.hid e10; replace e10 := cell_regrown e10; have m12 := Lib.hid f10; replace f10 := cell_regrown f10; have f12 := Lib.hid j10; replace j10 := cell_regrown j10; replace H := idx_hid H; obtain ⟨s10, l11, b13, a14, c11, H⟩ := H; subst b13; have q13 : s10 < t_6.length := (by have := of_decide_eq_true h13; omega); obtain ⟨j14, z13, k14, o12, r11, r10⟩ := HelpInt.Ints.at_ (own_cells Ot_6.out) (k := s10) (by omega); obtain rfl := Option.some.inj (c11.out.symm.trans r11); simp only [Option.some.injEq, Addr.mk.injEq] at o12; obtain ⟨rfl, rfl, _⟩ := o12; clear r11; simp only [Nat.zero_add] at r10; have g14 : (0 : Int) ≤ (s10 : Int) := (by omega); have h14 : (s10 : Int) < ((t_6.length : Nat) : Int) := (by omega); have d14 : ((s10 : Int)).toNat = s10 := (by omega); have a12 := Lib.hid r10; replace r10 := cell_regrown r10; replace H := bind_hid H; obtain ⟨t_27, d13, H⟩ := H; have g11 : ∀ d os, Calls Tryz.prog 62 #[.int .i64 l11, .agg #[.int .i64 w10, .int .i64 t10, .int .i64 x10, .int .i64 v10]] (Go.Sort.grow (redrawn wr0 d) os) fun e w'' => e = .returned (.int .i64 t_27) ∧ ∃ p : Regrown, w'' = Go.Sort.grow (redrawn wr0 p.d) p.os := fun d os => Calls.regrown_of (GsL12Cost.C (l11) ((PIntA4.IntA4.mk w10 t10 x10 v10))  _    d13); replace H := bind_hid H; obtain ⟨t_30, x12, H⟩ := H; have d11 : ∀ d os, Calls Tryz.prog 62 #[.int .i64 y10, .agg #[.int .i64 w10, .int .i64 t10, .int .i64 x10, .int .i64 v10]] (Go.Sort.grow (redrawn wr0 d) os) fun e w'' => e = .returned (.int .i64 t_30) ∧ ∃ p : Regrown, w'' = Go.Sort.grow (redrawn wr0 p.d) p.os := fun d os => Calls.regrown_of (GsL12Cost.C (y10) ((PIntA4.IntA4.mk w10 t10 x10 v10))  _    x12); refine wp_region_quiet_below (by kernel_rfl) (by kernel_rfl) ?_
     repeat (go_big_quiet_step (first | (go_at_call 62; with_reducible exact g11 _ _) | (go_at_call 62; with_reducible exact d11 _ _) | (go_at_call 62; exact g11 _ _) | (go_at_call 62; exact d11 _ _)))
     refine wpQuiet_nil ?_; intro Y8 hY8; replace hY8 := below_class hY8; clear g11 d11; replace d10 := n12.out; clear n12; replace n10 := t11.out; clear t11; replace o10 := t12.out; clear t12; replace l10 := q11.out; clear q11; replace h10 := o11.out; clear o11; replace i10 := q12.out; clear q12; replace m10 := p12.out; clear p12; replace k10 := y11.out; clear y11; replace g10 := c12.out; clear c12; replace c10 := h12.out; clear h12; replace e10 := v11.out; clear v11; replace f10 := m12.out; clear m12; replace j10 := f12.out; clear f12; replace r10 := a12.out; clear a12; have HBY8 := Lib.hid (Below.step m11.out hY8); replace d10 := cell_below hY8 d10; replace n10 := cell_below hY8 n10; replace o10 := cell_below hY8 o10; replace l10 := cell_below hY8 l10; replace h10 := cell_below hY8 h10; replace i10 := cell_below hY8 i10; replace m10 := cell_below hY8 m10; replace k10 := cell_below hY8 k10; replace g10 := cell_below hY8 g10; replace c10 := cell_below hY8 c10; replace e10 := cell_below hY8 e10; replace f10 := cell_below hY8 f10; replace j10 := cell_below hY8 j10; replace r10 := cell_below hY8 r10; replace Ot_6 := Lib.hid (own_below Ot_6.out hY8); clear hY8; replace H := let_hid H; obtain ⟨t_35, x13, H⟩ := H; replace H := join_hid H
     cases t_35 with
     | false =>
      replace H := ite_f H; replace H := let_hid H; obtain ⟨t_39, v13, H⟩ := H; replace H := join_hid H
      cases t_39 with
      | false =>
       replace H := ite_f H; replace H := app_hid H; replace H := app_hid H; replace H := ite_f H; replace H := let_hid H; obtain ⟨t_55, h11, H⟩ := H; replace H := app_hid H; go_wp2_with fail
       go_roundg m0
       case measure => omega
       case rel => exact ⟨_, _, rfl, rfl, H, HBY8, d10, n10, o10, l10, h10, i10, m10, k10, g10, c10, e10, f10, j10, Ot_6⟩
      | true =>
       replace H := ite_t H; replace H := idx_hid H; obtain ⟨f13, e14, k13, j13, d12, H⟩ := H; obtain rfl : s10 = f13 := (by omega); clear k13; obtain rfl := Option.some.inj (c11.out.symm.trans d12.out); clear d12 j13; replace H := bind_hid H; obtain ⟨t_46, i13, H⟩ := H; go_wp2_with fail; go_at_call 78; refine (GsL12Smaller.C (l11) (y10)  _    i13).mono ?_; rintro b14 i14 ⟨rfl, b10⟩; have x11 := Lib.hid (Below.step HBY8.out b10); replace d10 := cell_below b10 d10; replace n10 := cell_below b10 n10; replace o10 := cell_below b10 o10; replace l10 := cell_below b10 l10; replace h10 := cell_below b10 h10; replace i10 := cell_below b10 i10; replace m10 := cell_below b10 m10; replace k10 := cell_below b10 k10; replace g10 := cell_below b10 g10; replace c10 := cell_below b10 c10; replace e10 := cell_below b10 e10; replace f10 := cell_below b10 f10; replace j10 := cell_below b10 j10; replace r10 := cell_below b10 r10; replace Ot_6 := Lib.hid (own_below Ot_6.out b10); clear b10; replace H := app_hid H; replace H := app_hid H
       cases t_46 with
       | false =>
        replace H := ite_f H; replace H := let_hid H; obtain ⟨t_55, h11, H⟩ := H; replace H := app_hid H; go_wp2_with fail
        go_roundg m0
        case measure => omega
        case rel => exact ⟨_, _, rfl, rfl, H, x11, d10, n10, o10, l10, h10, i10, m10, k10, g10, c10, e10, f10, j10, Ot_6⟩
       | true =>
        replace H := ite_t H; replace H := idx_hid H; obtain ⟨k11, w12, i11, f11, b11, H⟩ := H; obtain rfl : s10 = k11 := (by omega); clear i11; obtain rfl := Option.some.inj (c11.out.symm.trans b11.out); clear b11 f11; replace H := let_hid H; obtain ⟨t_55, h11, H⟩ := H; replace H := app_hid H; go_wp2_with fail
        go_roundg m0
        case measure => omega
        case rel => exact ⟨_, _, rfl, rfl, H, x11, d10, n10, o10, l10, h10, i10, m10, k10, g10, c10, e10, f10, j10, Ot_6⟩
     | true =>
      replace H := ite_t H; replace H := app_hid H; replace H := ite_t H; replace H := idx_hid H; obtain ⟨k11, w12, i11, f11, b11, H⟩ := H; obtain rfl : s10 = k11 := (by omega); clear i11; obtain rfl := Option.some.inj (c11.out.symm.trans b11.out); clear b11 f11; replace H := let_hid H; obtain ⟨t_55, h11, H⟩ := H; replace H := app_hid H; go_wp2_with fail
      go_roundg m0
      case measure => omega
      case rel => exact ⟨_, _, rfl, rfl, H, HBY8, d10, n10, o10, l10, h10, i10, m10, k10, g10, c10, e10, f10, j10, Ot_6⟩
 | true =>
  have g13 : Hid (t_6.length = 0) := Lib.hid (by have := eq_of_beq b12; omega); have v12 : (t_6.length == 0) = true := beq_iff_eq.2 g13.out; replace H := ite_t H; cases ret_hid H; go_wp2_with fail; go_ret2; exact ⟨rfl, s11.out⟩
end Go.Proofs.YtihibckijdfidaaGreat.GsL12Best

namespace Go.Proofs.YtihibckijdfidaaGreat.GsLeastChange
open Go.RowKit
open Go.Proofs.YtihibckijdfidaaGreat.Rowed Go.Proofs.YtihibckijdfidaaGreat.Turn Go.Proofs.YtihibckijdfidaaGreat.Aid Go.Proofs.YtihibckijdfidaaGreat.GoP Go.Proofs.YtihibckijdfidaaGreat.GoM

def P (fuel : Nat) (rates : (List PRate.Rate)) (x : PCover.Cover) : Option (Int × PCover.Cover × Bool) :=
 unCover x fun (x_id : Int) (x_day : Int) (x_zone : Int) (x_grams : Int) (x_paid : Int) (x_from_ : Int) (x_to_ : Int) (x_leave : Int) (x_arrive : Int) =>
 Option.bind (GsL8Good.P fuel rates) fun (t_5 : Bool) =>
 letK (!t_5) fun (t_6 : Bool) =>
 joinK (fun (t_11 : Bool) =>
 iteK t_11
 (some (0, (PCover.Cover.mk 0 0 0 0 0 0 0 0 0), false))
 (bind2 (GsL12Best.P fuel rates (PCover.Cover.mk x_id x_day x_zone x_grams x_paid x_from_ x_to_ x_leave x_arrive) (PIntA4.IntA4.mk 1 1 1 1)) fun (t_19a : Int) (t_19b : Bool) =>
 letK (!t_19b) fun (t_26 : Bool) =>
 iteK t_26
 (some (0, (PCover.Cover.mk 0 0 0 0 0 0 0 0 0), false))
 (bind2 (GsL12Make.P fuel rates (PCover.Cover.mk x_id x_day x_zone x_grams x_paid x_from_ x_to_ x_leave x_arrive) t_19a) fun (t_34a : PCover.Cover) (t_34b : Bool) =>
 unCover t_34a fun (t_34a_id : Int) (t_34a_day : Int) (t_34a_zone : Int) (t_34a_grams : Int) (t_34a_paid : Int) (t_34a_from_ : Int) (t_34a_to_ : Int) (t_34a_leave : Int) (t_34a_arrive : Int) =>
 some (t_19a, (PCover.Cover.mk t_34a_id t_34a_day t_34a_zone t_34a_grams t_34a_paid t_34a_from_ t_34a_to_ t_34a_leave t_34a_arrive), true)))) fun jt_11 => iteK t_6 (appK jt_11 true) (Option.bind (GsL10One.P (PCover.Cover.mk x_id x_day x_zone x_grams x_paid x_from_ x_to_ x_leave x_arrive)) fun (t_9 : Bool) =>
 letK (!t_9) fun (t_10 : Bool) =>
 appK jt_11 t_10)

set_option maxRecDepth 100000 in
set_option maxHeartbeats 2000000 in
theorem C (fuel : Nat) (rates : (List PRate.Rate)) (x : PCover.Cover) (A0 : Option Addr) (c0 : Nat)  (w : World) (M0 : Hid (Cells w 5 A0 rates.length (PRate.flat rates))) (N0 : Hid (rates.length ≤ 9223372036854775807))  {r0 : Int} {r1 : PCover.Cover} {r2 : Bool} (H : Hid (P fuel rates x = some (r0, r1, r2))) :
  Calls Tryz.prog 8 #[.slice A0 rates.length c0, x.val] w (Gives (.tuple #[.int .i64 r0, (PCover.Cover.val r1), .bool r2]) w) := by
 have HB := Lib.hid (Below.refl w.heap.size w); unfold P at H; obtain ⟨x_id, x_day, x_zone, x_grams, x_paid, x_from_, x_to_, x_leave, x_arrive⟩ := x; replace H := unCover_hid H; unfold PCover.Cover.val; have N0o := N0.out
 go_enter Tryz.func8, Tryz.ntmps8
 obtain ⟨a10, h11⟩ : ∃ x, w.alloc (.cells #[.int .i64 x_id, .int .i64 x_day, .int .i64 x_zone, .int .i64 x_grams, .int .i64 x_paid, .int .i64 x_from_, .int .i64 x_to_, .int .i64 x_leave, .int .i64 x_arrive] 26) = x := ⟨_, rfl⟩; have t13 : Below w.heap.size w a10 := (by rw [← h11]; exact (Below.refl _ _).alloc (Nat.le_refl _) _); have l13 := Lib.hid (Below.step HB.out t13); clear t13; have y12 : a10.cell? ⟨w.heap.size, 0, none⟩ = some (.int .i64 x_id) := (by rw [← h11]; exact box_new _ _ _ 0 _ rfl); have z13 : a10.cell? ⟨w.heap.size, 1, none⟩ = some (.int .i64 x_day) := (by rw [← h11]; exact box_new _ _ _ 1 _ rfl); have w13 : a10.cell? ⟨w.heap.size, 2, none⟩ = some (.int .i64 x_zone) := (by rw [← h11]; exact box_new _ _ _ 2 _ rfl); have q13 : a10.cell? ⟨w.heap.size, 3, none⟩ = some (.int .i64 x_grams) := (by rw [← h11]; exact box_new _ _ _ 3 _ rfl); have b14 : a10.cell? ⟨w.heap.size, 4, none⟩ = some (.int .i64 x_paid) := (by rw [← h11]; exact box_new _ _ _ 4 _ rfl); have d13 : a10.cell? ⟨w.heap.size, 5, none⟩ = some (.int .i64 x_from_) := (by rw [← h11]; exact box_new _ _ _ 5 _ rfl); have p13 : a10.cell? ⟨w.heap.size, 6, none⟩ = some (.int .i64 x_to_) := (by rw [← h11]; exact box_new _ _ _ 6 _ rfl); have s13 : a10.cell? ⟨w.heap.size, 7, none⟩ = some (.int .i64 x_leave) := (by rw [← h11]; exact box_new _ _ _ 7 _ rfl); have g13 : a10.cell? ⟨w.heap.size, 8, none⟩ = some (.int .i64 x_arrive) := (by rw [← h11]; exact box_new _ _ _ 8 _ rfl); obtain ⟨w10, v10⟩ : ∃ x, a10.alloc (.cells #[.int .i64 0, .int .i64 0, .int .i64 0, .int .i64 0, .int .i64 0, .int .i64 0, .int .i64 0, .int .i64 0, .int .i64 0] 26) = x := ⟨_, rfl⟩; have y10 : Below a10.heap.size a10 w10 := (by rw [← v10]; exact (Below.refl _ _).alloc (Nat.le_refl _) _); have b10 := Lib.hid (apart_box y12); have x13 := Lib.hid (Below.step l13.out y10); have k10 := cell_below y10 y12; have r10 := cell_below y10 z13; have m10 := cell_below y10 w13; have n10 := cell_below y10 q13; have q10 := cell_below y10 b14; have l10 := cell_below y10 d13; have o10 := cell_below y10 p13; have s10 := cell_below y10 s13; have p10 := cell_below y10 g13; clear y10; have b11 : w10.cell? ⟨a10.heap.size, 0, none⟩ = some (.int .i64 0) := (by rw [← v10]; exact box_new _ _ _ 0 _ rfl); have f11 : w10.cell? ⟨a10.heap.size, 1, none⟩ = some (.int .i64 0) := (by rw [← v10]; exact box_new _ _ _ 1 _ rfl); have i11 : w10.cell? ⟨a10.heap.size, 2, none⟩ = some (.int .i64 0) := (by rw [← v10]; exact box_new _ _ _ 2 _ rfl); have g11 : w10.cell? ⟨a10.heap.size, 3, none⟩ = some (.int .i64 0) := (by rw [← v10]; exact box_new _ _ _ 3 _ rfl); have k11 : w10.cell? ⟨a10.heap.size, 4, none⟩ = some (.int .i64 0) := (by rw [← v10]; exact box_new _ _ _ 4 _ rfl); have c11 : w10.cell? ⟨a10.heap.size, 5, none⟩ = some (.int .i64 0) := (by rw [← v10]; exact box_new _ _ _ 5 _ rfl); have e11 : w10.cell? ⟨a10.heap.size, 6, none⟩ = some (.int .i64 0) := (by rw [← v10]; exact box_new _ _ _ 6 _ rfl); have l11 : w10.cell? ⟨a10.heap.size, 7, none⟩ = some (.int .i64 0) := (by rw [← v10]; exact box_new _ _ _ 7 _ rfl); have d11 : w10.cell? ⟨a10.heap.size, 8, none⟩ = some (.int .i64 0) := (by rw [← v10]; exact box_new _ _ _ 8 _ rfl); have Ot_2 : Hid (w10.ownsRow w.heap.size 26 9 (.slice (some ⟨a10.heap.size, 0, none⟩) 1 1) 1 [.int .i64 0, .int .i64 0, .int .i64 0, .int .i64 0, .int .i64 0, .int .i64 0, .int .i64 0, .int .i64 0, .int .i64 0]) := Lib.hid (by rw [← v10]; exact own_laid (n := 1) l13.out.size rfl rfl (by unfold maxLen; omega)); replace H := bind_hid H; obtain ⟨t_5, qt_5, H⟩ := H; go_wp2_with fail; clear y12 z13 w13 q13 b14 d13 p13 s13 g13; go_at_call 34; refine (GsL8Good.C fuel (rates) A0 c0 _   (Lib.hid (Cells.below M0.out x13.out)) N0 qt_5).mono ?_; rintro p17 wt_5 ⟨rfl, bt_5⟩; have d12 := Lib.hid (Below.step x13.out bt_5); replace k10 := cell_below bt_5 k10; replace r10 := cell_below bt_5 r10
 replace m10 := cell_below bt_5 m10; replace n10 := cell_below bt_5 n10; replace q10 := cell_below bt_5 q10; replace l10 := cell_below bt_5 l10; replace o10 := cell_below bt_5 o10; replace s10 := cell_below bt_5 s10; replace p10 := cell_below bt_5 p10; replace b11 := cell_below bt_5 b11; replace f11 := cell_below bt_5 f11; replace i11 := cell_below bt_5 i11; replace g11 := cell_below bt_5 g11; replace k11 := cell_below bt_5 k11; replace c11 := cell_below bt_5 c11; replace e11 := cell_below bt_5 e11; replace l11 := cell_below bt_5 l11; replace d11 := cell_below bt_5 d11; replace Ot_2 := Lib.hid (own_below Ot_2.out bt_5); clear bt_5
 cases t_5 with
 | false =>
  replace H := let_hid H; obtain ⟨t_6, ht_6, H⟩ := H; obtain rfl : t_6 = true := ht_6.symm; replace H := join_hid H; replace H := ite_t H; replace H := app_hid H; replace H := ite_t H; obtain ⟨d10, a12⟩ : ∃ x, (((((((((wt_5).setCell ⟨a10.heap.size, 0, none⟩ (.int .i64 0)).setCell ⟨a10.heap.size, 1, none⟩ (.int .i64 0)).setCell ⟨a10.heap.size, 2, none⟩ (.int .i64 0)).setCell ⟨a10.heap.size, 3, none⟩ (.int .i64 0)).setCell ⟨a10.heap.size, 4, none⟩ (.int .i64 0)).setCell ⟨a10.heap.size, 5, none⟩ (.int .i64 0)).setCell ⟨a10.heap.size, 6, none⟩ (.int .i64 0)).setCell ⟨a10.heap.size, 7, none⟩ (.int .i64 0)).setCell ⟨a10.heap.size, 8, none⟩ (.int .i64 0) = x := ⟨_, rfl⟩; have f14 := Ot_2.out.frozenAt 0; have n15 := Ot_2.out.frozenAt 1; have z14 := Ot_2.out.frozenAt 2; have i15 := Ot_2.out.frozenAt 3; have l14 := Ot_2.out.frozenAt 4; have s14 := Ot_2.out.frozenAt 5; have d16 := Ot_2.out.frozenAt 6; have o15 := Ot_2.out.frozenAt 7; have f15 := Ot_2.out.frozenAt 8; have x11 := Lib.hid (own_stores [(0, .int .i64 0), (1, .int .i64 0), (2, .int .i64 0), (3, .int .i64 0), (4, .int .i64 0), (5, .int .i64 0), (6, .int .i64 0), (7, .int .i64 0), (8, .int .i64 0)] Ot_2.out); have i10 : Hid (d10.ownsRow w.heap.size 26 9 (.slice (some ⟨a10.heap.size, 0, none⟩) 1 1) 1 [.int .i64 0, .int .i64 0, .int .i64 0, .int .i64 0, .int .i64 0, .int .i64 0, .int .i64 0, .int .i64 0, .int .i64 0]) := Lib.hid (by rw [← a12]; exact x11.out.1); have c10 : Hid (wt_5.grownBy d10 (Value.slice (some ⟨a10.heap.size, 0, none⟩) 1 1).ownBlock) := Lib.hid (by rw [← a12]; exact x11.out.2); have z12 := Lib.hid (d12.out.grown c10.out d12.out.size (fun q hq => (Ot_2.out.lt q hq).1)); clear x11; have w16 := cell_other k10 c10.out b10.out; have m17 := cell_other r10 c10.out b10.out; have n18 := cell_other m10 c10.out b10.out; have t17 := cell_other n10 c10.out b10.out; have k17 := cell_other q10 c10.out b10.out; have s16 := cell_other l10 c10.out b10.out; have z17 := cell_other o10 c10.out b10.out; have h18 := cell_other s10 c10.out b10.out; have l18 := cell_other p10 c10.out b10.out; clear Ot_2 c10; have x14 : d10.cell? ⟨a10.heap.size, 0, none⟩ = some (.int .i64 0) := i10.out.cells rfl 0 _ rfl; have p15 : d10.cell? ⟨a10.heap.size, 1, none⟩ = some (.int .i64 0) := i10.out.cells rfl 1 _ rfl; have s15 : d10.cell? ⟨a10.heap.size, 2, none⟩ = some (.int .i64 0) := i10.out.cells rfl 2 _ rfl; have e14 : d10.cell? ⟨a10.heap.size, 3, none⟩ = some (.int .i64 0) := i10.out.cells rfl 3 _ rfl; have v14 : d10.cell? ⟨a10.heap.size, 4, none⟩ = some (.int .i64 0) := i10.out.cells rfl 4 _ rfl; have d14 : d10.cell? ⟨a10.heap.size, 5, none⟩ = some (.int .i64 0) := i10.out.cells rfl 5 _ rfl; have j14 : d10.cell? ⟨a10.heap.size, 6, none⟩ = some (.int .i64 0) := i10.out.cells rfl 6 _ rfl; have m14 : d10.cell? ⟨a10.heap.size, 7, none⟩ = some (.int .i64 0) := i10.out.cells rfl 7 _ rfl; have c16 : d10.cell? ⟨a10.heap.size, 8, none⟩ = some (.int .i64 0) := i10.out.cells rfl 8 _ rfl; have hR_ := ret_hid H; simp only [Prod.mk.injEq] at hR_; obtain ⟨rfl, rfl, rfl⟩ := hR_; go_wp2_with fail
  (try simp only [Exit.inBlock, Exit.then])
  refine bodyPost_ret (v := .tuple #[.int .i64 0, .agg #[.int .i64 0, .int .i64 0, .int .i64 0, .int .i64 0, .int .i64 0, .int .i64 0, .int .i64 0, .int .i64 0, .int .i64 0], .bool false]) ?hr_ ?hd_ ?_
  case hd_ => rfl
  case hr_ => simp [results, Tryz.results8, x14, p15, s15, e14, v14, d14, j14, m14, c16, go_sem]
  exact ⟨rfl, z12.out⟩
 | true =>
  replace H := let_hid H; obtain ⟨t_6, ht_6, H⟩ := H; obtain rfl : t_6 = false := ht_6.symm; replace H := join_hid H; replace H := ite_f H; replace H := bind_hid H; obtain ⟨t_9, qt_9, H⟩ := H; go_wp2_with fail; go_at_call 35; refine (GsL10One.C ((PCover.Cover.mk x_id x_day x_zone x_grams x_paid x_from_ x_to_ x_leave x_arrive))  _    qt_9).mono ?_; rintro o18 wt_9 ⟨rfl, bt_9⟩; have b12 := Lib.hid (Below.step d12.out bt_9); replace k10 := cell_below bt_9 k10; replace r10 := cell_below bt_9 r10; replace m10 := cell_below bt_9 m10; replace n10 := cell_below bt_9 n10; replace q10 := cell_below bt_9 q10; replace l10 := cell_below bt_9 l10; replace o10 := cell_below bt_9 o10; replace s10 := cell_below bt_9 s10; replace p10 := cell_below bt_9 p10; replace b11 := cell_below bt_9 b11; replace f11 := cell_below bt_9 f11; replace i11 := cell_below bt_9 i11; replace g11 := cell_below bt_9 g11; replace k11 := cell_below bt_9 k11; replace c11 := cell_below bt_9 c11; replace e11 := cell_below bt_9 e11; replace l11 := cell_below bt_9 l11; replace d11 := cell_below bt_9 d11; replace Ot_2 := Lib.hid (own_below Ot_2.out bt_9); clear bt_9
  cases t_9 with
  | false =>
   replace H := let_hid H; obtain ⟨t_10, w12, H⟩ := H; obtain rfl : t_10 = true := w12.symm; replace H := app_hid H; replace H := ite_t H; obtain ⟨d10, a12⟩ : ∃ x, (((((((((wt_9).setCell ⟨a10.heap.size, 0, none⟩ (.int .i64 0)).setCell ⟨a10.heap.size, 1, none⟩ (.int .i64 0)).setCell ⟨a10.heap.size, 2, none⟩ (.int .i64 0)).setCell ⟨a10.heap.size, 3, none⟩ (.int .i64 0)).setCell ⟨a10.heap.size, 4, none⟩ (.int .i64 0)).setCell ⟨a10.heap.size, 5, none⟩ (.int .i64 0)).setCell ⟨a10.heap.size, 6, none⟩ (.int .i64 0)).setCell ⟨a10.heap.size, 7, none⟩ (.int .i64 0)).setCell ⟨a10.heap.size, 8, none⟩ (.int .i64 0) = x := ⟨_, rfl⟩; have f14 := Ot_2.out.frozenAt 0; have n15 := Ot_2.out.frozenAt 1; have z14 := Ot_2.out.frozenAt 2; have i15 := Ot_2.out.frozenAt 3; have l14 := Ot_2.out.frozenAt 4; have s14 := Ot_2.out.frozenAt 5; have d16 := Ot_2.out.frozenAt 6; have o15 := Ot_2.out.frozenAt 7; have f15 := Ot_2.out.frozenAt 8; have x11 := Lib.hid (own_stores [(0, .int .i64 0), (1, .int .i64 0), (2, .int .i64 0), (3, .int .i64 0), (4, .int .i64 0), (5, .int .i64 0), (6, .int .i64 0), (7, .int .i64 0), (8, .int .i64 0)] Ot_2.out); have i10 : Hid (d10.ownsRow w.heap.size 26 9 (.slice (some ⟨a10.heap.size, 0, none⟩) 1 1) 1 [.int .i64 0, .int .i64 0, .int .i64 0, .int .i64 0, .int .i64 0, .int .i64 0, .int .i64 0, .int .i64 0, .int .i64 0]) := Lib.hid (by rw [← a12]; exact x11.out.1); have c10 : Hid (wt_9.grownBy d10 (Value.slice (some ⟨a10.heap.size, 0, none⟩) 1 1).ownBlock) := Lib.hid (by rw [← a12]; exact x11.out.2); have z12 := Lib.hid (b12.out.grown c10.out b12.out.size (fun q hq => (Ot_2.out.lt q hq).1)); clear x11; have i18 := cell_other k10 c10.out b10.out; have z16 := cell_other r10 c10.out b10.out; have t18 := cell_other m10 c10.out b10.out; have x16 := cell_other n10 c10.out b10.out; have r17 := cell_other q10 c10.out b10.out; have t16 := cell_other l10 c10.out b10.out; have s17 := cell_other o10 c10.out b10.out; have o17 := cell_other s10 c10.out b10.out; have l17 := cell_other p10 c10.out b10.out; clear Ot_2 c10; have k15 : d10.cell? ⟨a10.heap.size, 0, none⟩ = some (.int .i64 0) := i10.out.cells rfl 0 _ rfl; have w14 : d10.cell? ⟨a10.heap.size, 1, none⟩ = some (.int .i64 0) := i10.out.cells rfl 1 _ rfl; have m15 : d10.cell? ⟨a10.heap.size, 2, none⟩ = some (.int .i64 0) := i10.out.cells rfl 2 _ rfl; have q15 : d10.cell? ⟨a10.heap.size, 3, none⟩ = some (.int .i64 0) := i10.out.cells rfl 3 _ rfl; have r14 : d10.cell? ⟨a10.heap.size, 4, none⟩ = some (.int .i64 0) := i10.out.cells rfl 4 _ rfl; have o14 : d10.cell? ⟨a10.heap.size, 5, none⟩ = some (.int .i64 0) := i10.out.cells rfl 5 _ rfl; have e16 : d10.cell? ⟨a10.heap.size, 6, none⟩ = some (.int .i64 0) := i10.out.cells rfl 6 _ rfl; have i14 : d10.cell? ⟨a10.heap.size, 7, none⟩ = some (.int .i64 0) := i10.out.cells rfl 7 _ rfl; have a15 : d10.cell? ⟨a10.heap.size, 8, none⟩ = some (.int .i64 0) := i10.out.cells rfl 8 _ rfl; have hR_ := ret_hid H; simp only [Prod.mk.injEq] at hR_; obtain ⟨rfl, rfl, rfl⟩ := hR_; go_wp2_with fail
   (try simp only [Exit.inBlock, Exit.then])
   refine bodyPost_ret (v := .tuple #[.int .i64 0, .agg #[.int .i64 0, .int .i64 0, .int .i64 0, .int .i64 0, .int .i64 0, .int .i64 0, .int .i64 0, .int .i64 0, .int .i64 0], .bool false]) ?hr_ ?hd_ ?_
   case hd_ => rfl
   case hr_ => simp [results, Tryz.results8, k15, w14, m15, q15, r14, o14, e16, i14, a15, go_sem]
   exact ⟨rfl, z12.out⟩
  | true =>
   replace H := let_hid H; obtain ⟨t_10, w12, H⟩ := H; obtain rfl : t_10 = false := w12.symm; replace H := app_hid H; replace H := ite_f H; replace H := bind2_hid H; obtain ⟨i13, z15, h14, H⟩ := H; go_wp2_with fail; go_at_call 36; refine (GsL12Best.C fuel (rates) ((PCover.Cover.mk x_id x_day x_zone x_grams x_paid x_from_ x_to_ x_leave x_arrive)) ((PIntA4.IntA4.mk 1 1 1 1)) A0 c0 _   (Lib.hid (Cells.below M0.out b12.out)) N0 h14).mono ?_; rintro d17 k13 ⟨rfl, f10⟩; have c12 := Lib.hid (Below.step b12.out f10); replace k10 := cell_below f10 k10; replace r10 := cell_below f10 r10; replace m10 := cell_below f10 m10; replace n10 := cell_below f10 n10; replace q10 := cell_below f10 q10; replace l10 := cell_below f10 l10; replace o10 := cell_below f10 o10; replace s10 := cell_below f10 s10; replace p10 := cell_below f10 p10; replace b11 := cell_below f10 b11; replace f11 := cell_below f10 f11; replace i11 := cell_below f10 i11; replace g11 := cell_below f10 g11; replace k11 := cell_below f10 k11; replace c11 := cell_below f10 c11; replace e11 := cell_below f10 e11; replace l11 := cell_below f10 l11; replace d11 := cell_below f10 d11; replace Ot_2 := Lib.hid (own_below Ot_2.out f10); clear f10
   cases z15 with
   | false =>
    replace H := let_hid H; obtain ⟨t_26, x12, H⟩ := H; obtain rfl : t_26 = true := x12.symm; replace H := ite_t H; obtain ⟨z10, f13⟩ : ∃ x, (((((((((k13).setCell ⟨a10.heap.size, 0, none⟩ (.int .i64 0)).setCell ⟨a10.heap.size, 1, none⟩ (.int .i64 0)).setCell ⟨a10.heap.size, 2, none⟩ (.int .i64 0)).setCell ⟨a10.heap.size, 3, none⟩ (.int .i64 0)).setCell ⟨a10.heap.size, 4, none⟩ (.int .i64 0)).setCell ⟨a10.heap.size, 5, none⟩ (.int .i64 0)).setCell ⟨a10.heap.size, 6, none⟩ (.int .i64 0)).setCell ⟨a10.heap.size, 7, none⟩ (.int .i64 0)).setCell ⟨a10.heap.size, 8, none⟩ (.int .i64 0) = x := ⟨_, rfl⟩; have i16 := Ot_2.out.frozenAt 0; have m18 := Ot_2.out.frozenAt 1; have e18 := Ot_2.out.frozenAt 2; have g17 := Ot_2.out.frozenAt 3; have j18 := Ot_2.out.frozenAt 4; have p18 := Ot_2.out.frozenAt 5; have q18 := Ot_2.out.frozenAt 6; have x18 := Ot_2.out.frozenAt 7; have l16 := Ot_2.out.frozenAt 8; have a13 := Lib.hid (own_stores [(0, .int .i64 0), (1, .int .i64 0), (2, .int .i64 0), (3, .int .i64 0), (4, .int .i64 0), (5, .int .i64 0), (6, .int .i64 0), (7, .int .i64 0), (8, .int .i64 0)] Ot_2.out); have m11 : Hid (z10.ownsRow w.heap.size 26 9 (.slice (some ⟨a10.heap.size, 0, none⟩) 1 1) 1 [.int .i64 0, .int .i64 0, .int .i64 0, .int .i64 0, .int .i64 0, .int .i64 0, .int .i64 0, .int .i64 0, .int .i64 0]) := Lib.hid (by rw [← f13]; exact a13.out.1); have a11 : Hid (k13.grownBy z10 (Value.slice (some ⟨a10.heap.size, 0, none⟩) 1 1).ownBlock) := Lib.hid (by rw [← f13]; exact a13.out.2); have b15 := Lib.hid (c12.out.grown a11.out c12.out.size (fun q hq => (Ot_2.out.lt q hq).1)); clear a13; have m16 := cell_other k10 a11.out b10.out; have g18 := cell_other r10 a11.out b10.out; have n16 := cell_other m10 a11.out b10.out; have j16 := cell_other n10 a11.out b10.out; have v18 := cell_other q10 a11.out b10.out; have h17 := cell_other l10 a11.out b10.out; have n17 := cell_other o10 a11.out b10.out; have i17 := cell_other s10 a11.out b10.out; have o16 := cell_other p10 a11.out b10.out; clear Ot_2 a11; have g15 : z10.cell? ⟨a10.heap.size, 0, none⟩ = some (.int .i64 0) := m11.out.cells rfl 0 _ rfl; have c14 : z10.cell? ⟨a10.heap.size, 1, none⟩ = some (.int .i64 0) := m11.out.cells rfl 1 _ rfl; have y15 : z10.cell? ⟨a10.heap.size, 2, none⟩ = some (.int .i64 0) := m11.out.cells rfl 2 _ rfl; have g14 : z10.cell? ⟨a10.heap.size, 3, none⟩ = some (.int .i64 0) := m11.out.cells rfl 3 _ rfl; have t14 : z10.cell? ⟨a10.heap.size, 4, none⟩ = some (.int .i64 0) := m11.out.cells rfl 4 _ rfl; have w15 : z10.cell? ⟨a10.heap.size, 5, none⟩ = some (.int .i64 0) := m11.out.cells rfl 5 _ rfl; have e15 : z10.cell? ⟨a10.heap.size, 6, none⟩ = some (.int .i64 0) := m11.out.cells rfl 6 _ rfl; have h15 : z10.cell? ⟨a10.heap.size, 7, none⟩ = some (.int .i64 0) := m11.out.cells rfl 7 _ rfl; have t15 : z10.cell? ⟨a10.heap.size, 8, none⟩ = some (.int .i64 0) := m11.out.cells rfl 8 _ rfl; have hR_ := ret_hid H; simp only [Prod.mk.injEq] at hR_; obtain ⟨rfl, rfl, rfl⟩ := hR_; go_wp2_with fail
    (try simp only [Exit.inBlock, Exit.then])
    refine bodyPost_ret (v := .tuple #[.int .i64 0, .agg #[.int .i64 0, .int .i64 0, .int .i64 0, .int .i64 0, .int .i64 0, .int .i64 0, .int .i64 0, .int .i64 0, .int .i64 0], .bool false]) ?hr_ ?hd_ ?_
    case hd_ => rfl
    case hr_ => simp [results, Tryz.results8, g15, c14, y15, g14, t14, w15, e15, h15, t15, go_sem]
    exact ⟨rfl, b15.out⟩
   | true =>
    replace H := let_hid H; obtain ⟨t_26, x12, H⟩ := H; obtain rfl : t_26 = false := x12.symm; replace H := ite_f H; replace H := bind2_hid H; obtain ⟨x15, b18, b16, H⟩ := H; obtain ⟨v11, s11, r11, t11, y11, p11, w11, q11, z11⟩ := x15; replace H := unCover_hid H; go_wp2_with fail; go_at_call 37; refine (GsL12Make.C fuel (rates) ((PCover.Cover.mk x_id x_day x_zone x_grams x_paid x_from_ x_to_ x_leave x_arrive)) (i13) A0 c0 _   (Lib.hid (Cells.below M0.out c12.out)) N0 b16).mono ?_; rintro f18 t10 ⟨rfl, e10⟩; unfold PCover.Cover.val; have r15 := Lib.hid (Below.step c12.out e10); replace k10 := cell_below e10 k10; replace r10 := cell_below e10 r10; replace m10 := cell_below e10 m10; replace n10 := cell_below e10 n10; replace q10 := cell_below e10 q10; replace l10 := cell_below e10 l10; replace o10 := cell_below e10 o10; replace s10 := cell_below e10 s10; replace p10 := cell_below e10 p10; replace b11 := cell_below e10 b11; replace f11 := cell_below e10 f11; replace i11 := cell_below e10 i11; replace g11 := cell_below e10 g11; replace k11 := cell_below e10 k11; replace c11 := cell_below e10 c11; replace e11 := cell_below e10 e11; replace l11 := cell_below e10 l11; replace d11 := cell_below e10 d11; replace Ot_2 := Lib.hid (own_below Ot_2.out e10); clear e10; obtain ⟨j10, j11⟩ : ∃ x, t10.alloc (.cells #[.int .i64 v11, .int .i64 s11, .int .i64 r11, .int .i64 t11, .int .i64 y11, .int .i64 p11, .int .i64 w11, .int .i64 q11, .int .i64 z11] 26) = x := ⟨_, rfl⟩; have g10 : Below t10.heap.size t10 j10 := (by rw [← j11]; exact (Below.refl _ _).alloc (Nat.le_refl _) _); have n11 := Lib.hid (apart_box b11); have n14 := Lib.hid (Below.step r15.out g10); have p12 := cell_below g10 k10; have b13 := cell_below g10 r10; have f12 := cell_below g10 m10; have e12 := cell_below g10 n10; have c13 := cell_below g10 q10; have g12 := cell_below g10 l10; have i12 := cell_below g10 o10; have m12 := cell_below g10 s10; have j12 := cell_below g10 p10; have r13 := cell_below g10 b11; have j13 := cell_below g10 f11; have y13 := cell_below g10 i11; have v13 := cell_below g10 g11; have a14 := cell_below g10 k11; have o13 := cell_below g10 c11; have e13 := cell_below g10 e11; have m13 := cell_below g10 l11; have h13 := cell_below g10 d11; replace Ot_2 := Lib.hid (own_below Ot_2.out g10); clear g10; have k12 : j10.cell? ⟨t10.heap.size, 0, none⟩ = some (.int .i64 v11) := (by rw [← j11]; exact box_new _ _ _ 0 _ rfl); have t12 : j10.cell? ⟨t10.heap.size, 1, none⟩ = some (.int .i64 s11) := (by rw [← j11]; exact box_new _ _ _ 1 _ rfl); have v12 : j10.cell? ⟨t10.heap.size, 2, none⟩ = some (.int .i64 r11) := (by rw [← j11]; exact box_new _ _ _ 2 _ rfl); have n12 : j10.cell? ⟨t10.heap.size, 3, none⟩ = some (.int .i64 t11) := (by rw [← j11]; exact box_new _ _ _ 3 _ rfl); have h12 : j10.cell? ⟨t10.heap.size, 4, none⟩ = some (.int .i64 y11) := (by rw [← j11]; exact box_new _ _ _ 4 _ rfl); have s12 : j10.cell? ⟨t10.heap.size, 5, none⟩ = some (.int .i64 p11) := (by rw [← j11]; exact box_new _ _ _ 5 _ rfl); have r12 : j10.cell? ⟨t10.heap.size, 6, none⟩ = some (.int .i64 w11) := (by rw [← j11]; exact box_new _ _ _ 6 _ rfl); have o12 : j10.cell? ⟨t10.heap.size, 7, none⟩ = some (.int .i64 q11) := (by rw [← j11]; exact box_new _ _ _ 7 _ rfl); have q12 : j10.cell? ⟨t10.heap.size, 8, none⟩ = some (.int .i64 z11) := (by rw [← j11]; exact box_new _ _ _ 8 _ rfl); go_wp2_with fail; clear k10 r10 m10 n10 q10 l10 o10 s10 p10 b11 f11 i11 g11 k11 c11 e11 l11 d11; obtain ⟨Z7, hZ7⟩ : ∃ x, j10.drew = x := ⟨_, rfl⟩; have bd7 : Below j10.heap.size j10 Z7 := (by rw [← hZ7]; exact (Below.refl _ _).drew); have HBZ7 := Lib.hid (Below.step n14.out bd7); replace p12 := cell_below bd7 p12; replace b13 := cell_below bd7 b13; replace f12 := cell_below bd7 f12; replace e12 := cell_below bd7 e12; replace c13 := cell_below bd7 c13; replace g12 := cell_below bd7 g12; replace i12 := cell_below bd7 i12; replace m12 := cell_below bd7 m12
    replace j12 := cell_below bd7 j12; replace r13 := cell_below bd7 r13; replace j13 := cell_below bd7 j13; replace y13 := cell_below bd7 y13; replace v13 := cell_below bd7 v13; replace a14 := cell_below bd7 a14; replace o13 := cell_below bd7 o13; replace e13 := cell_below bd7 e13; replace m13 := cell_below bd7 m13; replace h13 := cell_below bd7 h13; replace k12 := cell_below bd7 k12; replace t12 := cell_below bd7 t12; replace v12 := cell_below bd7 v12; replace n12 := cell_below bd7 n12; replace h12 := cell_below bd7 h12; replace s12 := cell_below bd7 s12; replace r12 := cell_below bd7 r12; replace o12 := cell_below bd7 o12; replace q12 := cell_below bd7 q12; replace Ot_2 := Lib.hid (own_below Ot_2.out bd7); clear bd7; refine wp_region_still_tail 3 (by kernel_rfl) (by kernel_rfl) ?_; simp only [List.take_succ_cons, List.take_zero, List.drop_succ_cons, List.drop_zero]; change wpStill _ _ j10.drew _ _ _; rw [hZ7]
    repeat still_step
    refine wpStill_nil ?_; change wpList _ _ _ _ _ j10.drew; rw [hZ7]; clear hZ7; obtain ⟨x10, n13⟩ : ∃ x, (((((((((Z7).setCell ⟨a10.heap.size, 0, none⟩ (.int .i64 v11)).setCell ⟨a10.heap.size, 1, none⟩ (.int .i64 s11)).setCell ⟨a10.heap.size, 2, none⟩ (.int .i64 r11)).setCell ⟨a10.heap.size, 3, none⟩ (.int .i64 t11)).setCell ⟨a10.heap.size, 4, none⟩ (.int .i64 y11)).setCell ⟨a10.heap.size, 5, none⟩ (.int .i64 p11)).setCell ⟨a10.heap.size, 6, none⟩ (.int .i64 w11)).setCell ⟨a10.heap.size, 7, none⟩ (.int .i64 q11)).setCell ⟨a10.heap.size, 8, none⟩ (.int .i64 z11) = x := ⟨_, rfl⟩; have a18 := Ot_2.out.frozenAt 0; have k18 := Ot_2.out.frozenAt 1; have p16 := Ot_2.out.frozenAt 2; have w18 := Ot_2.out.frozenAt 3; have j17 := Ot_2.out.frozenAt 4; have v16 := Ot_2.out.frozenAt 5; have e17 := Ot_2.out.frozenAt 6; have c17 := Ot_2.out.frozenAt 7; have r16 := Ot_2.out.frozenAt 8; have l12 := Lib.hid (own_stores [(0, .int .i64 v11), (1, .int .i64 s11), (2, .int .i64 r11), (3, .int .i64 t11), (4, .int .i64 y11), (5, .int .i64 p11), (6, .int .i64 w11), (7, .int .i64 q11), (8, .int .i64 z11)] Ot_2.out); have o11 : Hid (x10.ownsRow w.heap.size 26 9 (.slice (some ⟨a10.heap.size, 0, none⟩) 1 1) 1 [.int .i64 v11, .int .i64 s11, .int .i64 r11, .int .i64 t11, .int .i64 y11, .int .i64 p11, .int .i64 w11, .int .i64 q11, .int .i64 z11]) := Lib.hid (by rw [← n13]; exact l12.out.1); have h10 : Hid (Z7.grownBy x10 (Value.slice (some ⟨a10.heap.size, 0, none⟩) 1 1).ownBlock) := Lib.hid (by rw [← n13]; exact l12.out.2); have l15 := Lib.hid (HBZ7.out.grown h10.out HBZ7.out.size (fun q hq => (Ot_2.out.lt q hq).1)); clear l12; have d18 := cell_other p12 h10.out b10.out; have w17 := cell_other b13 h10.out b10.out; have r18 := cell_other f12 h10.out b10.out; have y17 := cell_other e12 h10.out b10.out; have q17 := cell_other c13 h10.out b10.out; have x17 := cell_other g12 h10.out b10.out; have f16 := cell_other i12 h10.out b10.out; have g16 := cell_other m12 h10.out b10.out; have k16 := cell_other j12 h10.out b10.out; have c18 := cell_other k12 h10.out (Apart.symm n11.out); have s18 := cell_other t12 h10.out (Apart.symm n11.out); have a17 := cell_other v12 h10.out (Apart.symm n11.out); have b17 := cell_other n12 h10.out (Apart.symm n11.out); have y16 := cell_other h12 h10.out (Apart.symm n11.out); have h16 := cell_other s12 h10.out (Apart.symm n11.out); have v17 := cell_other r12 h10.out (Apart.symm n11.out); have f17 := cell_other o12 h10.out (Apart.symm n11.out); have q16 := cell_other q12 h10.out (Apart.symm n11.out); clear Ot_2 h10; have c15 : x10.cell? ⟨a10.heap.size, 0, none⟩ = some (.int .i64 v11) := o11.out.cells rfl 0 _ rfl; have v15 : x10.cell? ⟨a10.heap.size, 1, none⟩ = some (.int .i64 s11) := o11.out.cells rfl 1 _ rfl; have y14 : x10.cell? ⟨a10.heap.size, 2, none⟩ = some (.int .i64 r11) := o11.out.cells rfl 2 _ rfl; have p14 : x10.cell? ⟨a10.heap.size, 3, none⟩ = some (.int .i64 t11) := o11.out.cells rfl 3 _ rfl; have d15 : x10.cell? ⟨a10.heap.size, 4, none⟩ = some (.int .i64 y11) := o11.out.cells rfl 4 _ rfl; have q14 : x10.cell? ⟨a10.heap.size, 5, none⟩ = some (.int .i64 p11) := o11.out.cells rfl 5 _ rfl; have a16 : x10.cell? ⟨a10.heap.size, 6, none⟩ = some (.int .i64 w11) := o11.out.cells rfl 6 _ rfl; have j15 : x10.cell? ⟨a10.heap.size, 7, none⟩ = some (.int .i64 q11) := o11.out.cells rfl 7 _ rfl; have k14 : x10.cell? ⟨a10.heap.size, 8, none⟩ = some (.int .i64 z11) := o11.out.cells rfl 8 _ rfl; have hR_ := ret_hid H; simp only [Prod.mk.injEq] at hR_; obtain ⟨rfl, rfl, rfl⟩ := hR_; go_wp2_with fail
    (try simp only [Exit.inBlock, Exit.then])
    refine bodyPost_ret (v := .tuple #[.int .i64 i13, .agg #[.int .i64 v11, .int .i64 s11, .int .i64 r11, .int .i64 t11, .int .i64 y11, .int .i64 p11, .int .i64 w11, .int .i64 q11, .int .i64 z11], .bool true]) ?hr_ ?hd_ ?_
    case hd_ => rfl
    case hr_ => simp [results, Tryz.results8, c15, v15, y14, p14, d15, q14, a16, j15, k14, go_sem]
    exact ⟨rfl, l15.out⟩
end Go.Proofs.YtihibckijdfidaaGreat.GsLeastChange

namespace Go.Proofs.YtihibckijdfidaaGreat.GsPossibleChanges
open Go.RowKit
open Go.Proofs.YtihibckijdfidaaGreat.Rowed Go.Proofs.YtihibckijdfidaaGreat.Turn Go.Proofs.YtihibckijdfidaaGreat.Aid Go.Proofs.YtihibckijdfidaaGreat.GoP Go.Proofs.YtihibckijdfidaaGreat.GoM

def P (fuel : Nat) (rates : (List PRate.Rate)) (x : PCover.Cover) : Option ((List Int) × Bool) :=
 unCover x fun (x_id : Int) (x_day : Int) (x_zone : Int) (x_grams : Int) (x_paid : Int) (x_from_ : Int) (x_to_ : Int) (x_leave : Int) (x_arrive : Int) =>
 Option.bind (GsL8Good.P fuel rates) fun (t_4 : Bool) =>
 letK (!t_4) fun (t_5 : Bool) =>
 joinK (fun (t_10 : Bool) =>
 iteK t_10
 (some (([] : List Int), false))
 (Option.bind (GsL12All.P fuel rates (PCover.Cover.mk x_id x_day x_zone x_grams x_paid x_from_ x_to_ x_leave x_arrive)) fun (t_16 : (List Int)) =>
 some (t_16, true))) fun jt_10 => iteK t_5 (appK jt_10 true) (Option.bind (GsL10One.P (PCover.Cover.mk x_id x_day x_zone x_grams x_paid x_from_ x_to_ x_leave x_arrive)) fun (t_8 : Bool) =>
 letK (!t_8) fun (t_9 : Bool) =>
 appK jt_10 t_9)

set_option maxRecDepth 100000 in
set_option maxHeartbeats 2000000 in
theorem C (fuel : Nat) (rates : (List PRate.Rate)) (x : PCover.Cover) (A0 : Option Addr) (c0 : Nat)  (w : World) (M0 : Hid (Cells w 5 A0 rates.length (PRate.flat rates))) (N0 : Hid (rates.length ≤ 9223372036854775807))  {r0 : (List Int)} {r1 : Bool} (H : Hid (P fuel rates x = some (r0, r1))) :
  Calls Tryz.prog 10 #[.slice A0 rates.length c0, x.val] w (fun e w' => ∃ A_r0 c_r0, e = .returned (.tuple #[.slice A_r0 r0.length c_r0, .bool r1]) ∧ w'.ownsRow w.heap.size 3 1 (.slice A_r0 r0.length c_r0) r0.length (HelpInt.iv r0) ∧ Below w.heap.size w w') := by
 have HB := Lib.hid (Below.refl w.heap.size w); unfold P at H; obtain ⟨x_id, x_day, x_zone, x_grams, x_paid, x_from_, x_to_, x_leave, x_arrive⟩ := x; replace H := unCover_hid H; unfold PCover.Cover.val; have N0o := N0.out
 go_enter Tryz.func10, Tryz.ntmps10
 obtain ⟨e10, d10⟩ : ∃ x, w.alloc (.cells #[.int .i64 x_id, .int .i64 x_day, .int .i64 x_zone, .int .i64 x_grams, .int .i64 x_paid, .int .i64 x_from_, .int .i64 x_to_, .int .i64 x_leave, .int .i64 x_arrive] 26) = x := ⟨_, rfl⟩; have w10 : Below w.heap.size w e10 := (by rw [← d10]; exact (Below.refl _ _).alloc (Nat.le_refl _) _); have v10 := Lib.hid (Below.step HB.out w10); clear w10; have c10 : e10.cell? ⟨w.heap.size, 0, none⟩ = some (.int .i64 x_id) := (by rw [← d10]; exact box_new _ _ _ 0 _ rfl); have i10 : e10.cell? ⟨w.heap.size, 1, none⟩ = some (.int .i64 x_day) := (by rw [← d10]; exact box_new _ _ _ 1 _ rfl); have g10 : e10.cell? ⟨w.heap.size, 2, none⟩ = some (.int .i64 x_zone) := (by rw [← d10]; exact box_new _ _ _ 2 _ rfl); have h10 : e10.cell? ⟨w.heap.size, 3, none⟩ = some (.int .i64 x_grams) := (by rw [← d10]; exact box_new _ _ _ 3 _ rfl); have l10 : e10.cell? ⟨w.heap.size, 4, none⟩ = some (.int .i64 x_paid) := (by rw [← d10]; exact box_new _ _ _ 4 _ rfl); have j10 : e10.cell? ⟨w.heap.size, 5, none⟩ = some (.int .i64 x_from_) := (by rw [← d10]; exact box_new _ _ _ 5 _ rfl); have k10 : e10.cell? ⟨w.heap.size, 6, none⟩ = some (.int .i64 x_to_) := (by rw [← d10]; exact box_new _ _ _ 6 _ rfl); have f10 : e10.cell? ⟨w.heap.size, 7, none⟩ = some (.int .i64 x_leave) := (by rw [← d10]; exact box_new _ _ _ 7 _ rfl); have m10 : e10.cell? ⟨w.heap.size, 8, none⟩ = some (.int .i64 x_arrive) := (by rw [← d10]; exact box_new _ _ _ 8 _ rfl); replace H := bind_hid H; obtain ⟨t_4, qt_4, H⟩ := H; go_wp2_with fail; go_at_call 34; refine (GsL8Good.C fuel (rates) A0 c0 _   (Lib.hid (Cells.below M0.out v10.out)) N0 qt_4).mono ?_; rintro x11 wt_4 ⟨rfl, bt_4⟩; have s10 := Lib.hid (Below.step v10.out bt_4); replace c10 := cell_below bt_4 c10; replace i10 := cell_below bt_4 i10; replace g10 := cell_below bt_4 g10; replace h10 := cell_below bt_4 h10; replace l10 := cell_below bt_4 l10; replace j10 := cell_below bt_4 j10; replace k10 := cell_below bt_4 k10; replace f10 := cell_below bt_4 f10; replace m10 := cell_below bt_4 m10; clear bt_4
 cases t_4 with
 | false =>
  replace H := let_hid H; obtain ⟨t_5, ht_5, H⟩ := H; obtain rfl : t_5 = true := ht_5.symm; replace H := join_hid H; replace H := ite_t H; replace H := app_hid H; replace H := ite_t H; obtain ⟨o10, p10⟩ : ∃ x, wt_4.alloc (.cells #[] 3) = x := ⟨_, rfl⟩; have a10 : Below wt_4.heap.size wt_4 o10 := (by rw [← p10]; exact (Below.refl _ _).alloc (Nat.le_refl _) _); have r10 : Hid (o10.ownsRow w.heap.size 3 1 (.slice (some ⟨wt_4.heap.size, 0, none⟩) 0 0) 0 []) := Lib.hid (by rw [← p10]; exact own_empty s10.out.size); have x10 := Lib.hid (apart_box c10); have t10 := Lib.hid (Below.step s10.out a10); have t11 := cell_below a10 c10; have l11 := cell_below a10 i10; have n11 := cell_below a10 g10; have k11 := cell_below a10 h10; have w11 := cell_below a10 l10; have f11 := cell_below a10 j10; have p11 := cell_below a10 k10; have d11 := cell_below a10 f10; have m11 := cell_below a10 m10; clear a10; cases ret_hid H; go_wp2_with fail; go_ret2; exact ⟨(some ⟨wt_4.heap.size, 0, none⟩), 0, rfl, r10.out, t10.out⟩
 | true =>
  replace H := let_hid H; obtain ⟨t_5, ht_5, H⟩ := H; obtain rfl : t_5 = false := ht_5.symm; replace H := join_hid H; replace H := ite_f H; replace H := bind_hid H; obtain ⟨t_8, qt_8, H⟩ := H; go_wp2_with fail; go_at_call 35; refine (GsL10One.C ((PCover.Cover.mk x_id x_day x_zone x_grams x_paid x_from_ x_to_ x_leave x_arrive))  _    qt_8).mono ?_; rintro a12 wt_8 ⟨rfl, bt_8⟩; have n10 := Lib.hid (Below.step s10.out bt_8); replace c10 := cell_below bt_8 c10; replace i10 := cell_below bt_8 i10; replace g10 := cell_below bt_8 g10; replace h10 := cell_below bt_8 h10; replace l10 := cell_below bt_8 l10; replace j10 := cell_below bt_8 j10; replace k10 := cell_below bt_8 k10; replace f10 := cell_below bt_8 f10; replace m10 := cell_below bt_8 m10; clear bt_8
  cases t_8 with
  | false =>
   replace H := let_hid H; obtain ⟨t_9, ht_9, H⟩ := H; obtain rfl : t_9 = true := ht_9.symm; replace H := app_hid H; replace H := ite_t H; obtain ⟨o10, p10⟩ : ∃ x, wt_8.alloc (.cells #[] 3) = x := ⟨_, rfl⟩; have a10 : Below wt_8.heap.size wt_8 o10 := (by rw [← p10]; exact (Below.refl _ _).alloc (Nat.le_refl _) _); have r10 : Hid (o10.ownsRow w.heap.size 3 1 (.slice (some ⟨wt_8.heap.size, 0, none⟩) 0 0) 0 []) := Lib.hid (by rw [← p10]; exact own_empty n10.out.size); have x10 := Lib.hid (apart_box c10); have t10 := Lib.hid (Below.step n10.out a10); have y11 := cell_below a10 c10; have r11 := cell_below a10 i10; have q11 := cell_below a10 g10; have o11 := cell_below a10 h10; have v11 := cell_below a10 l10; have j11 := cell_below a10 j10; have i11 := cell_below a10 k10; have s11 := cell_below a10 f10; have z11 := cell_below a10 m10; clear a10; cases ret_hid H; go_wp2_with fail; go_ret2; exact ⟨(some ⟨wt_8.heap.size, 0, none⟩), 0, rfl, r10.out, t10.out⟩
  | true =>
   replace H := let_hid H; obtain ⟨t_9, ht_9, H⟩ := H; obtain rfl : t_9 = false := ht_9.symm; replace H := app_hid H; replace H := ite_f H; replace H := bind_hid H; obtain ⟨t_16, c11, H⟩ := H; go_wp2_with fail; go_at_call 40; refine (GsL12All.C fuel (rates) ((PCover.Cover.mk x_id x_day x_zone x_grams x_paid x_from_ x_to_ x_leave x_arrive)) A0 c0 _   (Lib.hid (Cells.below M0.out n10.out)) N0 c11).mono ?_; rintro g11 h11 ⟨y10, a11, rfl, q10, b10⟩; have e11 := Lib.hid (apart_callbox q10 c10); have b11 := Lib.hid (own_lower q10 n10.out.size); clear q10; have z10 := Lib.hid (Below.step n10.out b10); replace c10 := cell_below b10 c10; replace i10 := cell_below b10 i10; replace g10 := cell_below b10 g10; replace h10 := cell_below b10 h10; replace l10 := cell_below b10 l10; replace j10 := cell_below b10 j10; replace k10 := cell_below b10 k10; replace f10 := cell_below b10 f10; replace m10 := cell_below b10 m10; clear b10; cases ret_hid H; go_wp2_with fail; go_ret2; exact ⟨y10, a11, rfl, b11.out, z10.out⟩
end Go.Proofs.YtihibckijdfidaaGreat.GsPossibleChanges

namespace Go.Proofs.YtihibckijdfidaaGreat.GlVInts
open Go.RowKit
open Go.Proofs.YtihibckijdfidaaGreat.Rowed Go.Proofs.YtihibckijdfidaaGreat.Turn Go.Proofs.YtihibckijdfidaaGreat.Aid Go.Proofs.YtihibckijdfidaaGreat.GoP Go.Proofs.YtihibckijdfidaaGreat.GoM

def l0 (a : (List Int)) (b : (List Int)) (k0 : Nat) (s : Unit) (nx0 bk0 : Unit → Option (Bool)) : Option (Bool) :=
 
 Option.bind (idx a (k0 : Int)) fun (yt_14 : Int) =>
 Option.bind (idx b (k0 : Int)) fun (yt_18 : Int) =>
 letK (yt_14 != yt_18) fun (t_20 : Bool) =>
 iteK t_20
 (some false)
 (appK nx0 ())

def e0  (s : Unit) : Option (Bool) :=
 
 some true

def P (a : (List Int)) (b : (List Int)) : Option (Bool) :=
 letK ((a.length : Int) != (b.length : Int)) fun (t_5 : Bool) =>
 iteK t_5
 (some false)
 (cntK (l0 a b) (a.length) 0 () (e0 ))

set_option maxRecDepth 100000 in
set_option maxHeartbeats 2000000 in
theorem C (a : (List Int)) (b : (List Int)) (A0 : Option Addr) (c0 : Nat) (A1 : Option Addr) (c1 : Nat)  (w : World) (M0 : Hid (Cells w 1 A0 a.length (HelpInt.iv a))) (N0 : Hid (a.length ≤ 9223372036854775807)) (M1 : Hid (Cells w 1 A1 b.length (HelpInt.iv b))) (N1 : Hid (b.length ≤ 9223372036854775807))  {r : Bool} (H : Hid (P a b = some r)) :
  Calls Tryz.prog 11 #[.slice A0 a.length c0, .slice A1 b.length c1] w (Gives (.bool r) w) := by
 have HB := Lib.hid (Below.refl w.heap.size w); unfold P at H; have N0o := N0.out; have N1o := N1.out
 go_enter Tryz.func11, Tryz.ntmps11
 replace H := let_hid H; obtain ⟨t_5, ht_5, H⟩ := H
 cases t_5 with
 | false =>
  have j10 : Hid (a.length = b.length) := Lib.hid (by have := bne_eq_false_iff_eq.1 ht_5; omega); have l10 : (a.length == b.length) = true := beq_iff_eq.2 j10.out; replace H := ite_f H; go_wp2_with fail; go_loopg [5] (a.length) (fun m_ v5_ wr => ∃ (k0 : Nat) , k0 + m_ = a.length ∧ v5_ = .int .i64 (k0 : Int) ∧ Hid (cntK (l0 a b) m_ k0 () (e0 ) = some r) ∧ Hid (Below w.heap.size w wr))
  case atStart => exact ⟨0, by omega, rfl, H, HB⟩
  case round =>
   obtain ⟨k0, hkm0, rfl, H, c10⟩ := hrel; rename World => wr0
   cases gk with
   | zero =>
    obtain rfl : k0 = a.length := (by omega); have hc0 : decide (((a.length : Nat) : Int) < ((a.length : Nat) : Int)) = false := (by simp); replace H := cnt_zero H; unfold e0 at H; obtain rfl := ret_hid H; go_wp2_with fail; go_ret; exact ⟨rfl, c10.out⟩
   | succ m0 =>
    have hlt0 : k0 < a.length := (by omega); have hc0 : decide ((k0 : Int) < ((a.length : Nat) : Int)) = true := (by simp; omega); replace H := cnt_succ H; unfold l0 at H; go_wp2_with fail; replace H := idx_hid H; obtain ⟨m10, h11, k10, r10, h10, H⟩ := H; obtain rfl : k0 = m10 := (by omega); clear k10; obtain ⟨z10, g11, b11, s10, d10, b10⟩ := HelpInt.Ints.at_ M0.out r10; obtain rfl := Option.some.inj (h10.out.symm.trans d10); subst s10; have a11 := cell_lt b10; replace b10 := cell_below c10.out b10; clear d10; have y10 : (0 : Int) ≤ (k0 : Int) := (by omega); have e11 : (k0 : Int) < ((a.length : Nat) : Int) := (by omega); have c11 : ((k0 : Int)).toNat = k0 := (by omega); have f10 := Lib.hid b10; replace b10 := cell_regrown b10; replace H := idx_hid H; obtain ⟨o10, d11, i10, n10, q10, H⟩ := H; obtain rfl : k0 = o10 := (by omega); clear i10; obtain ⟨j11, x10, v10, p10, g10, a10⟩ := HelpInt.Ints.at_ M1.out n10; obtain rfl := Option.some.inj (q10.out.symm.trans g10); subst p10; have i11 := cell_lt a10; replace a10 := cell_below c10.out a10; clear g10; have t10 : (0 : Int) ≤ (k0 : Int) := (by omega); have k11 : (k0 : Int) < ((b.length : Nat) : Int) := (by omega); have f11 : ((k0 : Int)).toNat = k0 := (by omega); have e10 := Lib.hid a10; replace a10 := cell_regrown a10; replace H := let_hid H; obtain ⟨t_20, w10, H⟩ := H; refine wp_region_quiet_below (by kernel_rfl) (by kernel_rfl) ?_
    repeat (go_big_quiet_step (fail))
    refine wpQuiet_nil ?_; intro Y6 hY6; replace hY6 := below_class hY6; replace b10 := f10.out; clear f10; replace a10 := e10.out; clear e10; have HBY6 := Lib.hid (Below.step c10.out hY6); replace b10 := cell_below hY6 b10; replace a10 := cell_below hY6 a10; clear hY6
    cases t_20 with
    | false =>
     replace H := ite_f H; replace H := app_hid H; go_wp2_with fail
     go_roundg m0
     case measure => omega
     case rel => exact ⟨k0 + 1, by omega, by go_num, H, HBY6⟩
    | true =>
     replace H := ite_t H; obtain rfl := ret_hid H; go_wp2_with fail; go_ret; exact ⟨rfl, HBY6.out⟩
 | true =>
  have l10 : ¬ (a.length = b.length) := (by have := bne_iff_ne.1 ht_5; omega); replace H := ite_t H; obtain rfl := ret_hid H; go_wp2_with fail; go_ret; exact ⟨rfl, HB.out⟩
end Go.Proofs.YtihibckijdfidaaGreat.GlVInts

namespace Go.Proofs.YtihibckijdfidaaGreat.GiRateOfCover
open Go.RowKit
open Go.Proofs.YtihibckijdfidaaGreat.Rowed Go.Proofs.YtihibckijdfidaaGreat.Turn Go.Proofs.YtihibckijdfidaaGreat.Aid Go.Proofs.YtihibckijdfidaaGreat.GoP Go.Proofs.YtihibckijdfidaaGreat.GoM

def P (rates : (List PRate.Rate)) (x : PCover.Cover) : Option (Int) :=
 unCover x fun (x_id : Int) (x_day : Int) (x_zone : Int) (x_grams : Int) (x_paid : Int) (x_from_ : Int) (x_to_ : Int) (x_leave : Int) (x_arrive : Int) =>
 Option.bind (GiRateOn.P rates x_day x_zone x_grams) fun (t_9 : Int) =>
 some t_9

set_option maxRecDepth 100000 in
set_option maxHeartbeats 2000000 in
theorem C (rates : (List PRate.Rate)) (x : PCover.Cover) (A0 : Option Addr) (c0 : Nat)  (w : World) (M0 : Hid (Cells w 5 A0 rates.length (PRate.flat rates))) (N0 : Hid (rates.length ≤ 9223372036854775807))  {r : Int} (H : Hid (P rates x = some r)) :
  Calls Tryz.prog 41 #[.slice A0 rates.length c0, x.val] w (Gives (.int .i64 r) w) := by
 have HB := Lib.hid (Below.refl w.heap.size w); unfold P at H; obtain ⟨x_id, x_day, x_zone, x_grams, x_paid, x_from_, x_to_, x_leave, x_arrive⟩ := x; replace H := unCover_hid H; unfold PCover.Cover.val; have N0o := N0.out
 go_enter Tryz.func41, Tryz.ntmps41
 obtain ⟨a10, b10⟩ : ∃ x, w.alloc (.cells #[.int .i64 x_id, .int .i64 x_day, .int .i64 x_zone, .int .i64 x_grams, .int .i64 x_paid, .int .i64 x_from_, .int .i64 x_to_, .int .i64 x_leave, .int .i64 x_arrive] 26) = x := ⟨_, rfl⟩; have d10 : Below w.heap.size w a10 := (by rw [← b10]; exact (Below.refl _ _).alloc (Nat.le_refl _) _); have i10 := Lib.hid (Below.step HB.out d10); clear d10; have k10 : a10.cell? ⟨w.heap.size, 0, none⟩ = some (.int .i64 x_id) := (by rw [← b10]; exact box_new _ _ _ 0 _ rfl); have j10 : a10.cell? ⟨w.heap.size, 1, none⟩ = some (.int .i64 x_day) := (by rw [← b10]; exact box_new _ _ _ 1 _ rfl); have e10 : a10.cell? ⟨w.heap.size, 2, none⟩ = some (.int .i64 x_zone) := (by rw [← b10]; exact box_new _ _ _ 2 _ rfl); have m10 : a10.cell? ⟨w.heap.size, 3, none⟩ = some (.int .i64 x_grams) := (by rw [← b10]; exact box_new _ _ _ 3 _ rfl); have f10 : a10.cell? ⟨w.heap.size, 4, none⟩ = some (.int .i64 x_paid) := (by rw [← b10]; exact box_new _ _ _ 4 _ rfl); have h10 : a10.cell? ⟨w.heap.size, 5, none⟩ = some (.int .i64 x_from_) := (by rw [← b10]; exact box_new _ _ _ 5 _ rfl); have l10 : a10.cell? ⟨w.heap.size, 6, none⟩ = some (.int .i64 x_to_) := (by rw [← b10]; exact box_new _ _ _ 6 _ rfl); have g10 : a10.cell? ⟨w.heap.size, 7, none⟩ = some (.int .i64 x_leave) := (by rw [← b10]; exact box_new _ _ _ 7 _ rfl); have c10 : a10.cell? ⟨w.heap.size, 8, none⟩ = some (.int .i64 x_arrive) := (by rw [← b10]; exact box_new _ _ _ 8 _ rfl); replace H := bind_hid H; obtain ⟨t_9, qt_9, H⟩ := H; go_wp2_with fail; go_at_call 69; refine (GiRateOn.C (rates) (x_day) (x_zone) (x_grams) A0 c0 _   (Lib.hid (Cells.below M0.out i10.out)) N0 qt_9).mono ?_; rintro o10 wt_9 ⟨rfl, bt_9⟩; have n10 := Lib.hid (Below.step i10.out bt_9); replace k10 := cell_below bt_9 k10; replace j10 := cell_below bt_9 j10; replace e10 := cell_below bt_9 e10; replace m10 := cell_below bt_9 m10; replace f10 := cell_below bt_9 f10; replace h10 := cell_below bt_9 h10; replace l10 := cell_below bt_9 l10; replace g10 := cell_below bt_9 g10; replace c10 := cell_below bt_9 c10; clear bt_9; obtain rfl := ret_hid H; go_wp2_with fail; go_ret; exact ⟨rfl, n10.out⟩
end Go.Proofs.YtihibckijdfidaaGreat.GiRateOfCover

namespace Go.Proofs.YtihibckijdfidaaGreat.GiIsExplained
open Go.RowKit
open Go.Proofs.YtihibckijdfidaaGreat.Rowed Go.Proofs.YtihibckijdfidaaGreat.Turn Go.Proofs.YtihibckijdfidaaGreat.Aid Go.Proofs.YtihibckijdfidaaGreat.GoP Go.Proofs.YtihibckijdfidaaGreat.GoM

def P (rates : (List PRate.Rate)) (x : PCover.Cover) : Option (Bool × Bool) :=
 unCover x fun (x_id : Int) (x_day : Int) (x_zone : Int) (x_grams : Int) (x_paid : Int) (x_from_ : Int) (x_to_ : Int) (x_leave : Int) (x_arrive : Int) =>
 Option.bind (GiCanExplain.P rates (PCover.Cover.mk x_id x_day x_zone x_grams x_paid x_from_ x_to_ x_leave x_arrive)) fun (t_5 : Bool) =>
 letK (!t_5) fun (t_6 : Bool) =>
 iteK t_6
 (some (false, false))
 (Option.bind (GiRateOfCover.P rates (PCover.Cover.mk x_id x_day x_zone x_grams x_paid x_from_ x_to_ x_leave x_arrive)) fun (t_13 : Int) =>
 letK (x_paid == t_13) fun (t_14 : Bool) =>
 some (t_14, true))

set_option maxRecDepth 100000 in
set_option maxHeartbeats 2000000 in
theorem C (rates : (List PRate.Rate)) (x : PCover.Cover) (A0 : Option Addr) (c0 : Nat)  (w : World) (M0 : Hid (Cells w 5 A0 rates.length (PRate.flat rates))) (N0 : Hid (rates.length ≤ 9223372036854775807))  {r0 : Bool} {r1 : Bool} (H : Hid (P rates x = some (r0, r1))) :
  Calls Tryz.prog 12 #[.slice A0 rates.length c0, x.val] w (Gives (.tuple #[.bool r0, .bool r1]) w) := by
 have HB := Lib.hid (Below.refl w.heap.size w); unfold P at H; obtain ⟨x_id, x_day, x_zone, x_grams, x_paid, x_from_, x_to_, x_leave, x_arrive⟩ := x; replace H := unCover_hid H; unfold PCover.Cover.val; have N0o := N0.out
 go_enter Tryz.func12, Tryz.ntmps12
 obtain ⟨b10, a10⟩ : ∃ x, w.alloc (.cells #[.int .i64 x_id, .int .i64 x_day, .int .i64 x_zone, .int .i64 x_grams, .int .i64 x_paid, .int .i64 x_from_, .int .i64 x_to_, .int .i64 x_leave, .int .i64 x_arrive] 26) = x := ⟨_, rfl⟩; have p10 : Below w.heap.size w b10 := (by rw [← a10]; exact (Below.refl _ _).alloc (Nat.le_refl _) _); have q10 := Lib.hid (Below.step HB.out p10); clear p10; have e10 : b10.cell? ⟨w.heap.size, 0, none⟩ = some (.int .i64 x_id) := (by rw [← a10]; exact box_new _ _ _ 0 _ rfl); have j10 : b10.cell? ⟨w.heap.size, 1, none⟩ = some (.int .i64 x_day) := (by rw [← a10]; exact box_new _ _ _ 1 _ rfl); have g10 : b10.cell? ⟨w.heap.size, 2, none⟩ = some (.int .i64 x_zone) := (by rw [← a10]; exact box_new _ _ _ 2 _ rfl); have f10 : b10.cell? ⟨w.heap.size, 3, none⟩ = some (.int .i64 x_grams) := (by rw [← a10]; exact box_new _ _ _ 3 _ rfl); have c10 : b10.cell? ⟨w.heap.size, 4, none⟩ = some (.int .i64 x_paid) := (by rw [← a10]; exact box_new _ _ _ 4 _ rfl); have k10 : b10.cell? ⟨w.heap.size, 5, none⟩ = some (.int .i64 x_from_) := (by rw [← a10]; exact box_new _ _ _ 5 _ rfl); have i10 : b10.cell? ⟨w.heap.size, 6, none⟩ = some (.int .i64 x_to_) := (by rw [← a10]; exact box_new _ _ _ 6 _ rfl); have d10 : b10.cell? ⟨w.heap.size, 7, none⟩ = some (.int .i64 x_leave) := (by rw [← a10]; exact box_new _ _ _ 7 _ rfl); have h10 : b10.cell? ⟨w.heap.size, 8, none⟩ = some (.int .i64 x_arrive) := (by rw [← a10]; exact box_new _ _ _ 8 _ rfl); replace H := bind_hid H; obtain ⟨t_5, qt_5, H⟩ := H; go_wp2_with fail; go_at_call 38; refine (GiCanExplain.C (rates) ((PCover.Cover.mk x_id x_day x_zone x_grams x_paid x_from_ x_to_ x_leave x_arrive)) A0 c0 _   (Lib.hid (Cells.below M0.out q10.out)) N0 qt_5).mono ?_; rintro b11 wt_5 ⟨rfl, bt_5⟩; have l10 := Lib.hid (Below.step q10.out bt_5); replace e10 := cell_below bt_5 e10; replace j10 := cell_below bt_5 j10; replace g10 := cell_below bt_5 g10; replace f10 := cell_below bt_5 f10; replace c10 := cell_below bt_5 c10; replace k10 := cell_below bt_5 k10; replace i10 := cell_below bt_5 i10; replace d10 := cell_below bt_5 d10; replace h10 := cell_below bt_5 h10; clear bt_5
 cases t_5 with
 | false =>
  replace H := let_hid H; obtain ⟨t_6, ht_6, H⟩ := H; obtain rfl : t_6 = true := ht_6.symm; replace H := ite_t H; cases ret_hid H; go_wp2_with fail; go_ret2; exact ⟨rfl, l10.out⟩
 | true =>
  replace H := let_hid H; obtain ⟨t_6, ht_6, H⟩ := H; obtain rfl : t_6 = false := ht_6.symm; replace H := ite_f H; go_wp2_with fail; have v10 := Lib.hid e10; replace e10 := cell_regrown e10; have t10 := Lib.hid j10; replace j10 := cell_regrown j10; have o10 := Lib.hid g10; replace g10 := cell_regrown g10; have r10 := Lib.hid f10; replace f10 := cell_regrown f10; have m10 := Lib.hid c10; replace c10 := cell_regrown c10; have w10 := Lib.hid k10; replace k10 := cell_regrown k10; have y10 := Lib.hid i10; replace i10 := cell_regrown i10; have n10 := Lib.hid d10; replace d10 := cell_regrown d10; have s10 := Lib.hid h10; replace h10 := cell_regrown h10; replace H := bind_hid H; obtain ⟨t_13, z10, H⟩ := H; have x10 : ∀ d os, Calls Tryz.prog 41 #[.slice A0 rates.length c0, .agg #[.int .i64 x_id, .int .i64 x_day, .int .i64 x_zone, .int .i64 x_grams, .int .i64 x_paid, .int .i64 x_from_, .int .i64 x_to_, .int .i64 x_leave, .int .i64 x_arrive]] (Go.Sort.grow (redrawn wt_5 d) os) fun e w'' => e = .returned (.int .i64 t_13) ∧ ∃ p : Regrown, w'' = Go.Sort.grow (redrawn wt_5 p.d) p.os := fun d os => Calls.regrown_of (GiRateOfCover.C (rates) ((PCover.Cover.mk x_id x_day x_zone x_grams x_paid x_from_ x_to_ x_leave x_arrive)) A0 c0 _   (Lib.hid (Cells.below (Cells.below M0.out l10.out) (below_regrown _ _ _))) N0 z10); replace H := let_hid H; obtain ⟨t_14, a11, H⟩ := H; refine wp_region_quiet_below (by kernel_rfl) (by kernel_rfl) ?_
  repeat (go_big_quiet_step (first | (go_at_call 41; exact x10 _ _)))
  refine wpQuiet_nil ?_; intro Y3 hY3; replace hY3 := below_class hY3; clear x10; replace e10 := v10.out; clear v10; replace j10 := t10.out; clear t10; replace g10 := o10.out; clear o10; replace f10 := r10.out; clear r10; replace c10 := m10.out; clear m10; replace k10 := w10.out; clear w10; replace i10 := y10.out; clear y10; replace d10 := n10.out; clear n10; replace h10 := s10.out; clear s10; have HBY3 := Lib.hid (Below.step l10.out hY3); replace e10 := cell_below hY3 e10; replace j10 := cell_below hY3 j10; replace g10 := cell_below hY3 g10; replace f10 := cell_below hY3 f10; replace c10 := cell_below hY3 c10; replace k10 := cell_below hY3 k10; replace i10 := cell_below hY3 i10; replace d10 := cell_below hY3 d10; replace h10 := cell_below hY3 h10; clear hY3; cases ret_hid H; go_wp2_with fail; go_ret2; exact ⟨rfl, HBY3.out⟩
end Go.Proofs.YtihibckijdfidaaGreat.GiIsExplained

namespace Go.Proofs.YtihibckijdfidaaGreat.GsIsExplained
open Go.RowKit
open Go.Proofs.YtihibckijdfidaaGreat.Rowed Go.Proofs.YtihibckijdfidaaGreat.Turn Go.Proofs.YtihibckijdfidaaGreat.Aid Go.Proofs.YtihibckijdfidaaGreat.GoP Go.Proofs.YtihibckijdfidaaGreat.GoM

def P (fuel : Nat) (rates : (List PRate.Rate)) (x : PCover.Cover) : Option (Bool × Bool) :=
 unCover x fun (x_id : Int) (x_day : Int) (x_zone : Int) (x_grams : Int) (x_paid : Int) (x_from_ : Int) (x_to_ : Int) (x_leave : Int) (x_arrive : Int) =>
 Option.bind (GsL8Good.P fuel rates) fun (t_4 : Bool) =>
 letK (!t_4) fun (t_5 : Bool) =>
 joinK (fun (t_10 : Bool) =>
 iteK t_10
 (some (false, false))
 (Option.bind (GsL12Explained.P rates (PCover.Cover.mk x_id x_day x_zone x_grams x_paid x_from_ x_to_ x_leave x_arrive)) fun (t_15 : Bool) =>
 some (t_15, true))) fun jt_10 => iteK t_5 (appK jt_10 true) (Option.bind (GsL10One.P (PCover.Cover.mk x_id x_day x_zone x_grams x_paid x_from_ x_to_ x_leave x_arrive)) fun (t_8 : Bool) =>
 letK (!t_8) fun (t_9 : Bool) =>
 appK jt_10 t_9)

set_option maxRecDepth 100000 in
set_option maxHeartbeats 2000000 in
theorem C (fuel : Nat) (rates : (List PRate.Rate)) (x : PCover.Cover) (A0 : Option Addr) (c0 : Nat)  (w : World) (M0 : Hid (Cells w 5 A0 rates.length (PRate.flat rates))) (N0 : Hid (rates.length ≤ 9223372036854775807))  {r0 : Bool} {r1 : Bool} (H : Hid (P fuel rates x = some (r0, r1))) :
  Calls Tryz.prog 13 #[.slice A0 rates.length c0, x.val] w (Gives (.tuple #[.bool r0, .bool r1]) w) := by
 have HB := Lib.hid (Below.refl w.heap.size w); unfold P at H; obtain ⟨x_id, x_day, x_zone, x_grams, x_paid, x_from_, x_to_, x_leave, x_arrive⟩ := x; replace H := unCover_hid H; unfold PCover.Cover.val; have N0o := N0.out
 go_enter Tryz.func13, Tryz.ntmps13
 obtain ⟨b10, c10⟩ : ∃ x, w.alloc (.cells #[.int .i64 x_id, .int .i64 x_day, .int .i64 x_zone, .int .i64 x_grams, .int .i64 x_paid, .int .i64 x_from_, .int .i64 x_to_, .int .i64 x_leave, .int .i64 x_arrive] 26) = x := ⟨_, rfl⟩; have p10 : Below w.heap.size w b10 := (by rw [← c10]; exact (Below.refl _ _).alloc (Nat.le_refl _) _); have o10 := Lib.hid (Below.step HB.out p10); clear p10; have j10 : b10.cell? ⟨w.heap.size, 0, none⟩ = some (.int .i64 x_id) := (by rw [← c10]; exact box_new _ _ _ 0 _ rfl); have g10 : b10.cell? ⟨w.heap.size, 1, none⟩ = some (.int .i64 x_day) := (by rw [← c10]; exact box_new _ _ _ 1 _ rfl); have h10 : b10.cell? ⟨w.heap.size, 2, none⟩ = some (.int .i64 x_zone) := (by rw [← c10]; exact box_new _ _ _ 2 _ rfl); have k10 : b10.cell? ⟨w.heap.size, 3, none⟩ = some (.int .i64 x_grams) := (by rw [← c10]; exact box_new _ _ _ 3 _ rfl); have d10 : b10.cell? ⟨w.heap.size, 4, none⟩ = some (.int .i64 x_paid) := (by rw [← c10]; exact box_new _ _ _ 4 _ rfl); have i10 : b10.cell? ⟨w.heap.size, 5, none⟩ = some (.int .i64 x_from_) := (by rw [← c10]; exact box_new _ _ _ 5 _ rfl); have l10 : b10.cell? ⟨w.heap.size, 6, none⟩ = some (.int .i64 x_to_) := (by rw [← c10]; exact box_new _ _ _ 6 _ rfl); have e10 : b10.cell? ⟨w.heap.size, 7, none⟩ = some (.int .i64 x_leave) := (by rw [← c10]; exact box_new _ _ _ 7 _ rfl); have f10 : b10.cell? ⟨w.heap.size, 8, none⟩ = some (.int .i64 x_arrive) := (by rw [← c10]; exact box_new _ _ _ 8 _ rfl); replace H := bind_hid H; obtain ⟨t_4, qt_4, H⟩ := H; go_wp2_with fail; go_at_call 34; refine (GsL8Good.C fuel (rates) A0 c0 _   (Lib.hid (Cells.below M0.out o10.out)) N0 qt_4).mono ?_; rintro v10 wt_4 ⟨rfl, bt_4⟩; have n10 := Lib.hid (Below.step o10.out bt_4); replace j10 := cell_below bt_4 j10; replace g10 := cell_below bt_4 g10; replace h10 := cell_below bt_4 h10; replace k10 := cell_below bt_4 k10; replace d10 := cell_below bt_4 d10; replace i10 := cell_below bt_4 i10; replace l10 := cell_below bt_4 l10; replace e10 := cell_below bt_4 e10; replace f10 := cell_below bt_4 f10; clear bt_4
 cases t_4 with
 | false =>
  replace H := let_hid H; obtain ⟨t_5, ht_5, H⟩ := H; obtain rfl : t_5 = true := ht_5.symm; replace H := join_hid H; replace H := ite_t H; replace H := app_hid H; replace H := ite_t H; cases ret_hid H; go_wp2_with fail; go_ret2; exact ⟨rfl, n10.out⟩
 | true =>
  replace H := let_hid H; obtain ⟨t_5, ht_5, H⟩ := H; obtain rfl : t_5 = false := ht_5.symm; replace H := join_hid H; replace H := ite_f H; replace H := bind_hid H; obtain ⟨t_8, qt_8, H⟩ := H; go_wp2_with fail; go_at_call 35; refine (GsL10One.C ((PCover.Cover.mk x_id x_day x_zone x_grams x_paid x_from_ x_to_ x_leave x_arrive))  _    qt_8).mono ?_; rintro t10 wt_8 ⟨rfl, bt_8⟩; have m10 := Lib.hid (Below.step n10.out bt_8); replace j10 := cell_below bt_8 j10; replace g10 := cell_below bt_8 g10; replace h10 := cell_below bt_8 h10; replace k10 := cell_below bt_8 k10; replace d10 := cell_below bt_8 d10; replace i10 := cell_below bt_8 i10; replace l10 := cell_below bt_8 l10; replace e10 := cell_below bt_8 e10; replace f10 := cell_below bt_8 f10; clear bt_8
  cases t_8 with
  | false =>
   replace H := let_hid H; obtain ⟨t_9, ht_9, H⟩ := H; obtain rfl : t_9 = true := ht_9.symm; replace H := app_hid H; replace H := ite_t H; cases ret_hid H; go_wp2_with fail; go_ret2; exact ⟨rfl, m10.out⟩
  | true =>
   replace H := let_hid H; obtain ⟨t_9, ht_9, H⟩ := H; obtain rfl : t_9 = false := ht_9.symm; replace H := app_hid H; replace H := ite_f H; replace H := bind_hid H; obtain ⟨t_15, r10, H⟩ := H; go_wp2_with fail; go_at_call 42; refine (GsL12Explained.C (rates) ((PCover.Cover.mk x_id x_day x_zone x_grams x_paid x_from_ x_to_ x_leave x_arrive)) A0 c0 _   (Lib.hid (Cells.below M0.out m10.out)) N0 r10).mono ?_; rintro s10 w10 ⟨rfl, a10⟩; have q10 := Lib.hid (Below.step m10.out a10); replace j10 := cell_below a10 j10; replace g10 := cell_below a10 g10; replace h10 := cell_below a10 h10; replace k10 := cell_below a10 k10; replace d10 := cell_below a10 d10; replace i10 := cell_below a10 i10; replace l10 := cell_below a10 l10; replace e10 := cell_below a10 e10; replace f10 := cell_below a10 f10; clear a10; cases ret_hid H; go_wp2_with fail; go_ret2; exact ⟨rfl, q10.out⟩
end Go.Proofs.YtihibckijdfidaaGreat.GsIsExplained

namespace Go.Proofs.YtihibckijdfidaaGreat.GiIsChange
open Go.RowKit
open Go.Proofs.YtihibckijdfidaaGreat.Rowed Go.Proofs.YtihibckijdfidaaGreat.Turn Go.Proofs.YtihibckijdfidaaGreat.Aid Go.Proofs.YtihibckijdfidaaGreat.GoP Go.Proofs.YtihibckijdfidaaGreat.GoM

def P (change : Int) : Option (Bool) :=
  Option.bind (Go.Proofs.YtihibckijdfidaaGreat.GiWithin.P change 0 15) fun (t_2 : Bool) =>
  some t_2

set_option maxRecDepth 100000 in
set_option maxHeartbeats 2000000 in
theorem C (change : Int)   (w : World)   {r : Bool} (H : Hid (P change = some r)) :
    Calls Tryz.prog 43 #[.int .i64 change] w (Gives (.bool r) w) := by
  have HB := Lib.hid (Below.refl w.heap.size w)
  unfold P at H
  go_enter Tryz.func43, Tryz.ntmps43
  replace H := bind_hid H
  obtain ⟨t_2, qt_2, H⟩ := H
  go_wp2_with fail
  go_at_call 53
  refine (Go.Proofs.YtihibckijdfidaaGreat.GiWithin.C (change) (0) (15)  _    qt_2).mono ?_
  rintro e_t_2 wt_2 ⟨rfl, bt_2⟩
  have HBwt_2 := Lib.hid (Below.step HB.out bt_2)
  clear bt_2
  obtain rfl := ret_hid H
  go_wp2_with fail
  go_ret
  exact ⟨rfl, HBwt_2.out⟩
end Go.Proofs.YtihibckijdfidaaGreat.GiIsChange

