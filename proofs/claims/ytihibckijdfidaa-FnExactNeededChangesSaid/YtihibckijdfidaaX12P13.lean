/- Texts on which the proofs of several laws stand, one behind the other (13 of 24). No condition of their own. -/
import Derived.Test.YtihibckijdfidaaChecked
import Derived.Test.YtihibckijdfidaaX12P1
import Derived.Test.YtihibckijdfidaaX12P2
import Derived.Test.YtihibckijdfidaaX12P11
import Derived.Test.YtihibckijdfidaaX12P10
import Derived.Test.YtihibckijdfidaaX12P12
import Derived.WalkKit
import Derived.WalkSpells
import Derived.WalkLawsBesides
import Derived.BigQuiet
import Derived.OwnWalk
import Derived.Deep.LoopGhost
import Derived.Deep.QuietTactic
import Derived.IntWalk
import Derived.Lib.QuietBelow
import Derived.Test.YtihibckijdfidaaX12P3
import Derived.Test.YtihibckijdfidaaX12P6
import Derived.Test.YtihibckijdfidaaX12P4
set_option linter.unusedVariables false
set_option linter.unusedSimpArgs false
namespace Go.Proofs.Ytihibckijdfidaa.GiCheapestChange
open Go.RowKit
open Go.Proofs.Ytihibckijdfidaa.Rowed Go.Proofs.Ytihibckijdfidaa.Turn Go.Proofs.Ytihibckijdfidaa.Aid Go.Proofs.Ytihibckijdfidaa.GoP Go.Proofs.Ytihibckijdfidaa.GoM

def P (fuel : Nat) (rates : (List PRate.Rate)) (x : PCover.Cover) (costs : PIntA4.IntA4) : Option (Int × Int × Bool) :=
 unCover x fun (x_id : Int) (x_day : Int) (x_zone : Int) (x_grams : Int) (x_paid : Int) (x_from_ : Int) (x_to_ : Int) (x_leave : Int) (x_arrive : Int) =>
 unIntA4 costs fun (costs_x0 : Int) (costs_x1 : Int) (costs_x2 : Int) (costs_x3 : Int) =>
 bind2 (GiPossibleChanges.P rates (PCover.Cover.mk x_id x_day x_zone x_grams x_paid x_from_ x_to_ x_leave x_arrive)) fun (t_7a : (List Int)) (t_7b : Bool) =>
 letK ((t_7a.length : Int) == 0) fun (t_15 : Bool) =>
 joinK (fun (t_20 : Bool) =>
 iteK t_20
 (some (0, 0, false))
 (Option.bind (GxSlicesMinFuncIntIntiCheapestChange1.P fuel t_7a costs_x0 costs_x1 costs_x2 costs_x3) fun (t_26 : Int) =>
 Option.bind (GiCostOf.P t_26 (PIntA4.IntA4.mk costs_x0 costs_x1 costs_x2 costs_x3)) fun (t_31 : Int) =>
 some (t_26, t_31, true))) fun jt_20 => iteK t_15 (appK jt_20 true) (Option.bind (GiAreCosts.P (PIntA4.IntA4.mk costs_x0 costs_x1 costs_x2 costs_x3)) fun (t_18 : Bool) =>
 letK (!t_18) fun (t_19 : Bool) =>
 appK jt_20 t_19)

set_option maxRecDepth 100000 in
set_option maxHeartbeats 2000000 in
theorem C (fuel : Nat) (rates : (List PRate.Rate)) (x : PCover.Cover) (costs : PIntA4.IntA4) (A0 : Option Addr) (c0 : Nat)  (w : World) (M0 : Hid (Cells w 5 A0 rates.length (PRate.flat rates))) (N0 : Hid (rates.length ≤ 9223372036854775807))  {r0 : Int} {r1 : Int} {r2 : Bool} (H : Hid (P fuel rates x costs = some (r0, r1, r2))) :
  Calls Try.prog 34 #[.slice A0 rates.length c0, x.val, costs.val] w (Gives (.tuple #[.int .i64 r0, .int .i64 r1, .bool r2]) w) := by
 have HB := Lib.hid (Below.refl w.heap.size w); unfold P at H; obtain ⟨x_id, x_day, x_zone, x_grams, x_paid, x_from_, x_to_, x_leave, x_arrive⟩ := x; replace H := unCover_hid H; obtain ⟨a11, x10, z10, w10⟩ := costs; replace H := unIntA4_hid H; unfold PCover.Cover.val; unfold PIntA4.IntA4.val; have N0o := N0.out
 go_enter Try.func34, Try.ntmps34
 obtain ⟨a10, g10⟩ : ∃ x, w.alloc (.cells #[.int .i64 x_id, .int .i64 x_day, .int .i64 x_zone, .int .i64 x_grams, .int .i64 x_paid, .int .i64 x_from_, .int .i64 x_to_, .int .i64 x_leave, .int .i64 x_arrive] 30) = x := ⟨_, rfl⟩; have h11 : Below w.heap.size w a10 := (by rw [← g10]; exact (Below.refl _ _).alloc (Nat.le_refl _) _); have r11 := Lib.hid (Below.step HB.out h11); clear h11; have n11 : a10.cell? ⟨w.heap.size, 0, none⟩ = some (.int .i64 x_id) := (by rw [← g10]; exact box_new _ _ _ 0 _ rfl); have f11 : a10.cell? ⟨w.heap.size, 1, none⟩ = some (.int .i64 x_day) := (by rw [← g10]; exact box_new _ _ _ 1 _ rfl); have l11 : a10.cell? ⟨w.heap.size, 2, none⟩ = some (.int .i64 x_zone) := (by rw [← g10]; exact box_new _ _ _ 2 _ rfl); have p11 : a10.cell? ⟨w.heap.size, 3, none⟩ = some (.int .i64 x_grams) := (by rw [← g10]; exact box_new _ _ _ 3 _ rfl); have q11 : a10.cell? ⟨w.heap.size, 4, none⟩ = some (.int .i64 x_paid) := (by rw [← g10]; exact box_new _ _ _ 4 _ rfl); have k11 : a10.cell? ⟨w.heap.size, 5, none⟩ = some (.int .i64 x_from_) := (by rw [← g10]; exact box_new _ _ _ 5 _ rfl); have g11 : a10.cell? ⟨w.heap.size, 6, none⟩ = some (.int .i64 x_to_) := (by rw [← g10]; exact box_new _ _ _ 6 _ rfl); have o11 : a10.cell? ⟨w.heap.size, 7, none⟩ = some (.int .i64 x_leave) := (by rw [← g10]; exact box_new _ _ _ 7 _ rfl); have e11 : a10.cell? ⟨w.heap.size, 8, none⟩ = some (.int .i64 x_arrive) := (by rw [← g10]; exact box_new _ _ _ 8 _ rfl); obtain ⟨v10, y10⟩ : ∃ x, a10.alloc (.cells #[.int .i64 a11, .int .i64 x10, .int .i64 z10, .int .i64 w10] 46) = x := ⟨_, rfl⟩; have e10 : Below a10.heap.size a10 v10 := (by rw [← y10]; exact (Below.refl _ _).alloc (Nat.le_refl _) _); have d11 := Lib.hid (Below.step r11.out e10); have j10 := cell_below e10 n11; have p10 := cell_below e10 f11; have s10 := cell_below e10 l11; have l10 := cell_below e10 p11; have n10 := cell_below e10 q11; have o10 := cell_below e10 k11; have m10 := cell_below e10 g11; have q10 := cell_below e10 o11; have r10 := cell_below e10 e11; clear e10; have f10 : v10.cell? ⟨a10.heap.size, 0, none⟩ = some (.int .i64 a11) := (by rw [← y10]; exact box_new _ _ _ 0 _ rfl); have k10 : v10.cell? ⟨a10.heap.size, 1, none⟩ = some (.int .i64 x10) := (by rw [← y10]; exact box_new _ _ _ 1 _ rfl); have i10 : v10.cell? ⟨a10.heap.size, 2, none⟩ = some (.int .i64 z10) := (by rw [← y10]; exact box_new _ _ _ 2 _ rfl); have h10 : v10.cell? ⟨a10.heap.size, 3, none⟩ = some (.int .i64 w10) := (by rw [← y10]; exact box_new _ _ _ 3 _ rfl); replace H := bind2_hid H; obtain ⟨t_7a, t_7b, qt_7, H⟩ := H; go_wp2_with fail; clear n11 f11 l11 p11 q11 k11 g11 o11 e11; go_at_call 25; refine (GiPossibleChanges.C (rates) ((PCover.Cover.mk x_id x_day x_zone x_grams x_paid x_from_ x_to_ x_leave x_arrive)) A0 c0 _   (Lib.hid (Cells.below M0.out d11.out)) N0 qt_7).mono ?_; rintro c12 wt_7 ⟨w11, s11, rfl, b11, bt_7⟩; have d12 := Lib.hid (apart_callbox b11 j10); have f12 := Lib.hid (apart_callbox b11 f10); have t10 := Lib.hid (own_lower b11 d11.out.size); clear b11; have j11 := Lib.hid (Below.step d11.out bt_7); replace j10 := cell_below bt_7 j10; replace p10 := cell_below bt_7 p10; replace s10 := cell_below bt_7 s10; replace l10 := cell_below bt_7 l10; replace n10 := cell_below bt_7 n10; replace o10 := cell_below bt_7 o10; replace m10 := cell_below bt_7 m10; replace q10 := cell_below bt_7 q10; replace r10 := cell_below bt_7 r10; replace f10 := cell_below bt_7 f10; replace k10 := cell_below bt_7 k10; replace i10 := cell_below bt_7 i10; replace h10 := cell_below bt_7 h10; clear bt_7; replace H := let_hid H; obtain ⟨t_15, m11, H⟩ := H; replace H := join_hid H
 cases t_15 with
 | false =>
  have t11 : ¬ (t_7a.length = 0) := (by have := ne_of_beq_false m11; omega); replace H := ite_f H; replace H := bind_hid H; obtain ⟨t_18, b12, H⟩ := H; go_wp2_with fail; go_at_call 97; refine (GiAreCosts.C ((PIntA4.IntA4.mk a11 x10 z10 w10))  _    b12).mono ?_; rintro k12 j12 ⟨rfl, c10⟩; have i11 := Lib.hid (Below.step j11.out c10); replace j10 := cell_below c10 j10; replace p10 := cell_below c10 p10; replace s10 := cell_below c10 s10; replace l10 := cell_below c10 l10; replace n10 := cell_below c10 n10; replace o10 := cell_below c10 o10; replace m10 := cell_below c10 m10; replace q10 := cell_below c10 q10; replace r10 := cell_below c10 r10; replace f10 := cell_below c10 f10; replace k10 := cell_below c10 k10; replace i10 := cell_below c10 i10; replace h10 := cell_below c10 h10; replace t10 := Lib.hid (own_below t10.out c10); clear c10
  cases t_18 with
  | false =>
   replace H := let_hid H; obtain ⟨t_19, c11, H⟩ := H; obtain rfl : t_19 = true := c11.symm; replace H := app_hid H; replace H := ite_t H; cases ret_hid H; go_wp2_with fail; go_ret3; exact ⟨rfl, i11.out⟩
  | true =>
   replace H := let_hid H; obtain ⟨t_19, c11, H⟩ := H; obtain rfl : t_19 = false := c11.symm; replace H := app_hid H; replace H := ite_f H; replace H := bind_hid H; obtain ⟨t_26, y11, H⟩ := H; go_wp2_with fail; go_at_call 94; refine (GxSlicesMinFuncIntIntiCheapestChange1.C fuel (t_7a) (a11) (x10) (z10) (w10) w11 s11 (a10.heap.size) _   (Lib.hid (own_cells t10.out)) (Lib.hid (own_max t10.out)) (Lib.hid f10) (Lib.hid k10) (Lib.hid i10) (Lib.hid h10) y11).mono ?_; rintro e12 i12 ⟨rfl, b10⟩; have x11 := Lib.hid (Below.step i11.out b10); replace j10 := cell_below b10 j10; replace p10 := cell_below b10 p10; replace s10 := cell_below b10 s10; replace l10 := cell_below b10 l10; replace n10 := cell_below b10 n10; replace o10 := cell_below b10 o10; replace m10 := cell_below b10 m10; replace q10 := cell_below b10 q10; replace r10 := cell_below b10 r10; replace f10 := cell_below b10 f10; replace k10 := cell_below b10 k10; replace i10 := cell_below b10 i10; replace h10 := cell_below b10 h10; replace t10 := Lib.hid (own_below t10.out b10); clear b10; replace H := bind_hid H; obtain ⟨t_31, a12, H⟩ := H; go_wp2_with fail; go_at_call 101; refine (GiCostOf.C (t_26) ((PIntA4.IntA4.mk a11 x10 z10 w10))  _    a12).mono ?_; rintro h12 g12 ⟨rfl, d10⟩; have z11 := Lib.hid (Below.step x11.out d10); replace j10 := cell_below d10 j10; replace p10 := cell_below d10 p10; replace s10 := cell_below d10 s10; replace l10 := cell_below d10 l10; replace n10 := cell_below d10 n10; replace o10 := cell_below d10 o10; replace m10 := cell_below d10 m10; replace q10 := cell_below d10 q10; replace r10 := cell_below d10 r10; replace f10 := cell_below d10 f10; replace k10 := cell_below d10 k10; replace i10 := cell_below d10 i10; replace h10 := cell_below d10 h10; replace t10 := Lib.hid (own_below t10.out d10); clear d10; cases ret_hid H; go_wp2_with fail; go_ret3; exact ⟨rfl, z11.out⟩
 | true =>
  have v11 : Hid (t_7a.length = 0) := Lib.hid (by have := eq_of_beq m11; omega); have t11 : (t_7a.length == 0) = true := beq_iff_eq.2 v11.out; replace H := ite_t H; replace H := app_hid H; replace H := ite_t H; cases ret_hid H; go_wp2_with fail; go_ret3; exact ⟨rfl, j11.out⟩
end Go.Proofs.Ytihibckijdfidaa.GiCheapestChange

namespace Go.Proofs.Ytihibckijdfidaa.GsCheapestChange
open Go.RowKit
open Go.Proofs.Ytihibckijdfidaa.Rowed Go.Proofs.Ytihibckijdfidaa.Turn Go.Proofs.Ytihibckijdfidaa.Aid Go.Proofs.Ytihibckijdfidaa.GoP Go.Proofs.Ytihibckijdfidaa.GoM

def l0 (costs_x0 : Int) (costs_x1 : Int) (costs_x2 : Int) (costs_x3 : Int) (k0 : Nat) (s : Unit) (nx0 bk0 : Unit → Option (Int × Int × Bool)) : Option (Int × Int × Bool) :=
 
 Option.bind (idx [costs_x0, costs_x1, costs_x2, costs_x3] (k0 : Int)) fun (yt_9 : Int) =>
 Option.bind (GsL1In.P yt_9 0 1000) fun (t_11 : Bool) =>
 letK (!t_11) fun (t_12 : Bool) =>
 iteK t_12
 (some (0, 0, false))
 (appK nx0 ())

def e0 (rates : (List PRate.Rate)) (x_id : Int) (x_day : Int) (x_zone : Int) (x_grams : Int) (x_paid : Int) (x_from_ : Int) (x_to_ : Int) (x_leave : Int) (x_arrive : Int) (costs_x0 : Int) (costs_x1 : Int) (costs_x2 : Int) (costs_x3 : Int) (fuel : Nat) (s : Unit) : Option (Int × Int × Bool) :=
 
 Option.bind (GsL8Good.P fuel rates) fun (t_20 : Bool) =>
 letK (!t_20) fun (t_21 : Bool) =>
 joinK (fun (t_26 : Bool) =>
 iteK t_26
 (some (0, 0, false))
 (bind2 (GsL12Best.P fuel rates (PCover.Cover.mk x_id x_day x_zone x_grams x_paid x_from_ x_to_ x_leave x_arrive) (PIntA4.IntA4.mk costs_x0 costs_x1 costs_x2 costs_x3)) fun (t_33a : Int) (t_33b : Bool) =>
 letK (!t_33b) fun (t_40 : Bool) =>
 iteK t_40
 (some (0, 0, false))
 (Option.bind (GsL12Cost.P t_33a (PIntA4.IntA4.mk costs_x0 costs_x1 costs_x2 costs_x3)) fun (t_47 : Int) =>
 some (t_33a, t_47, true)))) fun jt_26 => iteK t_21 (appK jt_26 true) (Option.bind (GsL10One.P (PCover.Cover.mk x_id x_day x_zone x_grams x_paid x_from_ x_to_ x_leave x_arrive)) fun (t_24 : Bool) =>
 letK (!t_24) fun (t_25 : Bool) =>
 appK jt_26 t_25)

def P (fuel : Nat) (rates : (List PRate.Rate)) (x : PCover.Cover) (costs : PIntA4.IntA4) : Option (Int × Int × Bool) :=
 unCover x fun (x_id : Int) (x_day : Int) (x_zone : Int) (x_grams : Int) (x_paid : Int) (x_from_ : Int) (x_to_ : Int) (x_leave : Int) (x_arrive : Int) =>
 unIntA4 costs fun (costs_x0 : Int) (costs_x1 : Int) (costs_x2 : Int) (costs_x3 : Int) =>
 cntK (l0 costs_x0 costs_x1 costs_x2 costs_x3) (4) 0 () (e0 rates x_id x_day x_zone x_grams x_paid x_from_ x_to_ x_leave x_arrive costs_x0 costs_x1 costs_x2 costs_x3 fuel)

set_option maxRecDepth 100000 in
set_option maxHeartbeats 2000000 in
theorem C (fuel : Nat) (rates : (List PRate.Rate)) (x : PCover.Cover) (costs : PIntA4.IntA4) (A0 : Option Addr) (c0 : Nat)  (w : World) (M0 : Hid (Cells w 5 A0 rates.length (PRate.flat rates))) (N0 : Hid (rates.length ≤ 9223372036854775807))  {r0 : Int} {r1 : Int} {r2 : Bool} (H : Hid (P fuel rates x costs = some (r0, r1, r2))) :
  Calls Try.prog 32 #[.slice A0 rates.length c0, x.val, costs.val] w (Gives (.tuple #[.int .i64 r0, .int .i64 r1, .bool r2]) w) := by
 have HB := Lib.hid (Below.refl w.heap.size w); unfold P at H; obtain ⟨x_id, x_day, x_zone, x_grams, x_paid, x_from_, x_to_, x_leave, x_arrive⟩ := x; replace H := unCover_hid H; obtain ⟨y10, x10, z10, w10⟩ := costs; replace H := unIntA4_hid H; unfold PCover.Cover.val; unfold PIntA4.IntA4.val; have N0o := N0.out
 go_enter Try.func32, Try.ntmps32
 obtain ⟨a10, v10⟩ : ∃ x, w.alloc (.cells #[.int .i64 x_id, .int .i64 x_day, .int .i64 x_zone, .int .i64 x_grams, .int .i64 x_paid, .int .i64 x_from_, .int .i64 x_to_, .int .i64 x_leave, .int .i64 x_arrive] 30) = x := ⟨_, rfl⟩; have r11 : Below w.heap.size w a10 := (by rw [← v10]; exact (Below.refl _ _).alloc (Nat.le_refl _) _); have g12 := Lib.hid (Below.step HB.out r11); clear r11; have s11 : a10.cell? ⟨w.heap.size, 0, none⟩ = some (.int .i64 x_id) := (by rw [← v10]; exact box_new _ _ _ 0 _ rfl); have q11 : a10.cell? ⟨w.heap.size, 1, none⟩ = some (.int .i64 x_day) := (by rw [← v10]; exact box_new _ _ _ 1 _ rfl); have n11 : a10.cell? ⟨w.heap.size, 2, none⟩ = some (.int .i64 x_zone) := (by rw [← v10]; exact box_new _ _ _ 2 _ rfl); have w11 : a10.cell? ⟨w.heap.size, 3, none⟩ = some (.int .i64 x_grams) := (by rw [← v10]; exact box_new _ _ _ 3 _ rfl); have o11 : a10.cell? ⟨w.heap.size, 4, none⟩ = some (.int .i64 x_paid) := (by rw [← v10]; exact box_new _ _ _ 4 _ rfl); have m11 : a10.cell? ⟨w.heap.size, 5, none⟩ = some (.int .i64 x_from_) := (by rw [← v10]; exact box_new _ _ _ 5 _ rfl); have v11 : a10.cell? ⟨w.heap.size, 6, none⟩ = some (.int .i64 x_to_) := (by rw [← v10]; exact box_new _ _ _ 6 _ rfl); have p11 : a10.cell? ⟨w.heap.size, 7, none⟩ = some (.int .i64 x_leave) := (by rw [← v10]; exact box_new _ _ _ 7 _ rfl); have j11 : a10.cell? ⟨w.heap.size, 8, none⟩ = some (.int .i64 x_arrive) := (by rw [← v10]; exact box_new _ _ _ 8 _ rfl); obtain ⟨a11, b11⟩ : ∃ x, a10.alloc (.cells #[.int .i64 y10, .int .i64 x10, .int .i64 z10, .int .i64 w10] 46) = x := ⟨_, rfl⟩; have t10 : Below a10.heap.size a10 a11 := (by rw [← b11]; exact (Below.refl _ _).alloc (Nat.le_refl _) _); have y11 := Lib.hid (Below.step g12.out t10); have s10 := cell_below t10 s11; have l10 := cell_below t10 q11; have o10 := cell_below t10 n11; have r10 := cell_below t10 w11; have m10 := cell_below t10 o11; have k10 := cell_below t10 m11; have q10 := cell_below t10 v11; have p10 := cell_below t10 p11; have n10 := cell_below t10 j11; clear t10; have i10 : a11.cell? ⟨a10.heap.size, 0, none⟩ = some (.int .i64 y10) := (by rw [← b11]; exact box_new _ _ _ 0 _ rfl); have j10 : a11.cell? ⟨a10.heap.size, 1, none⟩ = some (.int .i64 x10) := (by rw [← b11]; exact box_new _ _ _ 1 _ rfl); have h10 : a11.cell? ⟨a10.heap.size, 2, none⟩ = some (.int .i64 z10) := (by rw [← b11]; exact box_new _ _ _ 2 _ rfl); have g10 : a11.cell? ⟨a10.heap.size, 3, none⟩ = some (.int .i64 w10) := (by rw [← b11]; exact box_new _ _ _ 3 _ rfl); go_wp2_with fail; clear s11 q11 n11 w11 o11 m11 v11 p11 j11; go_loopg [9] (4) (fun m_ v9_ wr => ∃ (k0 : Nat) , k0 + m_ = 4 ∧ v9_ = .int .i64 (k0 : Int) ∧ Hid (cntK (l0 y10 x10 z10 w10) m_ k0 () (e0 rates x_id x_day x_zone x_grams x_paid x_from_ x_to_ x_leave x_arrive y10 x10 z10 w10 fuel) = some (r0, r1, r2)) ∧ Hid (Below w.heap.size w wr) ∧ wr.cell? ⟨w.heap.size, 0, none⟩ = some (.int .i64 x_id) ∧ wr.cell? ⟨w.heap.size, 1, none⟩ = some (.int .i64 x_day) ∧ wr.cell? ⟨w.heap.size, 2, none⟩ = some (.int .i64 x_zone) ∧ wr.cell? ⟨w.heap.size, 3, none⟩ = some (.int .i64 x_grams) ∧ wr.cell? ⟨w.heap.size, 4, none⟩ = some (.int .i64 x_paid) ∧ wr.cell? ⟨w.heap.size, 5, none⟩ = some (.int .i64 x_from_) ∧ wr.cell? ⟨w.heap.size, 6, none⟩ = some (.int .i64 x_to_) ∧ wr.cell? ⟨w.heap.size, 7, none⟩ = some (.int .i64 x_leave) ∧ wr.cell? ⟨w.heap.size, 8, none⟩ = some (.int .i64 x_arrive) ∧ wr.cell? ⟨a10.heap.size, 0, none⟩ = some (.int .i64 y10) ∧ wr.cell? ⟨a10.heap.size, 1, none⟩ = some (.int .i64 x10) ∧ wr.cell? ⟨a10.heap.size, 2, none⟩ = some (.int .i64 z10) ∧ wr.cell? ⟨a10.heap.size, 3, none⟩ = some (.int .i64 w10))
 case atStart => exact ⟨0, by omega, rfl, H, y11, s10, l10, o10, r10, m10, k10, q10, p10, n10, i10, j10, h10, g10⟩
 case round =>
  obtain ⟨k0, hkm0, rfl, H, e11, s10, l10, o10, r10, m10, k10, q10, p10, n10, i10, j10, h10, g10⟩ := hrel; rename World => wr0
  cases gk with
  | zero =>
   obtain rfl : k0 = 4 := (by omega); have hc0 : decide (((4 : Nat) : Int) < ((4 : Nat) : Int)) = false := (by simp); replace H := cnt_zero H; unfold e0 at H; replace H := bind_hid H; obtain ⟨t_20, d12, H⟩ := H; go_wp2_with fail; go_at_call 80; refine (GsL8Good.C fuel (rates) A0 c0 _   (Lib.hid (Cells.below M0.out e11.out)) N0 d12).mono ?_; rintro l12 v12 ⟨rfl, f10⟩; have t11 := Lib.hid (Below.step e11.out f10); replace s10 := cell_below f10 s10; replace l10 := cell_below f10 l10; replace o10 := cell_below f10 o10; replace r10 := cell_below f10 r10; replace m10 := cell_below f10 m10; replace k10 := cell_below f10 k10; replace q10 := cell_below f10 q10; replace p10 := cell_below f10 p10; replace n10 := cell_below f10 n10; replace i10 := cell_below f10 i10; replace j10 := cell_below f10 j10; replace h10 := cell_below f10 h10; replace g10 := cell_below f10 g10; clear f10
   cases t_20 with
   | false =>
    replace H := let_hid H; obtain ⟨t_21, i11, H⟩ := H; obtain rfl : t_21 = true := i11.symm; replace H := join_hid H; replace H := ite_t H; replace H := app_hid H; replace H := ite_t H; cases ret_hid H; go_wp2_with fail; go_ret3; exact ⟨rfl, t11.out⟩
   | true =>
    replace H := let_hid H; obtain ⟨t_21, i11, H⟩ := H; obtain rfl : t_21 = false := i11.symm; replace H := join_hid H; replace H := ite_f H; replace H := bind_hid H; obtain ⟨t_24, e12, H⟩ := H; go_wp2_with fail; go_at_call 81; refine (GsL10One.C ((PCover.Cover.mk x_id x_day x_zone x_grams x_paid x_from_ x_to_ x_leave x_arrive))  _    e12).mono ?_; rintro h12 p12 ⟨rfl, e10⟩; have f11 := Lib.hid (Below.step t11.out e10); replace s10 := cell_below e10 s10; replace l10 := cell_below e10 l10; replace o10 := cell_below e10 o10; replace r10 := cell_below e10 r10; replace m10 := cell_below e10 m10; replace k10 := cell_below e10 k10; replace q10 := cell_below e10 q10; replace p10 := cell_below e10 p10; replace n10 := cell_below e10 n10; replace i10 := cell_below e10 i10; replace j10 := cell_below e10 j10; replace h10 := cell_below e10 h10; replace g10 := cell_below e10 g10; clear e10
    cases t_24 with
    | false =>
     replace H := let_hid H; obtain ⟨t_25, g11, H⟩ := H; obtain rfl : t_25 = true := g11.symm; replace H := app_hid H; replace H := ite_t H; cases ret_hid H; go_wp2_with fail; go_ret3; exact ⟨rfl, f11.out⟩
    | true =>
     replace H := let_hid H; obtain ⟨t_25, g11, H⟩ := H; obtain rfl : t_25 = false := g11.symm; replace H := app_hid H; replace H := ite_f H; replace H := bind2_hid H; obtain ⟨z11, b12, x11, H⟩ := H; go_wp2_with fail; go_at_call 93; refine (GsL12Best.C fuel (rates) ((PCover.Cover.mk x_id x_day x_zone x_grams x_paid x_from_ x_to_ x_leave x_arrive)) ((PIntA4.IntA4.mk y10 x10 z10 w10)) A0 c0 _   (Lib.hid (Cells.below M0.out f11.out)) N0 x11).mono ?_; rintro r12 s12 ⟨rfl, d10⟩; have k11 := Lib.hid (Below.step f11.out d10); replace s10 := cell_below d10 s10; replace l10 := cell_below d10 l10; replace o10 := cell_below d10 o10; replace r10 := cell_below d10 r10; replace m10 := cell_below d10 m10; replace k10 := cell_below d10 k10; replace q10 := cell_below d10 q10; replace p10 := cell_below d10 p10; replace n10 := cell_below d10 n10; replace i10 := cell_below d10 i10; replace j10 := cell_below d10 j10; replace h10 := cell_below d10 h10; replace g10 := cell_below d10 g10; clear d10
     cases b12 with
     | false =>
      replace H := let_hid H; obtain ⟨t_40, h11, H⟩ := H; obtain rfl : t_40 = true := h11.symm; replace H := ite_t H; cases ret_hid H; go_wp2_with fail; go_ret3; exact ⟨rfl, k11.out⟩
     | true =>
      replace H := let_hid H; obtain ⟨t_40, h11, H⟩ := H; obtain rfl : t_40 = false := h11.symm; replace H := ite_f H; replace H := bind_hid H; obtain ⟨t_47, f12, H⟩ := H; go_wp2_with fail; go_at_call 96; refine (GsL12Cost.C (z11) ((PIntA4.IntA4.mk y10 x10 z10 w10))  _    f12).mono ?_; rintro k12 n12 ⟨rfl, c10⟩; have a12 := Lib.hid (Below.step k11.out c10); replace s10 := cell_below c10 s10; replace l10 := cell_below c10 l10; replace o10 := cell_below c10 o10; replace r10 := cell_below c10 r10; replace m10 := cell_below c10 m10; replace k10 := cell_below c10 k10; replace q10 := cell_below c10 q10; replace p10 := cell_below c10 p10; replace n10 := cell_below c10 n10; replace i10 := cell_below c10 i10; replace j10 := cell_below c10 j10; replace h10 := cell_below c10 h10; replace g10 := cell_below c10 g10; clear c10; cases ret_hid H; go_wp2_with fail; go_ret3; exact ⟨rfl, a12.out⟩
  | succ m0 =>
   have hlt0 : k0 < 4 := (by omega); have hc0 : decide ((k0 : Int) < ((4 : Nat) : Int)) = true := (by simp; omega); replace H := cnt_succ H; have hd0 : decide ((k0 : Int) < 4) = true := (by simp; omega); unfold l0 at H; replace H := idx_hid H; obtain ⟨nt_9, yt_9, et_9, lt_9, gt_9, H⟩ := H; obtain rfl : k0 = nt_9 := (by omega); clear et_9; have m12 : (0 : Int) ≤ (k0 : Int) := (by omega); have j12 : (k0 : Int) < (((4 : Nat) : Nat) : Int) := (by have h_ : k0 < 4 := lt_9; omega); have q12 : k0 < 4 := lt_9; have i12 : (k0 : Int) < (4 : Int) := (by omega); have w12 : ((k0 : Int)).toNat = k0 := (by omega); have d11 := PIntA4.cell_at i10 j10 h10 g10 gt_9.out; rw [Nat.zero_add] at d11; replace H := bind_hid H; obtain ⟨t_11, c12, H⟩ := H; go_wp2_with fail; go_at_call 87; refine (GsL1In.C (yt_9) (0) (1000)  _    c12).mono ?_; rintro o12 t12 ⟨rfl, b10⟩; have l11 := Lib.hid (Below.step e11.out b10); replace s10 := cell_below b10 s10; replace l10 := cell_below b10 l10; replace o10 := cell_below b10 o10; replace r10 := cell_below b10 r10; replace m10 := cell_below b10 m10; replace k10 := cell_below b10 k10; replace q10 := cell_below b10 q10; replace p10 := cell_below b10 p10; replace n10 := cell_below b10 n10; replace i10 := cell_below b10 i10; replace j10 := cell_below b10 j10; replace h10 := cell_below b10 h10; replace g10 := cell_below b10 g10; replace d11 := cell_below b10 d11; clear b10
   cases t_11 with
   | false =>
    replace H := let_hid H; obtain ⟨t_12, c11, H⟩ := H; obtain rfl : t_12 = true := c11.symm; replace H := ite_t H; cases ret_hid H; go_wp2_with fail; go_ret3; exact ⟨rfl, l11.out⟩
   | true =>
    replace H := let_hid H; obtain ⟨t_12, c11, H⟩ := H; obtain rfl : t_12 = false := c11.symm; replace H := ite_f H; replace H := app_hid H; go_wp2_with fail
    go_roundg m0
    case measure => omega
    case rel => exact ⟨k0 + 1, by omega, by go_num, H, l11, s10, l10, o10, r10, m10, k10, q10, p10, n10, i10, j10, h10, g10⟩
end Go.Proofs.Ytihibckijdfidaa.GsCheapestChange

namespace Go.Proofs.Ytihibckijdfidaa.GiNeededChanges
open Go.RowKit
open Go.Proofs.Ytihibckijdfidaa.Rowed Go.Proofs.Ytihibckijdfidaa.Turn Go.Proofs.Ytihibckijdfidaa.Aid Go.Proofs.Ytihibckijdfidaa.GoP Go.Proofs.Ytihibckijdfidaa.GoM

def l0 (t_5a : (List Int)) (k0 : Nat) (s : Int) (nx0 bk0 : Int → Option (Int × Bool)) : Option (Int × Bool) :=
 letK s fun needed_8l0 =>
 Option.bind (idx t_5a (k0 : Int)) fun (yt_21 : Int) =>
 letK (bits .and IntKind.i64 needed_8l0 yt_21) fun (t_26 : Int) =>
 appK nx0 (t_26)

def e0  (s : Int) : Option (Int × Bool) :=
 letK s fun needed_8l0 =>
 some (needed_8l0, true)

def P (rates : (List PRate.Rate)) (x : PCover.Cover) : Option (Int × Bool) :=
 unCover x fun (x_id : Int) (x_day : Int) (x_zone : Int) (x_grams : Int) (x_paid : Int) (x_from_ : Int) (x_to_ : Int) (x_leave : Int) (x_arrive : Int) =>
 bind2 (GiPossibleChanges.P rates (PCover.Cover.mk x_id x_day x_zone x_grams x_paid x_from_ x_to_ x_leave x_arrive)) fun (t_5a : (List Int)) (t_5b : Bool) =>
 letK ((t_5a.length : Int) == 0) fun (t_13 : Bool) =>
 iteK t_13
 (some (0, false))
 (cntK (l0 t_5a) (t_5a.length) 0 (15) (e0 ))

set_option maxRecDepth 100000 in
set_option maxHeartbeats 2000000 in
theorem C (rates : (List PRate.Rate)) (x : PCover.Cover) (A0 : Option Addr) (c0 : Nat)  (w : World) (M0 : Hid (Cells w 5 A0 rates.length (PRate.flat rates))) (N0 : Hid (rates.length ≤ 9223372036854775807))  {r0 : Int} {r1 : Bool} (H : Hid (P rates x = some (r0, r1))) :
  Calls Try.prog 36 #[.slice A0 rates.length c0, x.val] w (Gives (.tuple #[.int .i64 r0, .bool r1]) w) := by
 have HB := Lib.hid (Below.refl w.heap.size w); unfold P at H; obtain ⟨x_id, x_day, x_zone, x_grams, x_paid, x_from_, x_to_, x_leave, x_arrive⟩ := x; replace H := unCover_hid H; unfold PCover.Cover.val; have N0o := N0.out
 go_enter Try.func36, Try.ntmps36
 obtain ⟨b10, a10⟩ : ∃ x, w.alloc (.cells #[.int .i64 x_id, .int .i64 x_day, .int .i64 x_zone, .int .i64 x_grams, .int .i64 x_paid, .int .i64 x_from_, .int .i64 x_to_, .int .i64 x_leave, .int .i64 x_arrive] 30) = x := ⟨_, rfl⟩; have s10 : Below w.heap.size w b10 := (by rw [← a10]; exact (Below.refl _ _).alloc (Nat.le_refl _) _); have m10 := Lib.hid (Below.step HB.out s10); clear s10; have c10 : b10.cell? ⟨w.heap.size, 0, none⟩ = some (.int .i64 x_id) := (by rw [← a10]; exact box_new _ _ _ 0 _ rfl); have k10 : b10.cell? ⟨w.heap.size, 1, none⟩ = some (.int .i64 x_day) := (by rw [← a10]; exact box_new _ _ _ 1 _ rfl); have g10 : b10.cell? ⟨w.heap.size, 2, none⟩ = some (.int .i64 x_zone) := (by rw [← a10]; exact box_new _ _ _ 2 _ rfl); have i10 : b10.cell? ⟨w.heap.size, 3, none⟩ = some (.int .i64 x_grams) := (by rw [← a10]; exact box_new _ _ _ 3 _ rfl); have h10 : b10.cell? ⟨w.heap.size, 4, none⟩ = some (.int .i64 x_paid) := (by rw [← a10]; exact box_new _ _ _ 4 _ rfl); have e10 : b10.cell? ⟨w.heap.size, 5, none⟩ = some (.int .i64 x_from_) := (by rw [← a10]; exact box_new _ _ _ 5 _ rfl); have l10 : b10.cell? ⟨w.heap.size, 6, none⟩ = some (.int .i64 x_to_) := (by rw [← a10]; exact box_new _ _ _ 6 _ rfl); have j10 : b10.cell? ⟨w.heap.size, 7, none⟩ = some (.int .i64 x_leave) := (by rw [← a10]; exact box_new _ _ _ 7 _ rfl); have f10 : b10.cell? ⟨w.heap.size, 8, none⟩ = some (.int .i64 x_arrive) := (by rw [← a10]; exact box_new _ _ _ 8 _ rfl); replace H := bind2_hid H; obtain ⟨t_5a, t_5b, qt_5, H⟩ := H; go_wp2_with fail; go_at_call 25; refine (GiPossibleChanges.C (rates) ((PCover.Cover.mk x_id x_day x_zone x_grams x_paid x_from_ x_to_ x_leave x_arrive)) A0 c0 _   (Lib.hid (Cells.below M0.out m10.out)) N0 qt_5).mono ?_; rintro k11 wt_5 ⟨c11, y10, rfl, o10, bt_5⟩; have o11 := Lib.hid (apart_callbox o10 c10); have d10 := Lib.hid (own_lower o10 m10.out.size); clear o10; have t10 := Lib.hid (Below.step m10.out bt_5); replace c10 := cell_below bt_5 c10; replace k10 := cell_below bt_5 k10; replace g10 := cell_below bt_5 g10; replace i10 := cell_below bt_5 i10; replace h10 := cell_below bt_5 h10; replace e10 := cell_below bt_5 e10; replace l10 := cell_below bt_5 l10; replace j10 := cell_below bt_5 j10; replace f10 := cell_below bt_5 f10; clear bt_5; replace H := let_hid H; obtain ⟨t_13, q10, H⟩ := H
 cases t_13 with
 | false =>
  have d11 : ¬ (t_5a.length = 0) := (by have := ne_of_beq_false q10; omega); replace H := ite_f H; have hb_0 : t_5a.length ≤ 9223372036854775807 := own_max d10.out; go_wp2_with fail; go_loopg [22, 8] (t_5a.length) (fun m_ v22_ v8_ wr => ∃ (k0 : Nat) (n10 : Int), k0 + m_ = t_5a.length ∧ v22_ = .int .i64 (k0 : Int) ∧ v8_ = .int .i64 n10 ∧ Hid (cntK (l0 t_5a) m_ k0 (n10) (e0 ) = some (r0, r1)) ∧ Hid (Below w.heap.size w wr) ∧ wr.cell? ⟨w.heap.size, 0, none⟩ = some (.int .i64 x_id) ∧ wr.cell? ⟨w.heap.size, 1, none⟩ = some (.int .i64 x_day) ∧ wr.cell? ⟨w.heap.size, 2, none⟩ = some (.int .i64 x_zone) ∧ wr.cell? ⟨w.heap.size, 3, none⟩ = some (.int .i64 x_grams) ∧ wr.cell? ⟨w.heap.size, 4, none⟩ = some (.int .i64 x_paid) ∧ wr.cell? ⟨w.heap.size, 5, none⟩ = some (.int .i64 x_from_) ∧ wr.cell? ⟨w.heap.size, 6, none⟩ = some (.int .i64 x_to_) ∧ wr.cell? ⟨w.heap.size, 7, none⟩ = some (.int .i64 x_leave) ∧ wr.cell? ⟨w.heap.size, 8, none⟩ = some (.int .i64 x_arrive) ∧ Hid (wr.ownsRow w.heap.size 3 1 (.slice c11 t_5a.length y10) t_5a.length (HelpInt.iv t_5a)))
  case atStart => exact ⟨0, _, by omega, rfl, rfl, H, t10, c10, k10, g10, i10, h10, e10, l10, j10, f10, d10⟩
  case round =>
   obtain ⟨k0, n10, hkm0, rfl, rfl, H, p10, c10, k10, g10, i10, h10, e10, l10, j10, f10, d10⟩ := hrel; rename World => wr0
   cases gk with
   | zero =>
    obtain rfl : k0 = t_5a.length := (by omega); have hc0 : decide (((t_5a.length : Nat) : Int) < ((t_5a.length : Nat) : Int)) = false := (by simp); replace H := cnt_zero H; unfold e0 at H; replace H := let_hid H; obtain ⟨_, rfl, H⟩ := H; cases ret_hid H; go_wp2_with fail; go_ret2; exact ⟨rfl, p10.out⟩
   | succ m0 =>
    have hlt0 : k0 < t_5a.length := (by omega); have hc0 : decide ((k0 : Int) < ((t_5a.length : Nat) : Int)) = true := (by simp; omega); replace H := cnt_succ H; unfold l0 at H; replace H := let_hid H; obtain ⟨_, rfl, H⟩ := H; replace H := idx_hid H; obtain ⟨z10, g11, e11, m11, a11, H⟩ := H; obtain rfl : k0 = z10 := (by omega); clear e11; obtain ⟨l11, x10⟩ := own_some d10.out (by omega); subst x10; obtain ⟨n11, f11, j11, v10, r10, b11⟩ := HelpInt.Ints.at_ (own_cells d10.out) (k := k0) (by omega); obtain rfl := Option.some.inj (a11.out.symm.trans r10); simp only [Option.some.injEq, Addr.mk.injEq] at v10; obtain ⟨rfl, rfl, _⟩ := v10; clear r10; simp only [Nat.zero_add] at b11; have p11 : (0 : Int) ≤ (k0 : Int) := (by omega); have i11 : (k0 : Int) < ((t_5a.length : Nat) : Int) := (by omega); have q11 : ((k0 : Int)).toNat = k0 := (by omega); replace H := let_hid H; obtain ⟨t_26, h11, H⟩ := H; replace H := app_hid H; go_wp2_with fail
    go_roundg m0
    case measure => omega
    case rel => exact ⟨k0 + 1, _, by omega, by go_num, rfl, H, p10, c10, k10, g10, i10, h10, e10, l10, j10, f10, d10⟩
 | true =>
  have w10 : Hid (t_5a.length = 0) := Lib.hid (by have := eq_of_beq q10; omega); have d11 : (t_5a.length == 0) = true := beq_iff_eq.2 w10.out; replace H := ite_t H; cases ret_hid H; go_wp2_with fail; go_ret2; exact ⟨rfl, t10.out⟩
end Go.Proofs.Ytihibckijdfidaa.GiNeededChanges

namespace Go.Proofs.Ytihibckijdfidaa.GsNeededChanges
open Go.RowKit
open Go.Proofs.Ytihibckijdfidaa.Rowed Go.Proofs.Ytihibckijdfidaa.Turn Go.Proofs.Ytihibckijdfidaa.Aid Go.Proofs.Ytihibckijdfidaa.GoP Go.Proofs.Ytihibckijdfidaa.GoM

def l1 (t_15 : (List Int)) (one_8l0 : Int) (k1 : Nat) (s : Int) (nx1 bk1 : Int → Option (Int × Bool)) : Option (Int × Bool) :=
 letK s fun n_9l1 =>
 Option.bind (idx t_15 (k1 : Int)) fun (yt_29 : Int) =>
 Option.bind (GsL12Has.P yt_29 one_8l0) fun (t_32 : Bool) =>
 iteK t_32
 (letK (IntKind.i64.wrap (n_9l1 + 1)) fun (t_34 : Int) =>
 appK nx1 (t_34))
 (appK nx1 (n_9l1))

def e1 (t_15 : (List Int)) (nx0 : (Int × Int) → Option (Int × Bool)) (sum_7l0 : Int) (one_8l0 : Int) (s : Int) : Option (Int × Bool) :=
 letK s fun n_9l1 =>
 letK (n_9l1 == (t_15.length : Int)) fun (t_42 : Bool) =>
 iteK t_42
 (letK (IntKind.i64.wrap (sum_7l0 + one_8l0)) fun (t_45 : Int) =>
 letK (IntKind.i64.wrap (2 * one_8l0)) fun (t_48 : Int) =>
 appK nx0 (t_45, t_48))
 (letK (IntKind.i64.wrap (2 * one_8l0)) fun (t_48 : Int) =>
 appK nx0 (sum_7l0, t_48))

def l0 (t_15 : (List Int)) (s : Int × Int) (nx0 bk0 : Int × Int → Option (Int × Bool)) : Option (Int × Bool) :=
 unp2 s fun sum_7l0 one_8l0 =>
 letK (decide (one_8l0 ≤ 8)) fun (t_20 : Bool) =>
 iteK t_20
 (cntK (l1 t_15 one_8l0) (t_15.length) 0 (0) (e1 t_15 nx0 sum_7l0 one_8l0))
 (appK bk0 (sum_7l0, one_8l0))

def e0 (t_15 : (List Int)) (s : Int × Int) : Option (Int × Bool) :=
 unp2 s fun sum_7l0 one_8l0 =>
 letK ((t_15.length : Int) == 0) fun (t_52 : Bool) =>
 iteK t_52
 (some (0, false))
 (some (sum_7l0, true))

def P (fuel : Nat) (rates : (List PRate.Rate)) (x : PCover.Cover) : Option (Int × Bool) :=
 unCover x fun (x_id : Int) (x_day : Int) (x_zone : Int) (x_grams : Int) (x_paid : Int) (x_from_ : Int) (x_to_ : Int) (x_leave : Int) (x_arrive : Int) =>
 Option.bind (GsL8Good.P fuel rates) fun (t_4 : Bool) =>
 letK (!t_4) fun (t_5 : Bool) =>
 joinK (fun (t_10 : Bool) =>
 iteK t_10
 (some (0, false))
 (Option.bind (GsL12All.P fuel rates (PCover.Cover.mk x_id x_day x_zone x_grams x_paid x_from_ x_to_ x_leave x_arrive)) fun (t_15 : (List Int)) =>
 loopK (l0 t_15) fuel (0, 1) (e0 t_15))) fun jt_10 => iteK t_5 (appK jt_10 true) (Option.bind (GsL10One.P (PCover.Cover.mk x_id x_day x_zone x_grams x_paid x_from_ x_to_ x_leave x_arrive)) fun (t_8 : Bool) =>
 letK (!t_8) fun (t_9 : Bool) =>
 appK jt_10 t_9)

set_option maxRecDepth 100000 in
set_option maxHeartbeats 2000000 in
theorem C (fuel : Nat) (rates : (List PRate.Rate)) (x : PCover.Cover) (A0 : Option Addr) (c0 : Nat)  (w : World) (M0 : Hid (Cells w 5 A0 rates.length (PRate.flat rates))) (N0 : Hid (rates.length ≤ 9223372036854775807))  {r0 : Int} {r1 : Bool} (H : Hid (P fuel rates x = some (r0, r1))) :
  Calls Try.prog 35 #[.slice A0 rates.length c0, x.val] w (Gives (.tuple #[.int .i64 r0, .bool r1]) w) := by
 have HB := Lib.hid (Below.refl w.heap.size w); unfold P at H; obtain ⟨x_id, x_day, x_zone, x_grams, x_paid, x_from_, x_to_, x_leave, x_arrive⟩ := x; replace H := unCover_hid H; unfold PCover.Cover.val; have N0o := N0.out
 go_enter Try.func35, Try.ntmps35
 obtain ⟨n10, m10⟩ : ∃ x, w.alloc (.cells #[.int .i64 x_id, .int .i64 x_day, .int .i64 x_zone, .int .i64 x_grams, .int .i64 x_paid, .int .i64 x_from_, .int .i64 x_to_, .int .i64 x_leave, .int .i64 x_arrive] 30) = x := ⟨_, rfl⟩; have y10 : Below w.heap.size w n10 := (by rw [← m10]; exact (Below.refl _ _).alloc (Nat.le_refl _) _); have f11 := Lib.hid (Below.step HB.out y10); clear y10; have a10 : n10.cell? ⟨w.heap.size, 0, none⟩ = some (.int .i64 x_id) := (by rw [← m10]; exact box_new _ _ _ 0 _ rfl); have e10 : n10.cell? ⟨w.heap.size, 1, none⟩ = some (.int .i64 x_day) := (by rw [← m10]; exact box_new _ _ _ 1 _ rfl); have f10 : n10.cell? ⟨w.heap.size, 2, none⟩ = some (.int .i64 x_zone) := (by rw [← m10]; exact box_new _ _ _ 2 _ rfl); have c10 : n10.cell? ⟨w.heap.size, 3, none⟩ = some (.int .i64 x_grams) := (by rw [← m10]; exact box_new _ _ _ 3 _ rfl); have g10 : n10.cell? ⟨w.heap.size, 4, none⟩ = some (.int .i64 x_paid) := (by rw [← m10]; exact box_new _ _ _ 4 _ rfl); have h10 : n10.cell? ⟨w.heap.size, 5, none⟩ = some (.int .i64 x_from_) := (by rw [← m10]; exact box_new _ _ _ 5 _ rfl); have i10 : n10.cell? ⟨w.heap.size, 6, none⟩ = some (.int .i64 x_to_) := (by rw [← m10]; exact box_new _ _ _ 6 _ rfl); have d10 : n10.cell? ⟨w.heap.size, 7, none⟩ = some (.int .i64 x_leave) := (by rw [← m10]; exact box_new _ _ _ 7 _ rfl); have b10 : n10.cell? ⟨w.heap.size, 8, none⟩ = some (.int .i64 x_arrive) := (by rw [← m10]; exact box_new _ _ _ 8 _ rfl); replace H := bind_hid H; obtain ⟨t_4, qt_4, H⟩ := H; go_wp2_with fail; go_at_call 80; refine (GsL8Good.C fuel (rates) A0 c0 _   (Lib.hid (Cells.below M0.out f11.out)) N0 qt_4).mono ?_; rintro g12 wt_4 ⟨rfl, bt_4⟩; have d11 := Lib.hid (Below.step f11.out bt_4); replace a10 := cell_below bt_4 a10; replace e10 := cell_below bt_4 e10; replace f10 := cell_below bt_4 f10; replace c10 := cell_below bt_4 c10; replace g10 := cell_below bt_4 g10; replace h10 := cell_below bt_4 h10; replace i10 := cell_below bt_4 i10; replace d10 := cell_below bt_4 d10; replace b10 := cell_below bt_4 b10; clear bt_4
 cases t_4 with
 | false =>
  replace H := let_hid H; obtain ⟨t_5, ht_5, H⟩ := H; obtain rfl : t_5 = true := ht_5.symm; replace H := join_hid H; replace H := ite_t H; replace H := app_hid H; replace H := ite_t H; cases ret_hid H; go_wp2_with fail; go_ret2; exact ⟨rfl, d11.out⟩
 | true =>
  replace H := let_hid H; obtain ⟨t_5, ht_5, H⟩ := H; obtain rfl : t_5 = false := ht_5.symm; replace H := join_hid H; replace H := ite_f H; replace H := bind_hid H; obtain ⟨t_8, qt_8, H⟩ := H; go_wp2_with fail; go_at_call 81; refine (GsL10One.C ((PCover.Cover.mk x_id x_day x_zone x_grams x_paid x_from_ x_to_ x_leave x_arrive))  _    qt_8).mono ?_; rintro a12 wt_8 ⟨rfl, bt_8⟩; have q10 := Lib.hid (Below.step d11.out bt_8); replace a10 := cell_below bt_8 a10; replace e10 := cell_below bt_8 e10; replace f10 := cell_below bt_8 f10; replace c10 := cell_below bt_8 c10; replace g10 := cell_below bt_8 g10; replace h10 := cell_below bt_8 h10; replace i10 := cell_below bt_8 i10; replace d10 := cell_below bt_8 d10; replace b10 := cell_below bt_8 b10; clear bt_8
  cases t_8 with
  | false =>
   replace H := let_hid H; obtain ⟨t_9, ht_9, H⟩ := H; obtain rfl : t_9 = true := ht_9.symm; replace H := app_hid H; replace H := ite_t H; cases ret_hid H; go_wp2_with fail; go_ret2; exact ⟨rfl, q10.out⟩
  | true =>
   replace H := let_hid H; obtain ⟨t_9, ht_9, H⟩ := H; obtain rfl : t_9 = false := ht_9.symm; replace H := app_hid H; replace H := ite_f H; replace H := bind_hid H; obtain ⟨t_15, i11, H⟩ := H; go_wp2_with fail; go_at_call 91; refine (GsL12All.C fuel (rates) ((PCover.Cover.mk x_id x_day x_zone x_grams x_paid x_from_ x_to_ x_leave x_arrive)) A0 c0 _   (Lib.hid (Cells.below M0.out q10.out)) N0 i11).mono ?_; rintro j12 s11 ⟨b11, e11, rfl, s10, l10⟩; have y11 := Lib.hid (apart_callbox s10 a10); have j10 := Lib.hid (own_lower s10 q10.out.size); clear s10; have k11 := Lib.hid (Below.step q10.out l10); replace a10 := cell_below l10 a10; replace e10 := cell_below l10 e10; replace f10 := cell_below l10 f10; replace c10 := cell_below l10 c10; replace g10 := cell_below l10 g10; replace h10 := cell_below l10 h10; replace i10 := cell_below l10 i10; replace d10 := cell_below l10 d10; replace b10 := cell_below l10 b10; clear l10; go_wp2_with fail; go_loopg [7, 8] (fuel) (fun m_ v7_ v8_ wr => ∃ (p10 : Int) (o10 : Int), v7_ = .int .i64 p10 ∧ v8_ = .int .i64 o10 ∧ Hid (loopK (l0 t_15) m_ (p10, o10) (e0 t_15) = some (r0, r1)) ∧ Hid (Below w.heap.size w wr) ∧ wr.cell? ⟨w.heap.size, 0, none⟩ = some (.int .i64 x_id) ∧ wr.cell? ⟨w.heap.size, 1, none⟩ = some (.int .i64 x_day) ∧ wr.cell? ⟨w.heap.size, 2, none⟩ = some (.int .i64 x_zone) ∧ wr.cell? ⟨w.heap.size, 3, none⟩ = some (.int .i64 x_grams) ∧ wr.cell? ⟨w.heap.size, 4, none⟩ = some (.int .i64 x_paid) ∧ wr.cell? ⟨w.heap.size, 5, none⟩ = some (.int .i64 x_from_) ∧ wr.cell? ⟨w.heap.size, 6, none⟩ = some (.int .i64 x_to_) ∧ wr.cell? ⟨w.heap.size, 7, none⟩ = some (.int .i64 x_leave) ∧ wr.cell? ⟨w.heap.size, 8, none⟩ = some (.int .i64 x_arrive) ∧ Hid (wr.ownsRow w.heap.size 3 1 (.slice b11 t_15.length e11) t_15.length (HelpInt.iv t_15)))
   case atStart => exact ⟨_, _, rfl, rfl, H, k11, a10, e10, f10, c10, g10, h10, i10, d10, b10, j10⟩
   case round =>
    obtain ⟨p10, o10, rfl, rfl, H, v10, a10, e10, f10, c10, g10, h10, i10, d10, b10, j10⟩ := hrel; rename World => wr0
    cases gk with
    | zero => exact (loop_zero H).elim
    | succ m0 =>
     replace H := loop_succ H; unfold l0 at H; replace H := unp2_hid H; replace H := let_hid H; obtain ⟨t_20, b12, H⟩ := H
     cases t_20 with
     | false =>
      replace H := ite_f H; replace H := app_hid H; unfold e0 at H; replace H := unp2_hid H; replace H := let_hid H; obtain ⟨t_52, z10, H⟩ := H
      cases t_52 with
      | false =>
       have g11 : ¬ (t_15.length = 0) := (by have := ne_of_beq_false z10; omega); replace H := ite_f H; cases ret_hid H; go_wp2_with fail; go_ret2; exact ⟨rfl, v10.out⟩
      | true =>
       have l11 : Hid (t_15.length = 0) := Lib.hid (by have := eq_of_beq z10; omega); have g11 : (t_15.length == 0) = true := beq_iff_eq.2 l11.out; replace H := ite_t H; cases ret_hid H; go_wp2_with fail; go_ret2; exact ⟨rfl, v10.out⟩
     | true =>
      replace H := ite_t H; have hb_1 : t_15.length ≤ 9223372036854775807 := own_max j10.out; go_wp2_with fail; go_loopg [10, 9] (t_15.length) (fun m_ v10_ v9_ wr => ∃ (k1 : Nat) (r10 : Int), k1 + m_ = t_15.length ∧ v10_ = .int .i64 (k1 : Int) ∧ v9_ = .int .i64 r10 ∧ Hid (cntK (l1 t_15 o10) m_ k1 (r10) (e1 t_15 (fun s' => loopK (l0 t_15) m0 s' (e0 t_15)) p10 o10) = some (r0, r1)) ∧ Hid (Below w.heap.size w wr) ∧ wr.cell? ⟨w.heap.size, 0, none⟩ = some (.int .i64 x_id) ∧ wr.cell? ⟨w.heap.size, 1, none⟩ = some (.int .i64 x_day) ∧ wr.cell? ⟨w.heap.size, 2, none⟩ = some (.int .i64 x_zone) ∧ wr.cell? ⟨w.heap.size, 3, none⟩ = some (.int .i64 x_grams) ∧ wr.cell? ⟨w.heap.size, 4, none⟩ = some (.int .i64 x_paid) ∧ wr.cell? ⟨w.heap.size, 5, none⟩ = some (.int .i64 x_from_) ∧ wr.cell? ⟨w.heap.size, 6, none⟩ = some (.int .i64 x_to_) ∧ wr.cell? ⟨w.heap.size, 7, none⟩ = some (.int .i64 x_leave) ∧ wr.cell? ⟨w.heap.size, 8, none⟩ = some (.int .i64 x_arrive) ∧ Hid (wr.ownsRow w.heap.size 3 1 (.slice b11 t_15.length e11) t_15.length (HelpInt.iv t_15)))
      case atStart => exact ⟨0, _, by omega, rfl, rfl, H, v10, a10, e10, f10, c10, g10, h10, i10, d10, b10, j10⟩
      case round =>
       obtain ⟨k1, r10, hkm1, rfl, rfl, H, w10, a10, e10, f10, c10, g10, h10, i10, d10, b10, j10⟩ := hrel; rename World => wr1
       cases gk with
       | zero =>
        obtain rfl : k1 = t_15.length := (by omega); have hc1 : decide (((t_15.length : Nat) : Int) < ((t_15.length : Nat) : Int)) = false := (by simp); replace H := cnt_zero H; unfold e1 at H; replace H := let_hid H; obtain ⟨_, rfl, H⟩ := H; replace H := let_hid H; obtain ⟨t_42, d12, H⟩ := H
        cases t_42 with
        | false =>
         replace H := ite_f H; replace H := let_hid H; obtain ⟨t_48, h11, H⟩ := H; replace H := app_hid H; go_wp2_with fail
         go_roundg m0
         case measure => omega
         case rel => exact ⟨_, _, rfl, rfl, H, w10, a10, e10, f10, c10, g10, h10, i10, d10, b10, j10⟩
        | true =>
         replace H := ite_t H; replace H := let_hid H; obtain ⟨t_45, r11, H⟩ := H; replace H := let_hid H; obtain ⟨t_48, h11, H⟩ := H; replace H := app_hid H; go_wp2_with fail
         go_roundg m0
         case measure => omega
         case rel => exact ⟨_, _, rfl, rfl, H, w10, a10, e10, f10, c10, g10, h10, i10, d10, b10, j10⟩
       | succ m1 =>
        have hlt1 : k1 < t_15.length := (by omega); have hc1 : decide ((k1 : Int) < ((t_15.length : Nat) : Int)) = true := (by simp; omega); replace H := cnt_succ H; unfold l1 at H; replace H := let_hid H; obtain ⟨_, rfl, H⟩ := H; replace H := idx_hid H; obtain ⟨n11, q11, m11, c12, p11, H⟩ := H; obtain rfl : k1 = n11 := (by omega); clear m11; obtain ⟨v11, j11⟩ := own_some j10.out (by omega); subst j11; obtain ⟨z11, k12, f12, a11, c11, t10⟩ := HelpInt.Ints.at_ (own_cells j10.out) (k := k1) (by omega); obtain rfl := Option.some.inj (p11.out.symm.trans c11); simp only [Option.some.injEq, Addr.mk.injEq] at a11; obtain ⟨rfl, rfl, _⟩ := a11; clear c11; simp only [Nat.zero_add] at t10; have t11 : (0 : Int) ≤ (k1 : Int) := (by omega); have e12 : (k1 : Int) < ((t_15.length : Nat) : Int) := (by omega); have i12 : ((k1 : Int)).toNat = k1 := (by omega); replace H := bind_hid H; obtain ⟨t_32, o11, H⟩ := H; go_wp2_with fail; go_at_call 102; refine (GsL12Has.C (q11) (o10)  _    o11).mono ?_; rintro h12 w11 ⟨rfl, k10⟩; have x10 := Lib.hid (Below.step w10.out k10); replace a10 := cell_below k10 a10; replace e10 := cell_below k10 e10; replace f10 := cell_below k10 f10; replace c10 := cell_below k10 c10; replace g10 := cell_below k10 g10; replace h10 := cell_below k10 h10; replace i10 := cell_below k10 i10; replace d10 := cell_below k10 d10; replace b10 := cell_below k10 b10; replace t10 := cell_below k10 t10; replace j10 := Lib.hid (own_below j10.out k10); clear k10
        cases t_32 with
        | false =>
         replace H := ite_f H; replace H := app_hid H; go_wp2_with fail
         go_roundg m1
         case measure => omega
         case rel => exact ⟨k1 + 1, _, by omega, by go_num, rfl, H, x10, a10, e10, f10, c10, g10, h10, i10, d10, b10, j10⟩
        | true =>
         replace H := ite_t H; replace H := let_hid H; obtain ⟨t_34, x11, H⟩ := H; replace H := app_hid H; go_wp2_with fail
         go_roundg m1
         case measure => omega
         case rel => exact ⟨k1 + 1, _, by omega, by go_num, rfl, H, x10, a10, e10, f10, c10, g10, h10, i10, d10, b10, j10⟩
end Go.Proofs.Ytihibckijdfidaa.GsNeededChanges

namespace Go.Proofs.Ytihibckijdfidaa.Q12Least
open Go.RowKit
open Go.Proofs.Ytihibckijdfidaa.GoP Go.Proofs.Ytihibckijdfidaa.PlainStamp Go.Proofs.Ytihibckijdfidaa.QBase Go.Proofs.Ytihibckijdfidaa.Q12All Go.Proofs.Ytihibckijdfidaa.Q12Min Go.Proofs.Ytihibckijdfidaa.Q12Cost Go.Proofs.Ytihibckijdfidaa.Q12Made Go.Proofs.Ytihibckijdfidaa.Q12Cover Go.Proofs.Ytihibckijdfidaa.Q12Bits Go.Proofs.Ytihibckijdfidaa.Q8For Go.Proofs.Ytihibckijdfidaa.Q8List Go.Proofs.Ytihibckijdfidaa.Q8Rate Go.Proofs.Ytihibckijdfidaa.QFold Go.Proofs.Ytihibckijdfidaa.QCount Go.Proofs.Ytihibckijdfidaa.QUp Go.Proofs.Ytihibckijdfidaa.QLoop Go.Proofs.Ytihibckijdfidaa.PRate Go.Proofs.Ytihibckijdfidaa.PCover Go.Proofs.Ytihibckijdfidaa.PIntA4

theorem best_spec {fuel : Nat} {rs : List Rate} (h : okRs rs = true) (x : Cover) {s : IntA4} (hs : okS s = true) (hf : 100 < fuel) : GsL12Best.P fuel rs x s = some (if possV rs x = [] then (0, false) else (bestC s (possV rs x), true)) := by
  have e2 := poss_spec (fuel := fuel) h x hf
  have hlen := poss_len rs x
  have hrng := fun c hc => poss_range (rs := rs) (x := x) c hc
  generalize hl : possV rs x = l at e2 hlen hrng ⊢
  have hloop : l ≠ [] → ∀ a, l[0]? = some a → loopK (GsL12Best.l0 s.x0 s.x1 s.x2 s.x3 l) fuel (a, 1) GsL12Best.e0 = some (bestC s l, true) := by
    intro h0 a ha
    have hpos : 0 < l.length := List.length_pos_iff.2 h0
    refine lp_is (n := l.length) _ (fun k (t : Int × Int) => 1 ≤ k ∧ t = (bestC s (l.take k), (k : Int))) ?_ ?_ fuel 1 _ (by omega) (by omega) ?_
    · rintro k t nx hk ⟨h1, rfl⟩ hn
      obtain ⟨y, hy, hyi⟩ := at_lt (l := l) (k := k) hk
      have hne : l.take k ≠ [] := by intro e; have := congrArg List.length e; rw [List.length_take, List.length_nil] at this; omega
      have hb := hrng _ (List.mem_of_mem_take (bestC_mem s hne))
      have hyr := hrng y (List.mem_of_getElem? hy)
      have c1 : GsL12Cost.P y ⟨s.x0, s.x1, s.x2, s.x3⟩ = some (costV y s) := cost_spec hyr hs
      have c2 : GsL12Cost.P (bestC s (l.take k)) ⟨s.x0, s.x1, s.x2, s.x3⟩ = some (costV (bestC s (l.take k)) s) := cost_spec hb hs
      have c3 := smaller_eq hyr hb
      have hlt : (k : Int) < (l.length : Int) := by omega
      have hst := bestC_snoc s hne y
      rw [← take_next hy] at hst
      unfold minC lessC at hst
      simp only [GsL12Best.l0, unp2, letK, joinK, appK, iteK_if, decide_eq_true hlt, if_true, hyi, c1, c2, c3, Option.bind_some]
      rw [wrap_in (by omega) (by omega)]
      by_cases q1 : costV y s < costV (bestC s (l.take k)) s
      · simp only [decide_eq_true q1, if_true]
        exact hn _ ⟨by omega, by rw [hst]; simp [q1]⟩
      · by_cases q2 : costV y s = costV (bestC s (l.take k)) s
        · cases q3 : lessV y (bestC s (l.take k)) with
          | true => simp only [q2, Int.lt_irrefl, decide_false, Bool.false_eq_true, if_false, beq_self_eq_true, if_true]; exact hn _ ⟨by omega, by rw [hst]; simp [q2, q3]⟩
          | false => simp only [q2, Int.lt_irrefl, decide_false, Bool.false_eq_true, if_false, beq_self_eq_true, if_true]; exact hn _ ⟨by omega, by rw [hst]; simp [q2, q3]⟩
        · have q4 : (costV y s == costV (bestC s (l.take k)) s) = false := by simpa using q2
          simp only [decide_eq_false q1, q4, Bool.false_eq_true, if_false]
          exact hn _ ⟨by omega, by rw [hst]; simp [q1, q2]⟩
    · rintro t nx ⟨h1, rfl⟩
      have hlt : ¬ (l.length : Int) < (l.length : Int) := by omega
      rw [List.take_of_length_le (Nat.le_refl _)]
      simp only [GsL12Best.l0, unp2, letK, iteK_if, appK, decide_eq_false hlt, Bool.false_eq_true, if_false]
      rfl
    · refine ⟨by omega, ?_⟩
      rw [take_next (k := 0) ha]; rfl
  obtain ⟨a, b, e, f, g, i, j, k, m⟩ := x
  obtain ⟨s0, s1, s2, s3⟩ := s
  simp only [GsL12Best.P, unCover, unIntA4, e2, Option.bind_some, letK, iteK_if]
  by_cases h0 : l = []
  · subst h0; simp
  · have hpos : 0 < l.length := List.length_pos_iff.2 h0
    obtain ⟨y, hy, hyi⟩ := at_lt (l := l) (k := 0) hpos
    have hyi' : idx l 0 = some y := hyi
    have hz : ((l.length : Int) == 0) = false := by simpa using h0
    rw [if_neg h0]
    simp only [hz, Bool.false_eq_true, if_false, hyi', Option.bind_some]
    exact hloop h0 y hy
def leastRes (rs : List Rate) (x : Cover) : Int × Cover × Bool := if okRs rs = true ∧ okC x = true ∧ possV rs x ≠ [] then (bestC ⟨1, 1, 1, 1⟩ (possV rs x), (resC (madeV rs x (bestC ⟨1, 1, 1, 1⟩ (possV rs x)))).1, true) else (0, ⟨0, 0, 0, 0, 0, 0, 0, 0, 0⟩, false)
theorem made_best {rs : List Rate} {x : Cover} {s : IntA4} (h : possV rs x ≠ []) : (0 ≤ bestC s (possV rs x) ∧ bestC s (possV rs x) ≤ 15) ∧ ∃ y, madeV rs x (bestC s (possV rs x)) = some y := by
  have := mem_poss.1 (bestC_mem s h)
  exact ⟨this.1, Option.isSome_iff_exists.1 this.2⟩
theorem least_impl {fuel : Nat} (rs : List Rate) (x : Cover) (hr : rs.length ≤ 9223372036854775807) (hf : 100 < fuel) : GiLeastChange.P fuel rs x = some (leastRes rs x) := by
  have e1 := possible_impl rs x hr
  have e2 := fun h1 c h2 => made_impl (rs := rs) h1 x (c := c) h2
  have hlen := poss_len rs x
  have hrng := fun c hc => poss_range (rs := rs) (x := x) c hc
  have hbest := fun h => made_best (rs := rs) (x := x) (s := ⟨1, 1, 1, 1⟩) h
  obtain ⟨a, b, e, f, g, i, j, k, m⟩ := x
  simp only [GiLeastChange.P, unCover, e1, possRes, leastRes]
  cases h1 : okRs rs with
  | false => simp [bind2, letK, iteK_if]
  | true =>
    cases h2 : okC ⟨a, b, e, f, g, i, j, k, m⟩ with
    | false => simp [bind2, letK, iteK_if]
    | true =>
      by_cases h0 : possV rs ⟨a, b, e, f, g, i, j, k, m⟩ = []
      · simp [bind2, letK, iteK_if, h0]
      · obtain ⟨hb, y, hy⟩ := hbest h0
        have hz : (((possV rs ⟨a, b, e, f, g, i, j, k, m⟩).length : Int) == 0) = false := by simpa using h0
        have e3 := min_ch hrng h0 (by omega) fuel (by omega)
        simp [bind2, letK, iteK_if, h0, e3, e2 h1 _ hb, hy, resC, unCover]
theorem least_spec {fuel : Nat} (rs : List Rate) (x : Cover) (hr : rs.length ≤ 9223372036854775807) (hf : 100 < fuel) : GsLeastChange.P fuel rs x = some (leastRes rs x) := by
  have e1 := l10One_eq x
  have e2 := fun h1 c h2 => make_spec (rs := rs) (fuel := fuel) h1 x (c := c) h2 hf
  have e4 := fun h1 => best_spec (fuel := fuel) (rs := rs) h1 x okOnes hf
  have hbest := fun h => made_best (rs := rs) (x := x) (s := ⟨1, 1, 1, 1⟩) h
  obtain ⟨a, b, e, f, g, i, j, k, m⟩ := x
  simp only [GsLeastChange.P, unCover, l8Good_eq rs hr (show 17 < fuel by omega), e1, Option.bind_some, letK, joinK, appK, iteK_if, leastRes]
  cases h1 : okRs rs with
  | false => simp
  | true =>
    cases h2 : okC ⟨a, b, e, f, g, i, j, k, m⟩ with
    | false => simp
    | true =>
      by_cases h0 : possV rs ⟨a, b, e, f, g, i, j, k, m⟩ = []
      · simp [e4 h1, bind2, h0]
      · obtain ⟨hb, y, hy⟩ := hbest h0
        simp [e4 h1, bind2, h0, e2 h1 _ hb, hy, resC]
def cheapRes (rs : List Rate) (x : Cover) (s : IntA4) : Int × Int × Bool := if okRs rs = true ∧ okC x = true ∧ okS s = true ∧ possV rs x ≠ [] then (bestC s (possV rs x), costV (bestC s (possV rs x)) s, true) else (0, 0, false)
theorem cheap_impl {fuel : Nat} (rs : List Rate) (x : Cover) (s : IntA4) (hr : rs.length ≤ 9223372036854775807) (hf : 100 < fuel) : GiCheapestChange.P fuel rs x s = some (cheapRes rs x s) := by
  have e1 := possible_impl rs x hr
  have e5 := areCosts_eq s
  have hlen := poss_len rs x
  have hrng := fun c hc => poss_range (rs := rs) (x := x) c hc
  have hbest := fun h => made_best (rs := rs) (x := x) (s := s) h
  have e3 := fun h0 hs => min_cost (c := s) hrng h0 (by omega) hs fuel (by omega)
  have e6 := fun c hc hs => cost_impl (c := c) hc (s := s) hs
  obtain ⟨a, b, e, f, g, i, j, k, m⟩ := x
  obtain ⟨s0, s1, s2, s3⟩ := s
  simp only [GiCheapestChange.P, unCover, unIntA4, e1, e5, possRes, cheapRes]
  cases h1 : okRs rs with
  | false => simp [bind2, letK, iteK_if, joinK, appK]
  | true =>
    cases h2 : okC ⟨a, b, e, f, g, i, j, k, m⟩ with
    | false => simp [bind2, letK, iteK_if, joinK, appK]
    | true =>
      by_cases h0 : possV rs ⟨a, b, e, f, g, i, j, k, m⟩ = []
      · simp [bind2, letK, iteK_if, joinK, appK, h0]
      · cases hs : okS ⟨s0, s1, s2, s3⟩ with
        | false => simp [bind2, letK, iteK_if, joinK, appK, h0]
        | true =>
          obtain ⟨hb, y, hy⟩ := hbest h0
          simp [bind2, letK, iteK_if, joinK, appK, h0, e3 h0 hs, e6 _ hb hs]
theorem cheap_spec {fuel : Nat} (rs : List Rate) (x : Cover) (s : IntA4) (hr : rs.length ≤ 9223372036854775807) (hf : 100 < fuel) : GsCheapestChange.P fuel rs x s = some (cheapRes rs x s) := by
  have e1 := l10One_eq x
  have e4 := fun h1 hs => best_spec (fuel := fuel) (rs := rs) h1 x (s := s) hs hf
  have hbest := fun h => made_best (rs := rs) (x := x) (s := s) h
  have e6 := fun c hc hs => cost_spec (c := c) hc (s := s) hs
  obtain ⟨a, b, e, f, g, i, j, k, m⟩ := x
  obtain ⟨s0, s1, s2, s3⟩ := s
  have i0 : idx [s0, s1, s2, s3] ((0 : Nat) : Int) = some s0 := rfl
  have i1 : idx [s0, s1, s2, s3] ((1 : Nat) : Int) = some s1 := rfl
  have i2 : idx [s0, s1, s2, s3] ((2 : Nat) : Int) = some s2 := rfl
  have i3 : idx [s0, s1, s2, s3] ((3 : Nat) : Int) = some s3 := rfl
  have hend : okS ⟨s0, s1, s2, s3⟩ = true → GsCheapestChange.e0 rs a b e f g i j k m s0 s1 s2 s3 fuel () = some (cheapRes rs ⟨a, b, e, f, g, i, j, k, m⟩ ⟨s0, s1, s2, s3⟩) := by
    intro hs
    simp only [GsCheapestChange.e0, l8Good_eq rs hr (show 17 < fuel by omega), e1, Option.bind_some, letK, joinK, appK, iteK_if, cheapRes]
    cases h1 : okRs rs with
    | false => simp
    | true =>
      cases h2 : okC ⟨a, b, e, f, g, i, j, k, m⟩ with
      | false => simp
      | true =>
        by_cases h0 : possV rs ⟨a, b, e, f, g, i, j, k, m⟩ = []
        · simp [e4 h1 hs, bind2, h0]
        · obtain ⟨hb, y, hy⟩ := hbest h0
          simp [e4 h1 hs, bind2, h0, hs, e6 _ hb hs]
  have hno : okS ⟨s0, s1, s2, s3⟩ = false → cheapRes rs ⟨a, b, e, f, g, i, j, k, m⟩ ⟨s0, s1, s2, s3⟩ = (0, 0, false) := by
    intro hs; unfold cheapRes; rw [if_neg (by rw [hs]; simp)]
  simp only [GsCheapestChange.P, unCover, unIntA4, cntK, GsCheapestChange.l0, Nat.zero_add, Nat.reduceAdd, i0, i1, i2, i3, l1In_eq, Option.bind_some, letK, appK, iteK_if]
  unfold okS at hend hno
  dsimp only at hend hno
  cases h0 : inB s0 0 1000 with
  | false => rw [hno (by simp [h0])]; simp
  | true =>
    cases h1 : inB s1 0 1000 with
    | false => rw [hno (by simp [h1])]; simp
    | true =>
      cases h2 : inB s2 0 1000 with
      | false => rw [hno (by simp [h2])]; simp
      | true =>
        cases h3 : inB s3 0 1000 with
        | false => rw [hno (by simp [h3])]; simp
        | true => rw [hend (by simp [h0, h1, h2, h3])]; simp
/-- the sum of the numbers that are in all changes of a list -/
def neededV (l : List Int) : Int := sumB (l.all fun c => hb c 0) (l.all fun c => hb c 1) (l.all fun c => hb c 2) (l.all fun c => hb c 3)
theorem fold_and {l : List Int} (hl : ∀ c ∈ l, 0 ≤ c ∧ c ≤ 15) : ∀ m : Int, 0 ≤ m ∧ m ≤ 15 → l.foldl (fun m c => bits .and IntKind.i64 m c) m = sumB (hb m 0 && l.all fun c => hb c 0) (hb m 1 && l.all fun c => hb c 1) (hb m 2 && l.all fun c => hb c 2) (hb m 3 && l.all fun c => hb c 3) := by
  induction l with
  | nil => intro m hm; simp only [List.foldl_nil, List.all_nil, Bool.and_true]; exact (sum_hb hm).symm
  | cons x l ih =>
    intro m hm
    obtain ⟨h1, h2, h3, h4, h5⟩ := both_eq hm (hl x (by simp))
    rw [List.foldl_cons, ih (fun c hc => hl c (List.mem_cons_of_mem _ hc)) _ h1, h2, h3, h4, h5]
    simp only [List.all_cons, Bool.and_assoc]
def needRes (rs : List Rate) (x : Cover) : Int × Bool := if okRs rs = true ∧ okC x = true ∧ possV rs x ≠ [] then (neededV (possV rs x), true) else (0, false)
theorem need_impl (rs : List Rate) (x : Cover) (hr : rs.length ≤ 9223372036854775807) : GiNeededChanges.P rs x = some (needRes rs x) := by
  have e1 := possible_impl rs x hr
  have hrng := fun c hc => poss_range (rs := rs) (x := x) c hc
  have hfold : ∀ l : List Int, (∀ c ∈ l, 0 ≤ c ∧ c ≤ 15) → cntK (GiNeededChanges.l0 l) l.length 0 15 GiNeededChanges.e0 = some (neededV l, true) := by
    intro l hl
    rw [fold_loop (g := fun m c => bits .and IntKind.i64 m c)]
    · rw [fold_and hl 15 (by omega)]; rfl
    · intro k nx c s hc
      have hi : idx l (k : Int) = some c := by rw [idx_nat, hc]
      simp only [GiNeededChanges.l0, hi, Option.bind_some, letK, appK]
  obtain ⟨a, b, e, f, g, i, j, k, m⟩ := x
  simp only [GiNeededChanges.P, unCover, e1, possRes, needRes]
  cases h1 : okRs rs with
  | false => simp [bind2, letK, iteK_if]
  | true =>
    cases h2 : okC ⟨a, b, e, f, g, i, j, k, m⟩ with
    | false => simp [bind2, letK, iteK_if]
    | true =>
      by_cases h0 : possV rs ⟨a, b, e, f, g, i, j, k, m⟩ = []
      · simp [bind2, letK, iteK_if, h0]
      · simp [bind2, letK, iteK_if, h0, hfold _ hrng]
theorem len_all {α : Type} (l : List α) (p : α → Bool) : (((l.filter p).length : Int) == (l.length : Int)) = l.all p := by
  rw [Bool.eq_iff_iff, beq_iff_eq, List.all_eq_true]
  constructor
  · intro h x hx
    have : (l.filter p).length = l.length := by omega
    rw [List.length_filter_eq_length_iff] at this
    exact this x hx
  · intro h
    rw [List.length_filter_eq_length_iff.2 h]
theorem need_spec {fuel : Nat} (rs : List Rate) (x : Cover) (hr : rs.length ≤ 9223372036854775807) (hf : 100 < fuel) : GsNeededChanges.P fuel rs x = some (needRes rs x) := by
  have e1 := l10One_eq x
  have e2 := fun h1 => poss_spec (rs := rs) h1 x hf
  have hrng := fun c hc => poss_range (rs := rs) (x := x) c hc
  have hlen := poss_len rs x
  have hloop : ∀ l : List Int, (∀ c ∈ l, 0 ≤ c ∧ c ≤ 15) → l.length ≤ 16 → loopK (GsNeededChanges.l0 l) fuel (0, 1) (GsNeededChanges.e0 l) = if l = [] then some (0, false) else some (neededV l, true) := by
    intro l hl h16
    have round : ∀ (i : Nat) (one sum : Int) nx, one ≤ 8 → 0 ≤ one → 0 ≤ sum ∧ sum ≤ 100 → (∀ c, 0 ≤ c ∧ c ≤ 15 → GsL12Has.P c one = some (hb c i)) → GsNeededChanges.l0 l (sum, one) nx (GsNeededChanges.e0 l) = nx (sum + (if (l.all fun c => hb c i) = true then one else 0), 2 * one) := by
      intro i one sum nx h1 h2 h3 hhas
      simp only [GsNeededChanges.l0, unp2, letK, iteK_if, decide_eq_true h1, if_true]
      rw [count_list (p := fun c => hb c i)]
      · simp only [GsNeededChanges.e1, letK, iteK_if, len_all, appK]
        rw [wrap_in (x := 2 * one) (by omega) (by omega)]
        cases l.all fun c => hb c i with
        | true => simp only [if_true]; rw [wrap_in (by omega) (by omega)]
        | false => simp
      · intro k nx c s hc hs
        have hi : idx l (k : Int) = some c := by rw [idx_nat, hc]
        have hk := (List.getElem?_eq_some_iff.1 hc).1
        simp only [GsNeededChanges.l1, hi, hhas c (hl c (List.mem_of_getElem? hc)), Option.bind_some, letK, iteK_if, appK]
        rw [wrap_in (by omega) (by omega)]
        cases hb c i <;> simp
    obtain ⟨f, rfl⟩ : ∃ f, fuel = f + 5 := ⟨fuel - 5, by omega⟩
    have hb01 : ∀ (b : Bool) (n : Int), 0 ≤ n → n ≤ 8 → 0 ≤ (if b = true then n else 0) ∧ (if b = true then n else 0) ≤ 8 := by intro b n h1 h2; cases b <;> simp <;> omega
    have q0 := hb01 (l.all fun c => hb c 0) 1 (by omega) (by omega)
    have q1 := hb01 (l.all fun c => hb c 1) 2 (by omega) (by omega)
    have q2 := hb01 (l.all fun c => hb c 2) 4 (by omega) (by omega)
    show GsNeededChanges.l0 l (0, 1) (fun s => loopK (GsNeededChanges.l0 l) (f + 4) s (GsNeededChanges.e0 l)) (GsNeededChanges.e0 l) = _
    rw [round 0 1 0 _ (by omega) (by omega) (by omega) (fun c hc => (has_eq hc).1)]
    show GsNeededChanges.l0 l (_, 2) (fun s => loopK (GsNeededChanges.l0 l) (f + 3) s (GsNeededChanges.e0 l)) (GsNeededChanges.e0 l) = _
    rw [round 1 2 _ _ (by omega) (by omega) (by omega) (fun c hc => (has_eq hc).2.1)]
    show GsNeededChanges.l0 l (_, 4) (fun s => loopK (GsNeededChanges.l0 l) (f + 2) s (GsNeededChanges.e0 l)) (GsNeededChanges.e0 l) = _
    rw [round 2 4 _ _ (by omega) (by omega) (by omega) (fun c hc => (has_eq hc).2.2.1)]
    show GsNeededChanges.l0 l (_, 8) (fun s => loopK (GsNeededChanges.l0 l) (f + 1) s (GsNeededChanges.e0 l)) (GsNeededChanges.e0 l) = _
    rw [round 3 8 _ _ (by omega) (by omega) (by omega) (fun c hc => (has_eq hc).2.2.2)]
    show GsNeededChanges.l0 l (_, 16) (fun s => loopK (GsNeededChanges.l0 l) f s (GsNeededChanges.e0 l)) (GsNeededChanges.e0 l) = _
    have hno : decide ((16 : Int) ≤ 8) = false := by decide
    simp only [GsNeededChanges.l0, unp2, letK, iteK_if, hno, Bool.false_eq_true, if_false, appK, GsNeededChanges.e0]
    by_cases h0 : l = []
    · subst h0; simp
    · have hz : ((l.length : Int) == 0) = false := by simpa using h0
      rw [if_neg h0]
      simp only [hz, Bool.false_eq_true, if_false, neededV, sumB, Int.zero_add]
  obtain ⟨a, b, e, f, g, i, j, k, m⟩ := x
  simp only [GsNeededChanges.P, unCover, l8Good_eq rs hr (show 17 < fuel by omega), e1, Option.bind_some, letK, joinK, appK, iteK_if, needRes]
  cases h1 : okRs rs with
  | false => simp
  | true =>
    cases h2 : okC ⟨a, b, e, f, g, i, j, k, m⟩ with
    | false => simp
    | true =>
      have hx := hloop _ hrng hlen
      simp only [e2 h1, Option.bind_some, Bool.not_true, Bool.false_eq_true, if_false, hx]
      by_cases h0 : possV rs ⟨a, b, e, f, g, i, j, k, m⟩ = []
      · simp [h0]
      · simp [h0]
end Go.Proofs.Ytihibckijdfidaa.Q12Least

