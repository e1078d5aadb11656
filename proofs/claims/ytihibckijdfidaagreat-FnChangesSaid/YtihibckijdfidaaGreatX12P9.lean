/- Texts on which the proofs of several laws stand, one behind the other (9 of 17). No condition of their own. -/
import Derived.Test.YtihibckijdfidaaGreatChecked
import Derived.Test.YtihibckijdfidaaGreatX12P1
import Derived.Test.YtihibckijdfidaaGreatX12P6
import Derived.Test.YtihibckijdfidaaGreatX12P8
import Derived.WalkKit
import Derived.WalkSpells
import Derived.WalkLawsBesides
import Derived.BigQuiet
import Derived.OwnWalk
import Derived.Deep.LoopGhost
import Derived.Deep.QuietTactic
import Derived.IntWalk
import Derived.Lib.QuietBelow
import Derived.Test.YtihibckijdfidaaGreatX12P5
set_option linter.unusedVariables false
set_option linter.unusedSimpArgs false
namespace Go.Proofs.YtihibckijdfidaaGreat.GiPossibleChanges
open Go.RowKit
open Go.Proofs.YtihibckijdfidaaGreat.Rowed Go.Proofs.YtihibckijdfidaaGreat.Turn Go.Proofs.YtihibckijdfidaaGreat.Aid Go.Proofs.YtihibckijdfidaaGreat.GoP Go.Proofs.YtihibckijdfidaaGreat.GoM

def P (rates : (List PRate.Rate)) (x : PCover.Cover) : Option ((List Int) × Bool) :=
 unCover x fun (x_id : Int) (x_day : Int) (x_zone : Int) (x_grams : Int) (x_paid : Int) (x_from_ : Int) (x_to_ : Int) (x_leave : Int) (x_arrive : Int) =>
 Option.bind (GiCanExplain.P rates (PCover.Cover.mk x_id x_day x_zone x_grams x_paid x_from_ x_to_ x_leave x_arrive)) fun (t_5 : Bool) =>
 letK (!t_5) fun (t_6 : Bool) =>
 iteK t_6
 (some (([] : List Int), false))
 (Option.bind (GiLoPossibleChanges.P rates (PCover.Cover.mk x_id x_day x_zone x_grams x_paid x_from_ x_to_ x_leave x_arrive)) fun (t_12 : (List Int)) =>
 some (t_12, true))

set_option maxRecDepth 100000 in
set_option maxHeartbeats 2000000 in
theorem C (rates : (List PRate.Rate)) (x : PCover.Cover) (A0 : Option Addr) (c0 : Nat)  (w : World) (M0 : Hid (Cells w 5 A0 rates.length (PRate.flat rates))) (N0 : Hid (rates.length ≤ 9223372036854775807))  {r0 : (List Int)} {r1 : Bool} (H : Hid (P rates x = some (r0, r1))) :
  Calls Tryz.prog 9 #[.slice A0 rates.length c0, x.val] w (fun e w' => ∃ A_r0 c_r0, e = .returned (.tuple #[.slice A_r0 r0.length c_r0, .bool r1]) ∧ w'.ownsRow w.heap.size 3 1 (.slice A_r0 r0.length c_r0) r0.length (HelpInt.iv r0) ∧ Below w.heap.size w w') := by
 have HB := Lib.hid (Below.refl w.heap.size w); unfold P at H; obtain ⟨x_id, x_day, x_zone, x_grams, x_paid, x_from_, x_to_, x_leave, x_arrive⟩ := x; replace H := unCover_hid H; unfold PCover.Cover.val; have N0o := N0.out
 go_enter Tryz.func9, Tryz.ntmps9
 obtain ⟨c10, d10⟩ : ∃ x, w.alloc (.cells #[.int .i64 x_id, .int .i64 x_day, .int .i64 x_zone, .int .i64 x_grams, .int .i64 x_paid, .int .i64 x_from_, .int .i64 x_to_, .int .i64 x_leave, .int .i64 x_arrive] 26) = x := ⟨_, rfl⟩; have s10 : Below w.heap.size w c10 := (by rw [← d10]; exact (Below.refl _ _).alloc (Nat.le_refl _) _); have p10 := Lib.hid (Below.step HB.out s10); clear s10; have e10 : c10.cell? ⟨w.heap.size, 0, none⟩ = some (.int .i64 x_id) := (by rw [← d10]; exact box_new _ _ _ 0 _ rfl); have k10 : c10.cell? ⟨w.heap.size, 1, none⟩ = some (.int .i64 x_day) := (by rw [← d10]; exact box_new _ _ _ 1 _ rfl); have f10 : c10.cell? ⟨w.heap.size, 2, none⟩ = some (.int .i64 x_zone) := (by rw [← d10]; exact box_new _ _ _ 2 _ rfl); have n10 : c10.cell? ⟨w.heap.size, 3, none⟩ = some (.int .i64 x_grams) := (by rw [← d10]; exact box_new _ _ _ 3 _ rfl); have g10 : c10.cell? ⟨w.heap.size, 4, none⟩ = some (.int .i64 x_paid) := (by rw [← d10]; exact box_new _ _ _ 4 _ rfl); have h10 : c10.cell? ⟨w.heap.size, 5, none⟩ = some (.int .i64 x_from_) := (by rw [← d10]; exact box_new _ _ _ 5 _ rfl); have m10 : c10.cell? ⟨w.heap.size, 6, none⟩ = some (.int .i64 x_to_) := (by rw [← d10]; exact box_new _ _ _ 6 _ rfl); have i10 : c10.cell? ⟨w.heap.size, 7, none⟩ = some (.int .i64 x_leave) := (by rw [← d10]; exact box_new _ _ _ 7 _ rfl); have j10 : c10.cell? ⟨w.heap.size, 8, none⟩ = some (.int .i64 x_arrive) := (by rw [← d10]; exact box_new _ _ _ 8 _ rfl); replace H := bind_hid H; obtain ⟨t_5, qt_5, H⟩ := H; go_wp2_with fail; go_at_call 38; refine (GiCanExplain.C (rates) ((PCover.Cover.mk x_id x_day x_zone x_grams x_paid x_from_ x_to_ x_leave x_arrive)) A0 c0 _   (Lib.hid (Cells.below M0.out p10.out)) N0 qt_5).mono ?_; rintro e11 wt_5 ⟨rfl, bt_5⟩; have l10 := Lib.hid (Below.step p10.out bt_5); replace e10 := cell_below bt_5 e10; replace k10 := cell_below bt_5 k10; replace f10 := cell_below bt_5 f10; replace n10 := cell_below bt_5 n10; replace g10 := cell_below bt_5 g10; replace h10 := cell_below bt_5 h10; replace m10 := cell_below bt_5 m10; replace i10 := cell_below bt_5 i10; replace j10 := cell_below bt_5 j10; clear bt_5
 cases t_5 with
 | false =>
  replace H := let_hid H; obtain ⟨t_6, ht_6, H⟩ := H; obtain rfl : t_6 = true := ht_6.symm; replace H := ite_t H; obtain ⟨q10, r10⟩ : ∃ x, wt_5.alloc (.cells #[] 3) = x := ⟨_, rfl⟩; have a10 : Below wt_5.heap.size wt_5 q10 := (by rw [← r10]; exact (Below.refl _ _).alloc (Nat.le_refl _) _); have Ot_7 : Hid (q10.ownsRow w.heap.size 3 1 (.slice (some ⟨wt_5.heap.size, 0, none⟩) 0 0) 0 []) := Lib.hid (by rw [← r10]; exact own_empty l10.out.size); have j11 := Lib.hid (apart_box e10); have y10 := Lib.hid (Below.step l10.out a10); have k11 := cell_below a10 e10; have f11 := cell_below a10 k10; have b11 := cell_below a10 f10; have i11 := cell_below a10 n10; have a11 := cell_below a10 g10; have m11 := cell_below a10 h10; have d11 := cell_below a10 m10; have l11 := cell_below a10 i10; have c11 := cell_below a10 j10; clear a10; cases ret_hid H; go_wp2_with fail; go_ret2; exact ⟨(some ⟨wt_5.heap.size, 0, none⟩), 0, rfl, Ot_7.out, y10.out⟩
 | true =>
  replace H := let_hid H; obtain ⟨t_6, ht_6, H⟩ := H; obtain rfl : t_6 = false := ht_6.symm; replace H := ite_f H; replace H := bind_hid H; obtain ⟨t_12, z10, H⟩ := H; go_wp2_with fail; go_at_call 39; refine (GiLoPossibleChanges.C (rates) ((PCover.Cover.mk x_id x_day x_zone x_grams x_paid x_from_ x_to_ x_leave x_arrive)) A0 c0 _   (Lib.hid (Cells.below M0.out l10.out)) N0 z10).mono ?_; rintro n11 g11 ⟨v10, t10, rfl, o10, b10⟩; have h11 := Lib.hid (apart_callbox o10 e10); have x10 := Lib.hid (own_lower o10 l10.out.size); clear o10; have w10 := Lib.hid (Below.step l10.out b10); replace e10 := cell_below b10 e10; replace k10 := cell_below b10 k10; replace f10 := cell_below b10 f10; replace n10 := cell_below b10 n10; replace g10 := cell_below b10 g10; replace h10 := cell_below b10 h10; replace m10 := cell_below b10 m10; replace i10 := cell_below b10 i10; replace j10 := cell_below b10 j10; clear b10; cases ret_hid H; go_wp2_with fail; go_ret2; exact ⟨v10, t10, rfl, x10.out, w10.out⟩
end Go.Proofs.YtihibckijdfidaaGreat.GiPossibleChanges

namespace Go.Proofs.YtihibckijdfidaaGreat.GxMathBitsOnesCount64
open Go.RowKit
open Go.Proofs.YtihibckijdfidaaGreat.Rowed Go.Proofs.YtihibckijdfidaaGreat.Turn Go.Proofs.YtihibckijdfidaaGreat.Aid Go.Proofs.YtihibckijdfidaaGreat.GoP Go.Proofs.YtihibckijdfidaaGreat.GoM

def P (x : Int) : Option (Int) :=
  letK (x / 2) fun (t_2 : Int) =>
  letK (bits .and IntKind.u64 t_2 6148914691236517205) fun (t_3 : Int) =>
  letK (bits .and IntKind.u64 x 6148914691236517205) fun (t_5 : Int) =>
  letK (IntKind.u64.wrap (t_3 + t_5)) fun (t_6 : Int) =>
  letK (t_6 / 4) fun (t_9 : Int) =>
  letK (bits .and IntKind.u64 t_9 3689348814741910323) fun (t_10 : Int) =>
  letK (bits .and IntKind.u64 t_6 3689348814741910323) fun (t_12 : Int) =>
  letK (IntKind.u64.wrap (t_10 + t_12)) fun (t_13 : Int) =>
  letK (t_13 / 16) fun (t_16 : Int) =>
  letK (IntKind.u64.wrap (t_16 + t_13)) fun (t_18 : Int) =>
  letK (bits .and IntKind.u64 t_18 1085102592571150095) fun (t_19 : Int) =>
  letK (t_19 / 256) fun (t_23 : Int) =>
  letK (IntKind.u64.wrap (t_19 + t_23)) fun (t_24 : Int) =>
  letK (t_24 / 65536) fun (t_28 : Int) =>
  letK (IntKind.u64.wrap (t_24 + t_28)) fun (t_29 : Int) =>
  letK (t_29 / 4294967296) fun (t_33 : Int) =>
  letK (IntKind.u64.wrap (t_29 + t_33)) fun (t_34 : Int) =>
  letK (IntKind.i64.wrap t_34) fun (t_37 : Int) =>
  letK (bits .and IntKind.i64 t_37 127) fun (t_38 : Int) =>
  some t_38

set_option maxRecDepth 100000 in
set_option maxHeartbeats 2000000 in
theorem C (x : Int)   (w : World)   {r : Int} (H : Hid (P x = some r)) :
    Calls Tryz.prog 92 #[.int .u64 x] w (Gives (.int .i64 r) w) := by
  have HB := Lib.hid (Below.refl w.heap.size w)
  unfold P at H
  go_enter Tryz.func92, Tryz.ntmps92
  replace H := let_hid H
  obtain ⟨t_2, ht_2, H⟩ := H
  replace H := let_hid H
  obtain ⟨t_3, ht_3, H⟩ := H
  replace H := let_hid H
  obtain ⟨t_5, ht_5, H⟩ := H
  replace H := let_hid H
  obtain ⟨t_6, ht_6, H⟩ := H
  replace H := let_hid H
  obtain ⟨t_9, ht_9, H⟩ := H
  replace H := let_hid H
  obtain ⟨t_10, ht_10, H⟩ := H
  replace H := let_hid H
  obtain ⟨t_12, ht_12, H⟩ := H
  replace H := let_hid H
  obtain ⟨t_13, ht_13, H⟩ := H
  replace H := let_hid H
  obtain ⟨t_16, ht_16, H⟩ := H
  replace H := let_hid H
  obtain ⟨t_18, ht_18, H⟩ := H
  replace H := let_hid H
  obtain ⟨t_19, ht_19, H⟩ := H
  replace H := let_hid H
  obtain ⟨t_23, ht_23, H⟩ := H
  replace H := let_hid H
  obtain ⟨t_24, ht_24, H⟩ := H
  replace H := let_hid H
  obtain ⟨t_28, ht_28, H⟩ := H
  replace H := let_hid H
  obtain ⟨t_29, ht_29, H⟩ := H
  replace H := let_hid H
  obtain ⟨t_33, ht_33, H⟩ := H
  replace H := let_hid H
  obtain ⟨t_34, ht_34, H⟩ := H
  replace H := let_hid H
  obtain ⟨t_37, ht_37, H⟩ := H
  replace H := let_hid H
  obtain ⟨t_38, ht_38, H⟩ := H
  obtain rfl := ret_hid H
  go_wp2_with fail
  go_ret
  exact ⟨rfl, HB.out⟩

set_option maxRecDepth 100000 in
set_option maxHeartbeats 2000000 in
theorem C0 (x : Int)   (w : World)   {r : Int} (H : Hid (P x = some r)) :
    Calls Tryz.prog 92 #[.int .u64 x] w (fun e w'' => e = .returned (.int .i64 r) ∧ w'' = w) := by
  have HB := Lib.hid (Below.refl w.heap.size w)
  unfold P at H
  go_enter Tryz.func92, Tryz.ntmps92
  replace H := let_hid H
  obtain ⟨t_2, ht_2, H⟩ := H
  replace H := let_hid H
  obtain ⟨t_3, ht_3, H⟩ := H
  replace H := let_hid H
  obtain ⟨t_5, ht_5, H⟩ := H
  replace H := let_hid H
  obtain ⟨t_6, ht_6, H⟩ := H
  replace H := let_hid H
  obtain ⟨t_9, ht_9, H⟩ := H
  replace H := let_hid H
  obtain ⟨t_10, ht_10, H⟩ := H
  replace H := let_hid H
  obtain ⟨t_12, ht_12, H⟩ := H
  replace H := let_hid H
  obtain ⟨t_13, ht_13, H⟩ := H
  replace H := let_hid H
  obtain ⟨t_16, ht_16, H⟩ := H
  replace H := let_hid H
  obtain ⟨t_18, ht_18, H⟩ := H
  replace H := let_hid H
  obtain ⟨t_19, ht_19, H⟩ := H
  replace H := let_hid H
  obtain ⟨t_23, ht_23, H⟩ := H
  replace H := let_hid H
  obtain ⟨t_24, ht_24, H⟩ := H
  replace H := let_hid H
  obtain ⟨t_28, ht_28, H⟩ := H
  replace H := let_hid H
  obtain ⟨t_29, ht_29, H⟩ := H
  replace H := let_hid H
  obtain ⟨t_33, ht_33, H⟩ := H
  replace H := let_hid H
  obtain ⟨t_34, ht_34, H⟩ := H
  replace H := let_hid H
  obtain ⟨t_37, ht_37, H⟩ := H
  replace H := let_hid H
  obtain ⟨t_38, ht_38, H⟩ := H
  obtain rfl := ret_hid H
  go_wp2_with fail
  go_ret
  exact ⟨rfl, rfl⟩
end Go.Proofs.YtihibckijdfidaaGreat.GxMathBitsOnesCount64

namespace Go.Proofs.YtihibckijdfidaaGreat.GxMathBitsOnesCount
open Go.RowKit
open Go.Proofs.YtihibckijdfidaaGreat.Rowed Go.Proofs.YtihibckijdfidaaGreat.Turn Go.Proofs.YtihibckijdfidaaGreat.Aid Go.Proofs.YtihibckijdfidaaGreat.GoP Go.Proofs.YtihibckijdfidaaGreat.GoM

def P (x : Int) : Option (Int) :=
  Option.bind (Go.Proofs.YtihibckijdfidaaGreat.GxMathBitsOnesCount64.P x) fun (t_6 : Int) =>
  some t_6

set_option maxRecDepth 100000 in
set_option maxHeartbeats 2000000 in
theorem C (x : Int)   (w : World)   {r : Int} (H : Hid (P x = some r)) :
    Calls Tryz.prog 64 #[.int .u64 x] w (Gives (.int .i64 r) w) := by
  have HB := Lib.hid (Below.refl w.heap.size w)
  unfold P at H
  go_enter Tryz.func64, Tryz.ntmps64
  replace H := bind_hid H
  obtain ⟨t_6, qt_6, H⟩ := H
  go_wp2_with fail
  go_at_call 92
  refine (Go.Proofs.YtihibckijdfidaaGreat.GxMathBitsOnesCount64.C (x)  _    qt_6).mono ?_
  rintro e_t_6 wt_6 ⟨rfl, bt_6⟩
  have HBwt_6 := Lib.hid (Below.step HB.out bt_6)
  clear bt_6
  obtain rfl := ret_hid H
  go_wp2_with fail
  go_ret
  exact ⟨rfl, HBwt_6.out⟩
end Go.Proofs.YtihibckijdfidaaGreat.GxMathBitsOnesCount

namespace Go.Proofs.YtihibckijdfidaaGreat.GiCompareChanges
open Go.RowKit
open Go.Proofs.YtihibckijdfidaaGreat.Rowed Go.Proofs.YtihibckijdfidaaGreat.Turn Go.Proofs.YtihibckijdfidaaGreat.Aid Go.Proofs.YtihibckijdfidaaGreat.GoP Go.Proofs.YtihibckijdfidaaGreat.GoM

def P (a : Int) (b : Int) : Option (Int) :=
 letK (IntKind.u64.wrap a) fun (t_2 : Int) =>
 Option.bind (GxMathBitsOnesCount.P t_2) fun (t_3 : Int) =>
 letK (IntKind.u64.wrap b) fun (t_5 : Int) =>
 Option.bind (GxMathBitsOnesCount.P t_5) fun (t_6 : Int) =>
 Option.bind (GxCmpCompareInt.P t_3 t_6) fun (t_7 : Int) =>
 Option.bind (GxCmpCompareInt.P a b) fun (t_10 : Int) =>
 letK ([t_7, t_10]) fun (t_11 : (List Int)) =>
 Option.bind (GxCmpOrInt.P t_11) fun (t_12 : Int) =>
 some t_12

set_option maxRecDepth 100000 in
set_option maxHeartbeats 2000000 in
theorem C (a : Int) (b : Int)   (w : World)   {r : Int} (H : Hid (P a b = some r)) :
  Calls Tryz.prog 32 #[.int .i64 a, .int .i64 b] w (Gives (.int .i64 r) w) := by
 have HB := Lib.hid (Below.refl w.heap.size w); unfold P at H
 go_enter Tryz.func32, Tryz.ntmps32
 replace H := let_hid H; obtain ⟨t_2, ht_2, H⟩ := H; replace H := bind_hid H; obtain ⟨t_3, qt_3, H⟩ := H; go_wp2_with fail; go_at_call 64; refine (GxMathBitsOnesCount.C (t_2)  _    qt_3).mono ?_; rintro s10 wt_3 ⟨rfl, bt_3⟩; have n10 := Lib.hid (Below.step HB.out bt_3); clear bt_3; replace H := let_hid H; obtain ⟨t_5, ht_5, H⟩ := H; replace H := bind_hid H; obtain ⟨t_6, qt_6, H⟩ := H; go_wp2_with fail; go_at_call 64; refine (GxMathBitsOnesCount.C (t_5)  _    qt_6).mono ?_; rintro y10 wt_6 ⟨rfl, bt_6⟩; have r10 := Lib.hid (Below.step n10.out bt_6); clear bt_6; replace H := bind_hid H; obtain ⟨t_7, qt_7, H⟩ := H; go_wp2_with fail; go_at_call 47; refine (GxCmpCompareInt.C (t_3) (t_6)  _    qt_7).mono ?_; rintro t10 wt_7 ⟨rfl, bt_7⟩; have o10 := Lib.hid (Below.step r10.out bt_7); clear bt_7; replace H := bind_hid H; obtain ⟨t_10, l10, H⟩ := H; go_wp2_with fail; go_at_call 47; refine (GxCmpCompareInt.C (a) (b)  _    l10).mono ?_; rintro v10 a10 ⟨rfl, f10⟩; have h10 := Lib.hid (Below.step o10.out f10); clear f10; replace H := let_hid H; obtain ⟨t_11, c10, H⟩ := H; obtain ⟨j10, g10⟩ : ∃ x, a10.alloc (.cells #[.int .i64 t_7, .int .i64 t_10] 3) = x := ⟨_, rfl⟩; have i10 : Below a10.heap.size a10 j10 := (by rw [← g10]; exact (Below.refl _ _).alloc (Nat.le_refl _) _); have k10 := h10.out.size; have d10 : t_11.length = 2 := (by rw [← c10]; rfl)
 have b10 : Hid (j10.ownsRow w.heap.size 3 1 (.slice (some ⟨a10.heap.size, 0, none⟩) 2 2) 2 (HelpInt.iv t_11)) := by
  rw [← g10, ← c10]; have e_ : ([.int .i64 t_7, .int .i64 t_10] : List Value) = (HelpInt.iv ([t_7, t_10] : List Int)) := rfl; exact Lib.hid (own_laid (n := 2) k10 e_ rfl (by unfold maxLen; omega))
 clear k10; have w10 := Lib.hid c10; clear c10; replace d10 := Lib.hid d10; have q10 := Lib.hid (Below.step h10.out i10); clear i10; replace H := bind_hid H; obtain ⟨t_12, m10, H⟩ := H; go_wp2_with fail; have hc_ := d10.out; have hv_ : (Value.slice (some ⟨a10.heap.size, 0, none⟩) 2 2 : Value) = Value.slice (some ⟨a10.heap.size, 0, none⟩) t_11.length 2 := (by rw [hc_])
 try rw [hv_]
 replace b10 := Lib.hid (own_len hc_ b10.out); clear hc_ hv_; go_wp2_with fail; go_at_call 46; refine (GxCmpOrInt.C (t_11) (some ⟨a10.heap.size, 0, none⟩) 2 _   (Lib.hid (own_cells b10.out)) (Lib.hid (own_max b10.out)) m10).mono ?_; rintro z10 x10 ⟨rfl, e10⟩; have p10 := Lib.hid (Below.step q10.out e10); replace b10 := Lib.hid (own_below b10.out e10); clear e10; obtain rfl := ret_hid H; go_wp2_with fail; go_ret; exact ⟨rfl, p10.out⟩
end Go.Proofs.YtihibckijdfidaaGreat.GiCompareChanges

namespace Go.Proofs.YtihibckijdfidaaGreat.GxSlicesMinFuncIntIntiCompareChanges
open Go.RowKit
open Go.Proofs.YtihibckijdfidaaGreat.Rowed Go.Proofs.YtihibckijdfidaaGreat.Turn Go.Proofs.YtihibckijdfidaaGreat.Aid Go.Proofs.YtihibckijdfidaaGreat.GoP Go.Proofs.YtihibckijdfidaaGreat.GoM

def l0 (x : (List Int)) (s : Int × Int) (nx0 bk0 : Int × Int → Option (Int)) : Option (Int) :=
  unp2 s fun m_5l0 i_6l0 =>
  letK (decide (i_6l0 < (x.length : Int))) fun (t_14 : Bool) =>
  iteK t_14
  (Option.bind (idx x i_6l0) fun (yt_18 : Int) =>
  Option.bind (Go.Proofs.YtihibckijdfidaaGreat.GiCompareChanges.P yt_18 m_5l0) fun (t_21 : Int) =>
  letK (decide (t_21 < 0)) fun (t_22 : Bool) =>
  iteK t_22
  (Option.bind (idx x i_6l0) fun (yt_25 : Int) =>
  letK (IntKind.i64.wrap (i_6l0 + 1)) fun (t_29 : Int) =>
  appK nx0 (yt_25, t_29))
  (letK (IntKind.i64.wrap (i_6l0 + 1)) fun (t_29 : Int) =>
  appK nx0 (m_5l0, t_29)))
  (appK bk0 (m_5l0, i_6l0))

def e0  (s : Int × Int) : Option (Int) :=
  unp2 s fun m_5l0 i_6l0 =>
  some m_5l0

def j0 (x : (List Int)) (fuel : Nat) (s : Unit) : Option (Int) :=
  Option.bind (idx x 0) fun (yt_7 : Int) =>
  loopK (l0 x) fuel (yt_7, 1) (e0 )

def P (fuel : Nat) (x : (List Int)) : Option (Int) :=
  letK (decide ((x.length : Int) < 1)) fun (t_3 : Bool) =>
  iteK t_3
  (none)
  (j0 x fuel ())

set_option maxRecDepth 100000 in
set_option maxHeartbeats 2000000 in
theorem C (fuel : Nat) (x : (List Int)) (A0 : Option Addr) (c0 : Nat)  (w : World) (M0 : Hid (Cells w 1 A0 x.length (Go.Proofs.YtihibckijdfidaaGreat.HelpInt.iv x))) (N0 : Hid (x.length ≤ 9223372036854775807))  {r : Int} (H : Hid (P fuel x = some r)) :
    Calls Tryz.prog 31 #[.slice A0 x.length c0, .func (.func 32) #[] #[]] w (Gives (.int .i64 r) w) := by
  have HB := Lib.hid (Below.refl w.heap.size w)
  unfold P at H
  have N0o := N0.out
  go_enter Tryz.func31, Tryz.ntmps31
  replace H := let_hid H
  obtain ⟨t_3, ht_3, H⟩ := H
  cases t_3 with
  | false =>
    have nht_3 : ¬ (x.length < 1) := by have := of_decide_eq_false ht_3; omega
    replace H := ite_f H
    unfold j0 at H
    replace H := idx_hid H
    obtain ⟨nt_7, yt_7, et_7, lt_7, gt_7, H⟩ := H
    obtain rfl : 0 = nt_7 := by omega
    clear et_7
    obtain ⟨ab_t_7, ao_t_7, zt_7, At_7, z_t_7, ct_7_0⟩ := Go.Proofs.YtihibckijdfidaaGreat.HelpInt.Ints.at_ M0.out lt_7
    obtain rfl := Option.some.inj (gt_7.out.symm.trans z_t_7)
    subst At_7
    have ltt_7 := cell_lt ct_7_0
    replace ct_7_0 := cell_below HB.out ct_7_0
    clear z_t_7
    have b1t_7 : (0 : Int) < ((x.length : Nat) : Int) := by omega
    have b3t_7 : 0 < x.length := by omega
    try simp only [Nat.zero_mul, Nat.add_zero, Nat.zero_add, Nat.reduceMul] at ct_7_0
    go_wp2_with fail
    go_loopg [5, 6] (fuel) (fun m_ v5_ v6_ wr => ∃ (m_5l0 : Int) (i_6l0 : Int), v5_ = .int .i64 m_5l0 ∧ v6_ = .int .i64 i_6l0 ∧ Hid (loopK (l0 x) m_ (m_5l0, i_6l0) (e0 ) = some r) ∧ Hid (Below w.heap.size w wr))
    case atStart => exact ⟨_, _, rfl, rfl, H, HB⟩
    case round =>
      obtain ⟨m_5l0, i_6l0, rfl, rfl, H, HBwr0⟩ := hrel
      rename World => wr0
      cases gk with
      | zero => exact (loop_zero H).elim
      | succ m0 =>
        replace H := loop_succ H
        unfold l0 at H
        replace H := unp2_hid H
        replace H := let_hid H
        obtain ⟨t_14, ht_14, H⟩ := H
        cases t_14 with
        | false =>
          replace H := ite_f H
          replace H := app_hid H
          unfold e0 at H
          replace H := unp2_hid H
          obtain rfl := ret_hid H
          go_wp2_with fail
          go_ret
          exact ⟨rfl, HBwr0.out⟩
        | true =>
          replace H := ite_t H
          replace H := idx_hid H
          obtain ⟨nt_18, yt_18, et_18, lt_18, gt_18, H⟩ := H
          subst et_18
          have nc_1015 : nt_18 < x.length := by have := of_decide_eq_true ht_14; omega
          obtain ⟨ab_t_18, ao_t_18, zt_18, At_18, z_t_18, ct_18_0⟩ := Go.Proofs.YtihibckijdfidaaGreat.HelpInt.Ints.at_ M0.out lt_18
          obtain rfl := Option.some.inj (gt_18.out.symm.trans z_t_18)
          simp only [Option.some.injEq, Addr.mk.injEq] at At_18
          obtain ⟨rfl, rfl, _⟩ := At_18
          have ltt_18 := cell_lt ct_18_0
          replace ct_18_0 := cell_below HBwr0.out ct_18_0
          clear z_t_18
          have b0t_18 : (0 : Int) ≤ (nt_18 : Int) := by omega
          have b1t_18 : (nt_18 : Int) < ((x.length : Nat) : Int) := by omega
          have b2t_18 : ((nt_18 : Int)).toNat = nt_18 := by omega
          replace H := bind_hid H
          obtain ⟨t_21, qt_21, H⟩ := H
          go_wp2_with fail
          go_at_call 32
          refine (Go.Proofs.YtihibckijdfidaaGreat.GiCompareChanges.C (yt_18) (m_5l0)  _    qt_21).mono ?_
          rintro e_t_21 wt_21 ⟨rfl, bt_21⟩
          have HBwt_21 := Lib.hid (Below.step HBwr0.out bt_21)
          replace ct_18_0 := cell_below bt_21 ct_18_0
          clear bt_21
          replace H := let_hid H
          obtain ⟨t_22, ht_22, H⟩ := H
          cases t_22 with
          | false =>
            replace H := ite_f H
            replace H := let_hid H
            obtain ⟨t_29, ht_29, H⟩ := H
            replace H := app_hid H
            go_wp2_with fail
            go_roundg m0
            case measure => omega
            case rel => exact ⟨_, _, rfl, rfl, H, HBwt_21⟩
          | true =>
            replace H := ite_t H
            replace H := idx_hid H
            obtain ⟨nt_25, yt_25, et_25, lt_25, gt_25, H⟩ := H
            obtain rfl : nt_18 = nt_25 := by omega
            clear et_25
            obtain rfl := Option.some.inj (gt_18.out.symm.trans gt_25.out)
            clear gt_25 lt_25
            replace H := let_hid H
            obtain ⟨t_29, ht_29, H⟩ := H
            replace H := app_hid H
            go_wp2_with fail
            go_roundg m0
            case measure => omega
            case rel => exact ⟨_, _, rfl, rfl, H, HBwt_21⟩
  | true =>
    have nht_3 : x.length < 1 := by have := of_decide_eq_true ht_3; omega
    replace H := ite_t H
    exact (none_hid H).elim
end Go.Proofs.YtihibckijdfidaaGreat.GxSlicesMinFuncIntIntiCompareChanges

namespace Go.Proofs.YtihibckijdfidaaGreat.GiLeastChange
open Go.RowKit
open Go.Proofs.YtihibckijdfidaaGreat.Rowed Go.Proofs.YtihibckijdfidaaGreat.Turn Go.Proofs.YtihibckijdfidaaGreat.Aid Go.Proofs.YtihibckijdfidaaGreat.GoP Go.Proofs.YtihibckijdfidaaGreat.GoM

def P (fuel : Nat) (rates : (List PRate.Rate)) (x : PCover.Cover) : Option (Int × PCover.Cover × Bool) :=
 unCover x fun (x_id : Int) (x_day : Int) (x_zone : Int) (x_grams : Int) (x_paid : Int) (x_from_ : Int) (x_to_ : Int) (x_leave : Int) (x_arrive : Int) =>
 bind2 (GiPossibleChanges.P rates (PCover.Cover.mk x_id x_day x_zone x_grams x_paid x_from_ x_to_ x_leave x_arrive)) fun (t_6a : (List Int)) (t_6b : Bool) =>
 letK ((t_6a.length : Int) == 0) fun (t_14 : Bool) =>
 iteK t_14
 (some (0, (PCover.Cover.mk 0 0 0 0 0 0 0 0 0), false))
 (Option.bind (GxSlicesMinFuncIntIntiCompareChanges.P fuel t_6a) fun (t_20 : Int) =>
 bind2 (GiMade.P rates (PCover.Cover.mk x_id x_day x_zone x_grams x_paid x_from_ x_to_ x_leave x_arrive) t_20) fun (t_25a : PCover.Cover) (t_25b : Bool) =>
 unCover t_25a fun (t_25a_id : Int) (t_25a_day : Int) (t_25a_zone : Int) (t_25a_grams : Int) (t_25a_paid : Int) (t_25a_from_ : Int) (t_25a_to_ : Int) (t_25a_leave : Int) (t_25a_arrive : Int) =>
 some (t_20, (PCover.Cover.mk t_25a_id t_25a_day t_25a_zone t_25a_grams t_25a_paid t_25a_from_ t_25a_to_ t_25a_leave t_25a_arrive), t_25b))

set_option maxRecDepth 100000 in
set_option maxHeartbeats 2000000 in
theorem C (fuel : Nat) (rates : (List PRate.Rate)) (x : PCover.Cover) (A0 : Option Addr) (c0 : Nat)  (w : World) (M0 : Hid (Cells w 5 A0 rates.length (PRate.flat rates))) (N0 : Hid (rates.length ≤ 9223372036854775807))  {r0 : Int} {r1 : PCover.Cover} {r2 : Bool} (H : Hid (P fuel rates x = some (r0, r1, r2))) :
  Calls Tryz.prog 7 #[.slice A0 rates.length c0, x.val] w (Gives (.tuple #[.int .i64 r0, (PCover.Cover.val r1), .bool r2]) w) := by
 have HB := Lib.hid (Below.refl w.heap.size w); unfold P at H; obtain ⟨x_id, x_day, x_zone, x_grams, x_paid, x_from_, x_to_, x_leave, x_arrive⟩ := x; replace H := unCover_hid H; unfold PCover.Cover.val; have N0o := N0.out
 go_enter Tryz.func7, Tryz.ntmps7
 obtain ⟨a10, q10⟩ : ∃ x, w.alloc (.cells #[.int .i64 x_id, .int .i64 x_day, .int .i64 x_zone, .int .i64 x_grams, .int .i64 x_paid, .int .i64 x_from_, .int .i64 x_to_, .int .i64 x_leave, .int .i64 x_arrive] 26) = x := ⟨_, rfl⟩; have x13 : Below w.heap.size w a10 := (by rw [← q10]; exact (Below.refl _ _).alloc (Nat.le_refl _) _); have l14 := Lib.hid (Below.step HB.out x13); clear x13; have b13 : a10.cell? ⟨w.heap.size, 0, none⟩ = some (.int .i64 x_id) := (by rw [← q10]; exact box_new _ _ _ 0 _ rfl); have q13 : a10.cell? ⟨w.heap.size, 1, none⟩ = some (.int .i64 x_day) := (by rw [← q10]; exact box_new _ _ _ 1 _ rfl); have b14 : a10.cell? ⟨w.heap.size, 2, none⟩ = some (.int .i64 x_zone) := (by rw [← q10]; exact box_new _ _ _ 2 _ rfl); have n14 : a10.cell? ⟨w.heap.size, 3, none⟩ = some (.int .i64 x_grams) := (by rw [← q10]; exact box_new _ _ _ 3 _ rfl); have n13 : a10.cell? ⟨w.heap.size, 4, none⟩ = some (.int .i64 x_paid) := (by rw [← q10]; exact box_new _ _ _ 4 _ rfl); have j13 : a10.cell? ⟨w.heap.size, 5, none⟩ = some (.int .i64 x_from_) := (by rw [← q10]; exact box_new _ _ _ 5 _ rfl); have i13 : a10.cell? ⟨w.heap.size, 6, none⟩ = some (.int .i64 x_to_) := (by rw [← q10]; exact box_new _ _ _ 6 _ rfl); have v13 : a10.cell? ⟨w.heap.size, 7, none⟩ = some (.int .i64 x_leave) := (by rw [← q10]; exact box_new _ _ _ 7 _ rfl); have y13 : a10.cell? ⟨w.heap.size, 8, none⟩ = some (.int .i64 x_arrive) := (by rw [← q10]; exact box_new _ _ _ 8 _ rfl); obtain ⟨o10, m10⟩ : ∃ x, a10.alloc (.cells #[.int .i64 0, .int .i64 0, .int .i64 0, .int .i64 0, .int .i64 0, .int .i64 0, .int .i64 0, .int .i64 0, .int .i64 0] 26) = x := ⟨_, rfl⟩; have l10 : Below a10.heap.size a10 o10 := (by rw [← m10]; exact (Below.refl _ _).alloc (Nat.le_refl _) _); have h10 := Lib.hid (apart_box b13); have c13 := Lib.hid (Below.step l14.out l10); have r10 := cell_below l10 b13; have z10 := cell_below l10 q13; have n11 := cell_below l10 b14; have g11 := cell_below l10 n14; have i11 := cell_below l10 n13; have m11 := cell_below l10 j13; have x10 := cell_below l10 i13; have b11 := cell_below l10 v13; have e11 := cell_below l10 y13; clear l10; have s10 : o10.cell? ⟨a10.heap.size, 0, none⟩ = some (.int .i64 0) := (by rw [← m10]; exact box_new _ _ _ 0 _ rfl); have q11 : o10.cell? ⟨a10.heap.size, 1, none⟩ = some (.int .i64 0) := (by rw [← m10]; exact box_new _ _ _ 1 _ rfl); have o11 : o10.cell? ⟨a10.heap.size, 2, none⟩ = some (.int .i64 0) := (by rw [← m10]; exact box_new _ _ _ 2 _ rfl); have r11 : o10.cell? ⟨a10.heap.size, 3, none⟩ = some (.int .i64 0) := (by rw [← m10]; exact box_new _ _ _ 3 _ rfl); have v11 : o10.cell? ⟨a10.heap.size, 4, none⟩ = some (.int .i64 0) := (by rw [← m10]; exact box_new _ _ _ 4 _ rfl); have t11 : o10.cell? ⟨a10.heap.size, 5, none⟩ = some (.int .i64 0) := (by rw [← m10]; exact box_new _ _ _ 5 _ rfl); have s11 : o10.cell? ⟨a10.heap.size, 6, none⟩ = some (.int .i64 0) := (by rw [← m10]; exact box_new _ _ _ 6 _ rfl); have p11 : o10.cell? ⟨a10.heap.size, 7, none⟩ = some (.int .i64 0) := (by rw [← m10]; exact box_new _ _ _ 7 _ rfl); have w11 : o10.cell? ⟨a10.heap.size, 8, none⟩ = some (.int .i64 0) := (by rw [← m10]; exact box_new _ _ _ 8 _ rfl); have Ot_2 : Hid (o10.ownsRow w.heap.size 26 9 (.slice (some ⟨a10.heap.size, 0, none⟩) 1 1) 1 [.int .i64 0, .int .i64 0, .int .i64 0, .int .i64 0, .int .i64 0, .int .i64 0, .int .i64 0, .int .i64 0, .int .i64 0]) := Lib.hid (by rw [← m10]; exact own_laid (n := 1) l14.out.size rfl rfl (by unfold maxLen; omega)); replace H := bind2_hid H; obtain ⟨t_6a, t_6b, qt_6, H⟩ := H; go_wp2_with fail; clear b13 q13 b14 n14 n13 j13 i13 v13 y13; go_at_call 9; refine (GiPossibleChanges.C (rates) ((PCover.Cover.mk x_id x_day x_zone x_grams x_paid x_from_ x_to_ x_leave x_arrive)) A0 c0 _   (Lib.hid (Cells.below M0.out c13.out)) N0 qt_6).mono ?_; rintro l17 wt_6 ⟨f15, c16, rfl, y12, bt_6⟩; have s17 := Lib.hid (apart_callbox y12 r10)
 have s14 := Lib.hid (apart_callbox y12 s10); have i10 := Lib.hid (own_lower y12 c13.out.size); clear y12; have d13 := Lib.hid (Below.step c13.out bt_6); replace r10 := cell_below bt_6 r10; replace z10 := cell_below bt_6 z10; replace n11 := cell_below bt_6 n11; replace g11 := cell_below bt_6 g11; replace i11 := cell_below bt_6 i11; replace m11 := cell_below bt_6 m11; replace x10 := cell_below bt_6 x10; replace b11 := cell_below bt_6 b11; replace e11 := cell_below bt_6 e11; replace s10 := cell_below bt_6 s10; replace q11 := cell_below bt_6 q11; replace o11 := cell_below bt_6 o11; replace r11 := cell_below bt_6 r11; replace v11 := cell_below bt_6 v11; replace t11 := cell_below bt_6 t11; replace s11 := cell_below bt_6 s11; replace p11 := cell_below bt_6 p11; replace w11 := cell_below bt_6 w11; replace Ot_2 := Lib.hid (own_below Ot_2.out bt_6); clear bt_6; replace H := let_hid H; obtain ⟨t_14, z13, H⟩ := H
 cases t_14 with
 | false =>
  have w15 : ¬ (t_6a.length = 0) := (by have := ne_of_beq_false z13; omega); replace H := ite_f H; replace H := bind_hid H; obtain ⟨t_20, t15, H⟩ := H; go_wp2_with fail; go_at_call 31; refine (GxSlicesMinFuncIntIntiCompareChanges.C fuel (t_6a) f15 c16 _   (Lib.hid (own_cells i10.out)) (Lib.hid (own_max i10.out)) t15).mono ?_; rintro k17 g17 ⟨rfl, e10⟩; have a14 := Lib.hid (Below.step d13.out e10); replace r10 := cell_below e10 r10; replace z10 := cell_below e10 z10; replace n11 := cell_below e10 n11; replace g11 := cell_below e10 g11; replace i11 := cell_below e10 i11; replace m11 := cell_below e10 m11; replace x10 := cell_below e10 x10; replace b11 := cell_below e10 b11; replace e11 := cell_below e10 e11; replace s10 := cell_below e10 s10; replace q11 := cell_below e10 q11; replace o11 := cell_below e10 o11; replace r11 := cell_below e10 r11; replace v11 := cell_below e10 v11; replace t11 := cell_below e10 t11; replace s11 := cell_below e10 s11; replace p11 := cell_below e10 p11; replace w11 := cell_below e10 w11; replace i10 := Lib.hid (own_below i10.out e10); replace Ot_2 := Lib.hid (own_below Ot_2.out e10); clear e10; replace H := bind2_hid H; obtain ⟨j15, h16, d15, H⟩ := H; obtain ⟨j11, l11, h11, v10, c11, y10, w10, t10, d11⟩ := j15; replace H := unCover_hid H; go_wp2_with fail; go_at_call 33; refine (GiMade.C (rates) ((PCover.Cover.mk x_id x_day x_zone x_grams x_paid x_from_ x_to_ x_leave x_arrive)) (t_20) A0 c0 _   (Lib.hid (Cells.below M0.out a14.out)) N0 d15).mono ?_; rintro w16 f10 ⟨rfl, c10⟩; unfold PCover.Cover.val; have r16 := Lib.hid (Below.step a14.out c10); replace r10 := cell_below c10 r10; replace z10 := cell_below c10 z10; replace n11 := cell_below c10 n11; replace g11 := cell_below c10 g11; replace i11 := cell_below c10 i11; replace m11 := cell_below c10 m11; replace x10 := cell_below c10 x10; replace b11 := cell_below c10 b11; replace e11 := cell_below c10 e11; replace s10 := cell_below c10 s10; replace q11 := cell_below c10 q11; replace o11 := cell_below c10 o11; replace r11 := cell_below c10 r11; replace v11 := cell_below c10 v11; replace t11 := cell_below c10 t11; replace s11 := cell_below c10 s11; replace p11 := cell_below c10 p11; replace w11 := cell_below c10 w11; replace i10 := Lib.hid (own_below i10.out c10); replace Ot_2 := Lib.hid (own_below Ot_2.out c10); clear c10; obtain ⟨b10, p10⟩ : ∃ x, f10.alloc (.cells #[.int .i64 j11, .int .i64 l11, .int .i64 h11, .int .i64 v10, .int .i64 c11, .int .i64 y10, .int .i64 w10, .int .i64 t10, .int .i64 d11] 26) = x := ⟨_, rfl⟩; have d10 : Below f10.heap.size f10 b10 := (by rw [← p10]; exact (Below.refl _ _).alloc (Nat.le_refl _) _); have a17 := Lib.hid (apart_fresh i10.out); have k11 := Lib.hid (apart_box s10); have a13 := Lib.hid (Below.step r16.out d10); have n12 := cell_below d10 r10; have k12 := cell_below d10 z10; have j12 := cell_below d10 n11; have l12 := cell_below d10 g11; have d12 := cell_below d10 i11; have y11 := cell_below d10 m11; have h12 := cell_below d10 x10; have o12 := cell_below d10 b11; have m12 := cell_below d10 e11; have z12 := cell_below d10 s10; have p12 := cell_below d10 q11; have v12 := cell_below d10 o11; have s12 := cell_below d10 r11; have q12 := cell_below d10 v11; have r12 := cell_below d10 t11; have t12 := cell_below d10 s11; have x12 := cell_below d10 p11; have w12 := cell_below d10 w11; replace i10 := Lib.hid (own_below i10.out d10); replace Ot_2 := Lib.hid (own_below Ot_2.out d10); clear d10; have z11 : b10.cell? ⟨f10.heap.size, 0, none⟩ = some (.int .i64 j11) := (by rw [← p10]; exact box_new _ _ _ 0 _ rfl); have i12 : b10.cell? ⟨f10.heap.size, 1, none⟩ = some (.int .i64 l11) := (by rw [← p10]; exact box_new _ _ _ 1 _ rfl); have b12 : b10.cell? ⟨f10.heap.size, 2, none⟩ = some (.int .i64 h11) := (by rw [← p10]; exact box_new _ _ _ 2 _ rfl); have c12 : b10.cell? ⟨f10.heap.size, 3, none⟩ = some (.int .i64 v10) := (by rw [← p10]; exact box_new _ _ _ 3 _ rfl); have x11 : b10.cell? ⟨f10.heap.size, 4, none⟩ = some (.int .i64 c11) := (by rw [← p10]; exact box_new _ _ _ 4 _ rfl)
  have a12 : b10.cell? ⟨f10.heap.size, 5, none⟩ = some (.int .i64 y10) := (by rw [← p10]; exact box_new _ _ _ 5 _ rfl); have e12 : b10.cell? ⟨f10.heap.size, 6, none⟩ = some (.int .i64 w10) := (by rw [← p10]; exact box_new _ _ _ 6 _ rfl); have f12 : b10.cell? ⟨f10.heap.size, 7, none⟩ = some (.int .i64 t10) := (by rw [← p10]; exact box_new _ _ _ 7 _ rfl); have g12 : b10.cell? ⟨f10.heap.size, 8, none⟩ = some (.int .i64 d11) := (by rw [← p10]; exact box_new _ _ _ 8 _ rfl); go_wp2_with fail; clear r10 z10 n11 g11 i11 m11 x10 b11 e11 s10 q11 o11 r11 v11 t11 s11 p11 w11; have bd6 : Below b10.heap.size b10 b10.drew := (Below.refl _ _).drew; have a13.drew := Lib.hid (Below.step a13.out bd6); replace n12 := cell_below bd6 n12; replace k12 := cell_below bd6 k12; replace j12 := cell_below bd6 j12; replace l12 := cell_below bd6 l12; replace d12 := cell_below bd6 d12; replace y11 := cell_below bd6 y11; replace h12 := cell_below bd6 h12; replace o12 := cell_below bd6 o12; replace m12 := cell_below bd6 m12; replace z12 := cell_below bd6 z12; replace p12 := cell_below bd6 p12; replace v12 := cell_below bd6 v12; replace s12 := cell_below bd6 s12; replace q12 := cell_below bd6 q12; replace r12 := cell_below bd6 r12; replace t12 := cell_below bd6 t12; replace x12 := cell_below bd6 x12; replace w12 := cell_below bd6 w12; replace z11 := cell_below bd6 z11; replace i12 := cell_below bd6 i12; replace b12 := cell_below bd6 b12; replace c12 := cell_below bd6 c12; replace x11 := cell_below bd6 x11; replace a12 := cell_below bd6 a12; replace e12 := cell_below bd6 e12; replace f12 := cell_below bd6 f12; replace g12 := cell_below bd6 g12; replace i10 := Lib.hid (own_below i10.out bd6); replace Ot_2 := Lib.hid (own_below Ot_2.out bd6); clear bd6; refine wp_region_held_drew (S := fun w' => w'.cell? ⟨w.heap.size, 0, none⟩ = some (.int .i64 x_id) ∧ w'.cell? ⟨w.heap.size, 1, none⟩ = some (.int .i64 x_day) ∧ w'.cell? ⟨w.heap.size, 2, none⟩ = some (.int .i64 x_zone) ∧ w'.cell? ⟨w.heap.size, 3, none⟩ = some (.int .i64 x_grams) ∧ w'.cell? ⟨w.heap.size, 4, none⟩ = some (.int .i64 x_paid) ∧ w'.cell? ⟨w.heap.size, 5, none⟩ = some (.int .i64 x_from_) ∧ w'.cell? ⟨w.heap.size, 6, none⟩ = some (.int .i64 x_to_) ∧ w'.cell? ⟨w.heap.size, 7, none⟩ = some (.int .i64 x_leave) ∧ w'.cell? ⟨w.heap.size, 8, none⟩ = some (.int .i64 x_arrive) ∧ w'.cell? ⟨f10.heap.size, 0, none⟩ = some (.int .i64 j11) ∧ w'.cell? ⟨f10.heap.size, 1, none⟩ = some (.int .i64 l11) ∧ w'.cell? ⟨f10.heap.size, 2, none⟩ = some (.int .i64 h11) ∧ w'.cell? ⟨f10.heap.size, 3, none⟩ = some (.int .i64 v10) ∧ w'.cell? ⟨f10.heap.size, 4, none⟩ = some (.int .i64 c11) ∧ w'.cell? ⟨f10.heap.size, 5, none⟩ = some (.int .i64 y10) ∧ w'.cell? ⟨f10.heap.size, 6, none⟩ = some (.int .i64 w10) ∧ w'.cell? ⟨f10.heap.size, 7, none⟩ = some (.int .i64 t10) ∧ w'.cell? ⟨f10.heap.size, 8, none⟩ = some (.int .i64 d11) ∧ Hid (0 ≤ w'.heap.size)) (by kernel_rfl) ⟨n12, k12, j12, l12, d12, y11, h12, o12, m12, z11, i12, b12, c12, x11, a12, e12, f12, g12, Lib.hid (Nat.zero_le _)⟩ (fun hHeld => ?_); refine wpAnyH_take (i := 0) (oi := _) (v := ?_) rfl (by kernel_rfl) (by kernel_rfl) (by kernel_rfl) (fun _ _ _ h => h) (Or.inl ⟨by rfl, ?_⟩) (by assumption) ?_
  rotate_left
  ·
   intro w hSw
   (try dsimp only at hSw)
   (try simp only [List.getElem_toArray, List.getElem_cons_zero, List.getElem_cons_succ])
   go_simp
   (try with_reducible rfl)
  try simp only [Act.put, List.getElem_toArray, List.getElem_cons_zero, List.getElem_cons_succ, List.setIfInBounds_toArray, List.set_cons_zero, List.set_cons_succ]
  refine wpAnyH_take (i := 1) (oi := _) (v := ?_) rfl (by kernel_rfl) (by kernel_rfl) (by kernel_rfl) (fun _ _ _ h => h) (Or.inl ⟨by rfl, ?_⟩) (by assumption) ?_
  rotate_left
  ·
   intro w hSw
   (try dsimp only at hSw)
   (try simp only [List.getElem_toArray, List.getElem_cons_zero, List.getElem_cons_succ])
   go_simp
   (try with_reducible rfl)
  try simp only [Act.put, List.getElem_toArray, List.getElem_cons_zero, List.getElem_cons_succ, List.setIfInBounds_toArray, List.set_cons_zero, List.set_cons_succ]
  refine wpAnyH_take (i := 2) (oi := _) (v := ?_) rfl (by kernel_rfl) (by kernel_rfl) (by kernel_rfl) (fun _ _ _ h => h) (Or.inl ⟨by rfl, ?_⟩) (by assumption) ?_
  rotate_left
  ·
   intro w hSw
   (try dsimp only at hSw)
   (try simp only [List.getElem_toArray, List.getElem_cons_zero, List.getElem_cons_succ])
   go_simp
   (try with_reducible rfl)
  try simp only [Act.put, List.getElem_toArray, List.getElem_cons_zero, List.getElem_cons_succ, List.setIfInBounds_toArray, List.set_cons_zero, List.set_cons_succ]
  refine wpAnyH_take (i := 3) (oi := _) (v := ?_) rfl (by kernel_rfl) (by kernel_rfl) (by kernel_rfl) (fun _ _ _ h => h) (Or.inl ⟨by rfl, ?_⟩) (by assumption) ?_
  rotate_left
  ·
   intro w hSw
   (try dsimp only at hSw)
   (try simp only [List.getElem_toArray, List.getElem_cons_zero, List.getElem_cons_succ])
   go_simp
   (try with_reducible rfl)
  try simp only [Act.put, List.getElem_toArray, List.getElem_cons_zero, List.getElem_cons_succ, List.setIfInBounds_toArray, List.set_cons_zero, List.set_cons_succ]
  refine wpAnyH_ready (rs := [4]) (by kernel_rfl) (by simp) ?_; refine AllReadyH.cons (o := _) rfl (fun K_ hK_ => ?_) AllReadyH.nil; obtain ⟨j10, e13⟩ : ∃ x, (((((((((b10.drew).setCell ⟨a10.heap.size, 0, none⟩ (.int .i64 j11)).setCell ⟨a10.heap.size, 1, none⟩ (.int .i64 l11)).setCell ⟨a10.heap.size, 2, none⟩ (.int .i64 h11)).setCell ⟨a10.heap.size, 3, none⟩ (.int .i64 v10)).setCell ⟨a10.heap.size, 4, none⟩ (.int .i64 c11)).setCell ⟨a10.heap.size, 5, none⟩ (.int .i64 y10)).setCell ⟨a10.heap.size, 6, none⟩ (.int .i64 w10)).setCell ⟨a10.heap.size, 7, none⟩ (.int .i64 t10)).setCell ⟨a10.heap.size, 8, none⟩ (.int .i64 d11) = x := ⟨_, rfl⟩; have c14 := Ot_2.out.frozenAt 0; have k14 := Ot_2.out.frozenAt 1; have d14 := Ot_2.out.frozenAt 2; have h14 := Ot_2.out.frozenAt 3; have w13 := Ot_2.out.frozenAt 4; have t14 := Ot_2.out.frozenAt 5; have l13 := Ot_2.out.frozenAt 6; have j14 := Ot_2.out.frozenAt 7; have x14 := Ot_2.out.frozenAt 8; have b15 : b10.frozen? ⟨a10.heap.size, 0, none⟩ = false := c14; have p15 : b10.cell? ⟨a10.heap.size, 0, none⟩ = _ := z12; have a15 : b10.frozen? ⟨a10.heap.size, 1, none⟩ = false := k14; have o16 : b10.cell? ⟨a10.heap.size, 1, none⟩ = _ := p12; have k15 : b10.frozen? ⟨a10.heap.size, 2, none⟩ = false := d14; have p16 : b10.cell? ⟨a10.heap.size, 2, none⟩ = _ := v12; have t16 : b10.frozen? ⟨a10.heap.size, 3, none⟩ = false := h14; have k16 : b10.cell? ⟨a10.heap.size, 3, none⟩ = _ := s12; have l15 : b10.frozen? ⟨a10.heap.size, 4, none⟩ = false := w13; have a16 : b10.cell? ⟨a10.heap.size, 4, none⟩ = _ := q12; have x15 : b10.frozen? ⟨a10.heap.size, 5, none⟩ = false := t14; have r15 : b10.cell? ⟨a10.heap.size, 5, none⟩ = _ := r12; have z15 : b10.frozen? ⟨a10.heap.size, 6, none⟩ = false := l13; have v15 : b10.cell? ⟨a10.heap.size, 6, none⟩ = _ := t12; have i16 : b10.frozen? ⟨a10.heap.size, 7, none⟩ = false := j14; have b16 : b10.cell? ⟨a10.heap.size, 7, none⟩ = _ := x12; have n15 : b10.frozen? ⟨a10.heap.size, 8, none⟩ = false := x14; have d16 : b10.cell? ⟨a10.heap.size, 8, none⟩ = _ := w12; have n16 : ((((((((((b10).setCell ⟨a10.heap.size, 0, none⟩ (.int .i64 j11)).setCell ⟨a10.heap.size, 1, none⟩ (.int .i64 l11)).setCell ⟨a10.heap.size, 2, none⟩ (.int .i64 h11)).setCell ⟨a10.heap.size, 3, none⟩ (.int .i64 v10)).setCell ⟨a10.heap.size, 4, none⟩ (.int .i64 c11)).setCell ⟨a10.heap.size, 5, none⟩ (.int .i64 y10)).setCell ⟨a10.heap.size, 6, none⟩ (.int .i64 w10)).setCell ⟨a10.heap.size, 7, none⟩ (.int .i64 t10)).setCell ⟨a10.heap.size, 8, none⟩ (.int .i64 d11)).drew = j10 := (by rw [← e13]; simp only [World.setCell_drew]); have g13 := Lib.hid (own_stores [(0, .int .i64 j11), (1, .int .i64 l11), (2, .int .i64 h11), (3, .int .i64 v10), (4, .int .i64 c11), (5, .int .i64 y10), (6, .int .i64 w10), (7, .int .i64 t10), (8, .int .i64 d11)] Ot_2.out); have f11 : Hid (j10.ownsRow w.heap.size 26 9 (.slice (some ⟨a10.heap.size, 0, none⟩) 1 1) 1 [.int .i64 j11, .int .i64 l11, .int .i64 h11, .int .i64 v10, .int .i64 c11, .int .i64 y10, .int .i64 w10, .int .i64 t10, .int .i64 d11]) := Lib.hid (by rw [← e13]; exact g13.out.1); have g10 : Hid (b10.drew.grownBy j10 (Value.slice (some ⟨a10.heap.size, 0, none⟩) 1 1).ownBlock) := Lib.hid (by rw [← e13]; exact g13.out.2); have i15 := Lib.hid (a13.drew.out.grown g10.out a13.drew.out.size (fun q hq => (Ot_2.out.lt q hq).1)); clear g13; have s13 := cell_other n12 g10.out h10.out; have m14 := cell_other k12 g10.out h10.out; have p14 := cell_other j12 g10.out h10.out; have f14 := cell_other l12 g10.out h10.out; have r14 := cell_other d12 g10.out h10.out; have e14 := cell_other y11 g10.out h10.out; have q14 := cell_other h12 g10.out h10.out; have k13 := cell_other o12 g10.out h10.out; have g14 := cell_other m12 g10.out h10.out; have h13 := cell_other z11 g10.out (Apart.symm k11.out); have p13 := cell_other i12 g10.out (Apart.symm k11.out)
  have m13 := cell_other b12 g10.out (Apart.symm k11.out); have v14 := cell_other c12 g10.out (Apart.symm k11.out); have o13 := cell_other x11 g10.out (Apart.symm k11.out); have o14 := cell_other a12 g10.out (Apart.symm k11.out); have i14 := cell_other e12 g10.out (Apart.symm k11.out); have w14 := cell_other f12 g10.out (Apart.symm k11.out); have t13 := cell_other g12 g10.out (Apart.symm k11.out); replace i10 := Lib.hid (own_other i10.out g10.out (Apart.symm s14.out)); clear Ot_2 g10; have q15 : j10.cell? ⟨a10.heap.size, 0, none⟩ = some (.int .i64 j11) := f11.out.cells rfl 0 _ rfl; have l16 : j10.cell? ⟨a10.heap.size, 1, none⟩ = some (.int .i64 l11) := f11.out.cells rfl 1 _ rfl; have j16 : j10.cell? ⟨a10.heap.size, 2, none⟩ = some (.int .i64 h11) := f11.out.cells rfl 2 _ rfl; have y15 : j10.cell? ⟨a10.heap.size, 3, none⟩ = some (.int .i64 v10) := f11.out.cells rfl 3 _ rfl; have z14 : j10.cell? ⟨a10.heap.size, 4, none⟩ = some (.int .i64 c11) := f11.out.cells rfl 4 _ rfl; have v16 : j10.cell? ⟨a10.heap.size, 5, none⟩ = some (.int .i64 y10) := f11.out.cells rfl 5 _ rfl; have g16 : j10.cell? ⟨a10.heap.size, 6, none⟩ = some (.int .i64 w10) := f11.out.cells rfl 6 _ rfl; have h15 : j10.cell? ⟨a10.heap.size, 7, none⟩ = some (.int .i64 t10) := f11.out.cells rfl 7 _ rfl; have y14 : j10.cell? ⟨a10.heap.size, 8, none⟩ = some (.int .i64 d11) := f11.out.cells rfl 8 _ rfl
  (try simp only [List.getElem_toArray, List.getElem_cons_zero, List.getElem_cons_succ])
  go_simp
  first | refine hK_.out _ _ ⟨s13, m14, p14, f14, r14, e14, q14, k13, g14, h13, p13, m13, v14, o13, o14, i14, w14, t13, Lib.hid (Nat.zero_le _)⟩ (fun hHeld => ?_) | (go_wp2_with fail; refine hK_.out _ _ ⟨s13, m14, p14, f14, r14, e14, q14, k13, g14, h13, p13, m13, v14, o13, o14, i14, w14, t13, Lib.hid (Nat.zero_le _)⟩ (fun hHeld => ?_))
  clear hK_ K_
  try simp only [Act.put, List.getElem_toArray, List.getElem_cons_zero, List.getElem_cons_succ, List.setIfInBounds_toArray, List.set_cons_zero, List.set_cons_succ]
  refine wpAnyH_take (i := 5) (oi := _) (v := ?_) rfl (by kernel_rfl) (by kernel_rfl) (by kernel_rfl) (fun _ _ _ h => h) (Or.inl ⟨by rfl, ?_⟩) (by assumption) ?_
  rotate_left
  ·
   intro w hSw
   (try dsimp only at hSw)
   (try simp only [List.getElem_toArray, List.getElem_cons_zero, List.getElem_cons_succ])
   go_simp
   (try with_reducible rfl)
  try simp only [Act.put, List.getElem_toArray, List.getElem_cons_zero, List.getElem_cons_succ, List.setIfInBounds_toArray, List.set_cons_zero, List.set_cons_succ]
  refine wpAnyH_done (by kernel_rfl) ?_ _
  try clear b15
  try clear p15
  try clear a15
  try clear o16
  try clear k15
  try clear p16
  try clear t16
  try clear k16
  try clear l15
  try clear a16
  try clear x15
  try clear r15
  try clear z15
  try clear v15
  try clear i16
  try clear b16
  try clear n15
  try clear d16
  try clear n16
  try clear c14
  try clear k14
  try clear d14
  try clear h14
  try clear w13
  try clear t14
  try clear l13
  try clear j14
  try clear x14
  try clear n12
  try clear k12
  try clear j12
  try clear l12
  try clear d12
  try clear y11
  try clear h12
  try clear o12
  try clear m12
  try clear z11
  try clear i12
  try clear b12
  try clear c12
  try clear x11
  try clear a12
  try clear e12
  try clear f12
  try clear g12
  try clear z12
  try clear p12
  try clear v12
  try clear s12
  try clear q12
  try clear r12
  try clear t12
  try clear x12
  try clear w12
  have hR_ := ret_hid H; simp only [Prod.mk.injEq] at hR_; obtain ⟨rfl, rfl, rfl⟩ := hR_; go_wp2_with fail
  (try simp only [Exit.inBlock, Exit.then])
  refine bodyPost_ret (v := .tuple #[.int .i64 t_20, .agg #[.int .i64 j11, .int .i64 l11, .int .i64 h11, .int .i64 v10, .int .i64 c11, .int .i64 y10, .int .i64 w10, .int .i64 t10, .int .i64 d11], .bool h16]) ?hr_ ?hd_ ?_
  case hd_ => rfl
  case hr_ => simp [results, Tryz.results7, q15, l16, j16, y15, z14, v16, g16, h15, y14, go_sem]
  exact ⟨rfl, i15.out⟩
 | true =>
  have s15 : Hid (t_6a.length = 0) := Lib.hid (by have := eq_of_beq z13; omega); have w15 : (t_6a.length == 0) = true := beq_iff_eq.2 s15.out; replace H := ite_t H; obtain ⟨n10, r13⟩ : ∃ x, (((((((((wt_6).setCell ⟨a10.heap.size, 0, none⟩ (.int .i64 0)).setCell ⟨a10.heap.size, 1, none⟩ (.int .i64 0)).setCell ⟨a10.heap.size, 2, none⟩ (.int .i64 0)).setCell ⟨a10.heap.size, 3, none⟩ (.int .i64 0)).setCell ⟨a10.heap.size, 4, none⟩ (.int .i64 0)).setCell ⟨a10.heap.size, 5, none⟩ (.int .i64 0)).setCell ⟨a10.heap.size, 6, none⟩ (.int .i64 0)).setCell ⟨a10.heap.size, 7, none⟩ (.int .i64 0)).setCell ⟨a10.heap.size, 8, none⟩ (.int .i64 0) = x := ⟨_, rfl⟩; have c17 := Ot_2.out.frozenAt 0; have f17 := Ot_2.out.frozenAt 1; have z16 := Ot_2.out.frozenAt 2; have r17 := Ot_2.out.frozenAt 3; have q17 := Ot_2.out.frozenAt 4; have b17 := Ot_2.out.frozenAt 5; have x16 := Ot_2.out.frozenAt 6; have n17 := Ot_2.out.frozenAt 7; have h17 := Ot_2.out.frozenAt 8; have f13 := Lib.hid (own_stores [(0, .int .i64 0), (1, .int .i64 0), (2, .int .i64 0), (3, .int .i64 0), (4, .int .i64 0), (5, .int .i64 0), (6, .int .i64 0), (7, .int .i64 0), (8, .int .i64 0)] Ot_2.out); have a11 : Hid (n10.ownsRow w.heap.size 26 9 (.slice (some ⟨a10.heap.size, 0, none⟩) 1 1) 1 [.int .i64 0, .int .i64 0, .int .i64 0, .int .i64 0, .int .i64 0, .int .i64 0, .int .i64 0, .int .i64 0, .int .i64 0]) := Lib.hid (by rw [← r13]; exact f13.out.1); have k10 : Hid (wt_6.grownBy n10 (Value.slice (some ⟨a10.heap.size, 0, none⟩) 1 1).ownBlock) := Lib.hid (by rw [← r13]; exact f13.out.2); have m16 := Lib.hid (d13.out.grown k10.out d13.out.size (fun q hq => (Ot_2.out.lt q hq).1)); clear f13; have e17 := cell_other r10 k10.out h10.out; have t17 := cell_other z10 k10.out h10.out; have y16 := cell_other n11 k10.out h10.out; have p17 := cell_other g11 k10.out h10.out; have j17 := cell_other i11 k10.out h10.out; have o17 := cell_other m11 k10.out h10.out; have i17 := cell_other x10 k10.out h10.out; have d17 := cell_other b11 k10.out h10.out; have m17 := cell_other e11 k10.out h10.out; replace i10 := Lib.hid (own_other i10.out k10.out (Apart.symm s14.out)); clear Ot_2 k10; have q16 : n10.cell? ⟨a10.heap.size, 0, none⟩ = some (.int .i64 0) := a11.out.cells rfl 0 _ rfl; have e16 : n10.cell? ⟨a10.heap.size, 1, none⟩ = some (.int .i64 0) := a11.out.cells rfl 1 _ rfl; have f16 : n10.cell? ⟨a10.heap.size, 2, none⟩ = some (.int .i64 0) := a11.out.cells rfl 2 _ rfl; have g15 : n10.cell? ⟨a10.heap.size, 3, none⟩ = some (.int .i64 0) := a11.out.cells rfl 3 _ rfl; have e15 : n10.cell? ⟨a10.heap.size, 4, none⟩ = some (.int .i64 0) := a11.out.cells rfl 4 _ rfl; have c15 : n10.cell? ⟨a10.heap.size, 5, none⟩ = some (.int .i64 0) := a11.out.cells rfl 5 _ rfl; have m15 : n10.cell? ⟨a10.heap.size, 6, none⟩ = some (.int .i64 0) := a11.out.cells rfl 6 _ rfl; have o15 : n10.cell? ⟨a10.heap.size, 7, none⟩ = some (.int .i64 0) := a11.out.cells rfl 7 _ rfl; have s16 : n10.cell? ⟨a10.heap.size, 8, none⟩ = some (.int .i64 0) := a11.out.cells rfl 8 _ rfl; have hR_ := ret_hid H; simp only [Prod.mk.injEq] at hR_; obtain ⟨rfl, rfl, rfl⟩ := hR_; go_wp2_with fail
  (try simp only [Exit.inBlock, Exit.then])
  refine bodyPost_ret (v := .tuple #[.int .i64 0, .agg #[.int .i64 0, .int .i64 0, .int .i64 0, .int .i64 0, .int .i64 0, .int .i64 0, .int .i64 0, .int .i64 0, .int .i64 0], .bool false]) ?hr_ ?hd_ ?_
  case hd_ => rfl
  case hr_ => simp [results, Tryz.results7, q16, e16, f16, g15, e15, c15, m15, o15, s16, go_sem]
  exact ⟨rfl, m16.out⟩
end Go.Proofs.YtihibckijdfidaaGreat.GiLeastChange

namespace Go.Proofs.YtihibckijdfidaaGreat.GsL8Zone
open Go.RowKit
open Go.Proofs.YtihibckijdfidaaGreat.Rowed Go.Proofs.YtihibckijdfidaaGreat.Turn Go.Proofs.YtihibckijdfidaaGreat.Aid Go.Proofs.YtihibckijdfidaaGreat.GoP Go.Proofs.YtihibckijdfidaaGreat.GoM

def P (zone : Int) : Option (Bool) :=
  Option.bind (Go.Proofs.YtihibckijdfidaaGreat.GsL1In.P zone 0 9) fun (t_2 : Bool) =>
  some t_2

set_option maxRecDepth 100000 in
set_option maxHeartbeats 2000000 in
theorem C (zone : Int)   (w : World)   {r : Bool} (H : Hid (P zone = some r)) :
    Calls Tryz.prog 73 #[.int .i64 zone] w (Gives (.bool r) w) := by
  have HB := Lib.hid (Below.refl w.heap.size w)
  unfold P at H
  go_enter Tryz.func73, Tryz.ntmps73
  replace H := bind_hid H
  obtain ⟨t_2, qt_2, H⟩ := H
  go_wp2_with fail
  go_at_call 52
  refine (Go.Proofs.YtihibckijdfidaaGreat.GsL1In.C (zone) (0) (9)  _    qt_2).mono ?_
  rintro e_t_2 wt_2 ⟨rfl, bt_2⟩
  have HBwt_2 := Lib.hid (Below.step HB.out bt_2)
  clear bt_2
  obtain rfl := ret_hid H
  go_wp2_with fail
  go_ret
  exact ⟨rfl, HBwt_2.out⟩
end Go.Proofs.YtihibckijdfidaaGreat.GsL8Zone

namespace Go.Proofs.YtihibckijdfidaaGreat.GsL8Grams
open Go.RowKit
open Go.Proofs.YtihibckijdfidaaGreat.Rowed Go.Proofs.YtihibckijdfidaaGreat.Turn Go.Proofs.YtihibckijdfidaaGreat.Aid Go.Proofs.YtihibckijdfidaaGreat.GoP Go.Proofs.YtihibckijdfidaaGreat.GoM

def P (grams : Int) : Option (Bool) :=
  Option.bind (Go.Proofs.YtihibckijdfidaaGreat.GsL1In.P grams 1 2000) fun (t_2 : Bool) =>
  some t_2

set_option maxRecDepth 100000 in
set_option maxHeartbeats 2000000 in
theorem C (grams : Int)   (w : World)   {r : Bool} (H : Hid (P grams = some r)) :
    Calls Tryz.prog 74 #[.int .i64 grams] w (Gives (.bool r) w) := by
  have HB := Lib.hid (Below.refl w.heap.size w)
  unfold P at H
  go_enter Tryz.func74, Tryz.ntmps74
  replace H := bind_hid H
  obtain ⟨t_2, qt_2, H⟩ := H
  go_wp2_with fail
  go_at_call 52
  refine (Go.Proofs.YtihibckijdfidaaGreat.GsL1In.C (grams) (1) (2000)  _    qt_2).mono ?_
  rintro e_t_2 wt_2 ⟨rfl, bt_2⟩
  have HBwt_2 := Lib.hid (Below.step HB.out bt_2)
  clear bt_2
  obtain rfl := ret_hid H
  go_wp2_with fail
  go_ret
  exact ⟨rfl, HBwt_2.out⟩
end Go.Proofs.YtihibckijdfidaaGreat.GsL8Grams

namespace Go.Proofs.YtihibckijdfidaaGreat.GsL2Day
open Go.RowKit
open Go.Proofs.YtihibckijdfidaaGreat.Rowed Go.Proofs.YtihibckijdfidaaGreat.Turn Go.Proofs.YtihibckijdfidaaGreat.Aid Go.Proofs.YtihibckijdfidaaGreat.GoP Go.Proofs.YtihibckijdfidaaGreat.GoM

def P (d_0 : Int) : Option (Bool) :=
  Option.bind (Go.Proofs.YtihibckijdfidaaGreat.GsL1In.P d_0 0 4000) fun (t_2 : Bool) =>
  some t_2

set_option maxRecDepth 100000 in
set_option maxHeartbeats 2000000 in
theorem C (d_0 : Int)   (w : World)   {r : Bool} (H : Hid (P d_0 = some r)) :
    Calls Tryz.prog 72 #[.int .i64 d_0] w (Gives (.bool r) w) := by
  have HB := Lib.hid (Below.refl w.heap.size w)
  unfold P at H
  go_enter Tryz.func72, Tryz.ntmps72
  replace H := bind_hid H
  obtain ⟨t_2, qt_2, H⟩ := H
  go_wp2_with fail
  go_at_call 52
  refine (Go.Proofs.YtihibckijdfidaaGreat.GsL1In.C (d_0) (0) (4000)  _    qt_2).mono ?_
  rintro e_t_2 wt_2 ⟨rfl, bt_2⟩
  have HBwt_2 := Lib.hid (Below.step HB.out bt_2)
  clear bt_2
  obtain rfl := ret_hid H
  go_wp2_with fail
  go_ret
  exact ⟨rfl, HBwt_2.out⟩
end Go.Proofs.YtihibckijdfidaaGreat.GsL2Day

namespace Go.Proofs.YtihibckijdfidaaGreat.GsL8Cents
open Go.RowKit
open Go.Proofs.YtihibckijdfidaaGreat.Rowed Go.Proofs.YtihibckijdfidaaGreat.Turn Go.Proofs.YtihibckijdfidaaGreat.Aid Go.Proofs.YtihibckijdfidaaGreat.GoP Go.Proofs.YtihibckijdfidaaGreat.GoM

def P (cents : Int) : Option (Bool) :=
  Option.bind (Go.Proofs.YtihibckijdfidaaGreat.GsL1In.P cents 1 9999) fun (t_2 : Bool) =>
  some t_2

set_option maxRecDepth 100000 in
set_option maxHeartbeats 2000000 in
theorem C (cents : Int)   (w : World)   {r : Bool} (H : Hid (P cents = some r)) :
    Calls Tryz.prog 75 #[.int .i64 cents] w (Gives (.bool r) w) := by
  have HB := Lib.hid (Below.refl w.heap.size w)
  unfold P at H
  go_enter Tryz.func75, Tryz.ntmps75
  replace H := bind_hid H
  obtain ⟨t_2, qt_2, H⟩ := H
  go_wp2_with fail
  go_at_call 52
  refine (Go.Proofs.YtihibckijdfidaaGreat.GsL1In.C (cents) (1) (9999)  _    qt_2).mono ?_
  rintro e_t_2 wt_2 ⟨rfl, bt_2⟩
  have HBwt_2 := Lib.hid (Below.step HB.out bt_2)
  clear bt_2
  obtain rfl := ret_hid H
  go_wp2_with fail
  go_ret
  exact ⟨rfl, HBwt_2.out⟩
end Go.Proofs.YtihibckijdfidaaGreat.GsL8Cents

namespace Go.Proofs.YtihibckijdfidaaGreat.GsL8One
open Go.RowKit
open Go.Proofs.YtihibckijdfidaaGreat.Rowed Go.Proofs.YtihibckijdfidaaGreat.Turn Go.Proofs.YtihibckijdfidaaGreat.Aid Go.Proofs.YtihibckijdfidaaGreat.GoP Go.Proofs.YtihibckijdfidaaGreat.GoM

def P (r_0 : PRate.Rate) : Option (Bool) :=
 unRate r_0 fun (r_0_zone : Int) (r_0_grams : Int) (r_0_from_ : Int) (r_0_until_ : Int) (r_0_cents : Int) =>
 Option.bind (GsL8Zone.P r_0_zone) fun (t_4 : Bool) =>
 joinK (fun (t_9 : Bool) =>
 joinK (fun (t_14 : Bool) =>
 joinK (fun (t_21 : Bool) =>
 joinK (fun (t_26 : Bool) =>
 some t_26) fun jt_26 => iteK t_21 (Option.bind (GsL8Cents.P r_0_cents) fun (t_25 : Bool) =>
 appK jt_26 t_25) (appK jt_26 false)) fun jt_21 => iteK t_14 (Option.bind (GsL1In.P r_0_from_ 0 r_0_until_) fun (t_20 : Bool) =>
 appK jt_21 t_20) (appK jt_21 false)) fun jt_14 => iteK t_9 (Option.bind (GsL2Day.P r_0_until_) fun (t_13 : Bool) =>
 appK jt_14 t_13) (appK jt_14 false)) fun jt_9 => iteK t_4 (Option.bind (GsL8Grams.P r_0_grams) fun (t_8 : Bool) =>
 appK jt_9 t_8) (appK jt_9 false)

set_option maxRecDepth 100000 in
set_option maxHeartbeats 2000000 in
theorem C (r_0 : PRate.Rate)   (w : World)   {r : Bool} (H : Hid (P r_0 = some r)) :
  Calls Tryz.prog 70 #[r_0.val] w (Gives (.bool r) w) := by
 have HB := Lib.hid (Below.refl w.heap.size w); unfold P at H; obtain ⟨n10, o10, m10, k10, l10⟩ := r_0; replace H := unRate_hid H; unfold PRate.Rate.val
 go_enter Tryz.func70, Tryz.ntmps70
 obtain ⟨i10, j10⟩ : ∃ x, w.alloc (.cells #[.int .i64 n10, .int .i64 o10, .int .i64 m10, .int .i64 k10, .int .i64 l10] 88) = x := ⟨_, rfl⟩; have r10 : Below w.heap.size w i10 := (by rw [← j10]; exact (Below.refl _ _).alloc (Nat.le_refl _) _); have y10 := Lib.hid (Below.step HB.out r10); clear r10; have e10 : i10.cell? ⟨w.heap.size, 0, none⟩ = some (.int .i64 n10) := (by rw [← j10]; exact box_new _ _ _ 0 _ rfl); have d10 : i10.cell? ⟨w.heap.size, 1, none⟩ = some (.int .i64 o10) := (by rw [← j10]; exact box_new _ _ _ 1 _ rfl); have c10 : i10.cell? ⟨w.heap.size, 2, none⟩ = some (.int .i64 m10) := (by rw [← j10]; exact box_new _ _ _ 2 _ rfl); have b10 : i10.cell? ⟨w.heap.size, 3, none⟩ = some (.int .i64 k10) := (by rw [← j10]; exact box_new _ _ _ 3 _ rfl); have a10 : i10.cell? ⟨w.heap.size, 4, none⟩ = some (.int .i64 l10) := (by rw [← j10]; exact box_new _ _ _ 4 _ rfl); replace H := bind_hid H; obtain ⟨t_4, qt_4, H⟩ := H; go_wp2_with fail; go_at_call 73; refine (GsL8Zone.C (n10)  _    qt_4).mono ?_; rintro b11 wt_4 ⟨rfl, bt_4⟩; have s10 := Lib.hid (Below.step y10.out bt_4); replace e10 := cell_below bt_4 e10; replace d10 := cell_below bt_4 d10; replace c10 := cell_below bt_4 c10; replace b10 := cell_below bt_4 b10; replace a10 := cell_below bt_4 a10; clear bt_4; replace H := join_hid H
 cases t_4 with
 | false =>
  replace H := ite_f H; replace H := app_hid H; replace H := join_hid H; replace H := ite_f H; replace H := app_hid H; replace H := join_hid H; replace H := ite_f H; replace H := app_hid H; replace H := join_hid H; replace H := ite_f H; replace H := app_hid H; obtain rfl := ret_hid H; go_wp2_with fail; go_ret; exact ⟨rfl, s10.out⟩
 | true =>
  replace H := ite_t H; replace H := bind_hid H; obtain ⟨t_8, qt_8, H⟩ := H; go_wp2_with fail; go_at_call 74; refine (GsL8Grams.C (o10)  _    qt_8).mono ?_; rintro c11 wt_8 ⟨rfl, bt_8⟩; have t10 := Lib.hid (Below.step s10.out bt_8); replace e10 := cell_below bt_8 e10; replace d10 := cell_below bt_8 d10; replace c10 := cell_below bt_8 c10; replace b10 := cell_below bt_8 b10; replace a10 := cell_below bt_8 a10; clear bt_8; replace H := app_hid H; replace H := join_hid H
  cases t_8 with
  | false =>
   replace H := ite_f H; replace H := app_hid H; replace H := join_hid H; replace H := ite_f H; replace H := app_hid H; replace H := join_hid H; replace H := ite_f H; replace H := app_hid H; obtain rfl := ret_hid H; go_wp2_with fail; go_ret; exact ⟨rfl, t10.out⟩
  | true =>
   replace H := ite_t H; replace H := bind_hid H; obtain ⟨t_13, w10, H⟩ := H; go_wp2_with fail; go_at_call 72; refine (GsL2Day.C (k10)  _    w10).mono ?_; rintro e11 a11 ⟨rfl, g10⟩; have p10 := Lib.hid (Below.step t10.out g10); replace e10 := cell_below g10 e10; replace d10 := cell_below g10 d10; replace c10 := cell_below g10 c10; replace b10 := cell_below g10 b10; replace a10 := cell_below g10 a10; clear g10; replace H := app_hid H; replace H := join_hid H
   cases t_13 with
   | false =>
    replace H := ite_f H; replace H := app_hid H; replace H := join_hid H; replace H := ite_f H; replace H := app_hid H; obtain rfl := ret_hid H; go_wp2_with fail; go_ret; exact ⟨rfl, p10.out⟩
   | true =>
    replace H := ite_t H; replace H := bind_hid H; obtain ⟨t_20, v10, H⟩ := H; go_wp2_with fail; go_at_call 52; refine (GsL1In.C (m10) (0) (k10)  _    v10).mono ?_; rintro f11 d11 ⟨rfl, f10⟩; have q10 := Lib.hid (Below.step p10.out f10); replace e10 := cell_below f10 e10; replace d10 := cell_below f10 d10; replace c10 := cell_below f10 c10; replace b10 := cell_below f10 b10; replace a10 := cell_below f10 a10; clear f10; replace H := app_hid H; replace H := join_hid H
    cases t_20 with
    | false =>
     replace H := ite_f H; replace H := app_hid H; obtain rfl := ret_hid H; go_wp2_with fail; go_ret; exact ⟨rfl, q10.out⟩
    | true =>
     replace H := ite_t H; replace H := bind_hid H; obtain ⟨t_25, z10, H⟩ := H; go_wp2_with fail; go_at_call 75; refine (GsL8Cents.C (l10)  _    z10).mono ?_; rintro g11 h11 ⟨rfl, h10⟩; have x10 := Lib.hid (Below.step q10.out h10); replace e10 := cell_below h10 e10; replace d10 := cell_below h10 d10; replace c10 := cell_below h10 c10; replace b10 := cell_below h10 b10; replace a10 := cell_below h10 a10; clear h10; replace H := app_hid H; obtain rfl := ret_hid H; go_wp2_with fail; go_ret; exact ⟨rfl, x10.out⟩
end Go.Proofs.YtihibckijdfidaaGreat.GsL8One

namespace Go.Proofs.YtihibckijdfidaaGreat.GsL8Code
open Go.RowKit
open Go.Proofs.YtihibckijdfidaaGreat.Rowed Go.Proofs.YtihibckijdfidaaGreat.Turn Go.Proofs.YtihibckijdfidaaGreat.Aid Go.Proofs.YtihibckijdfidaaGreat.GoP Go.Proofs.YtihibckijdfidaaGreat.GoM

def P (r_0 : PRate.Rate) : Option (Int) :=
 unRate r_0 fun (r_0_zone : Int) (r_0_grams : Int) (r_0_from_ : Int) (r_0_until_ : Int) (r_0_cents : Int) =>
 letK (IntKind.i64.wrap (10000 * r_0_zone)) fun (t_4 : Int) =>
 letK (IntKind.i64.wrap (t_4 + r_0_grams)) fun (t_7 : Int) =>
 letK (IntKind.i64.wrap (t_7 * 10000)) fun (t_8 : Int) =>
 letK (IntKind.i64.wrap (t_8 + r_0_from_)) fun (t_11 : Int) =>
 some t_11

set_option maxRecDepth 100000 in
set_option maxHeartbeats 2000000 in
theorem C (r_0 : PRate.Rate)   (w : World)   {r : Int} (H : Hid (P r_0 = some r)) :
  Calls Tryz.prog 71 #[r_0.val] w (Gives (.int .i64 r) w) := by
 have HB := Lib.hid (Below.refl w.heap.size w); unfold P at H; obtain ⟨h10, c10, g10, f10, d10⟩ := r_0; replace H := unRate_hid H; unfold PRate.Rate.val
 go_enter Tryz.func71, Tryz.ntmps71
 obtain ⟨a10, b10⟩ : ∃ x, w.alloc (.cells #[.int .i64 h10, .int .i64 c10, .int .i64 g10, .int .i64 f10, .int .i64 d10] 88) = x := ⟨_, rfl⟩; have e10 : Below w.heap.size w a10 := (by rw [← b10]; exact (Below.refl _ _).alloc (Nat.le_refl _) _); have i10 := Lib.hid (Below.step HB.out e10); clear e10; have j10 : a10.cell? ⟨w.heap.size, 0, none⟩ = some (.int .i64 h10) := (by rw [← b10]; exact box_new _ _ _ 0 _ rfl); have l10 : a10.cell? ⟨w.heap.size, 1, none⟩ = some (.int .i64 c10) := (by rw [← b10]; exact box_new _ _ _ 1 _ rfl); have o10 : a10.cell? ⟨w.heap.size, 2, none⟩ = some (.int .i64 g10) := (by rw [← b10]; exact box_new _ _ _ 2 _ rfl); have n10 : a10.cell? ⟨w.heap.size, 3, none⟩ = some (.int .i64 f10) := (by rw [← b10]; exact box_new _ _ _ 3 _ rfl); have m10 : a10.cell? ⟨w.heap.size, 4, none⟩ = some (.int .i64 d10) := (by rw [← b10]; exact box_new _ _ _ 4 _ rfl); replace H := let_hid H; obtain ⟨t_4, ht_4, H⟩ := H; replace H := let_hid H; obtain ⟨t_7, ht_7, H⟩ := H; replace H := let_hid H; obtain ⟨t_8, ht_8, H⟩ := H; replace H := let_hid H; obtain ⟨t_11, k10, H⟩ := H; obtain rfl := ret_hid H; go_wp2_with fail; go_ret; exact ⟨rfl, i10.out⟩
end Go.Proofs.YtihibckijdfidaaGreat.GsL8Code

namespace Go.Proofs.YtihibckijdfidaaGreat.GsL8Good
open Go.RowKit
open Go.Proofs.YtihibckijdfidaaGreat.Rowed Go.Proofs.YtihibckijdfidaaGreat.Turn Go.Proofs.YtihibckijdfidaaGreat.Aid Go.Proofs.YtihibckijdfidaaGreat.GoP Go.Proofs.YtihibckijdfidaaGreat.GoM

def l0 (list : (List PRate.Rate)) (s : Int) (nx0 bk0 : Int → Option (Bool)) : Option (Bool) :=
 letK s fun i_3l0 =>
 letK (decide (i_3l0 < (list.length : Int))) fun (t_5 : Bool) =>
 joinK (fun (t_9 : Bool) =>
 iteK t_9
 (Option.bind (idx list i_3l0) fun (yt_12 : PRate.Rate) =>
 unRate yt_12 fun (t_12_zone : Int) (t_12_grams : Int) (t_12_from_ : Int) (t_12_until_ : Int) (t_12_cents : Int) =>
 Option.bind (GsL8One.P (PRate.Rate.mk t_12_zone t_12_grams t_12_from_ t_12_until_ t_12_cents)) fun (t_14 : Bool) =>
 letK (!t_14) fun (t_15 : Bool) =>
 joinK (fun (t_33 : Bool) =>
 iteK t_33
 (some false)
 (letK (decide (0 < i_3l0)) fun (t_36 : Bool) =>
 joinK (fun (t_50 : Bool) =>
 joinK (fun (t_64 : Bool) =>
 joinK (fun (t_78 : Bool) =>
 iteK t_78
 (some false)
 (letK (IntKind.i64.wrap (i_3l0 + 1)) fun (t_81 : Int) =>
 appK nx0 (t_81))) fun jt_78 => iteK t_64 (letK (IntKind.i64.wrap (i_3l0 - 1)) fun (t_68 : Int) =>
 Option.bind (idx list t_68) fun (yt_69 : PRate.Rate) =>
 unRate yt_69 fun (t_69_zone : Int) (t_69_grams : Int) (t_69_from_ : Int) (t_69_until_ : Int) (t_69_cents : Int) =>
 Option.bind (idx list i_3l0) fun (yt_74 : PRate.Rate) =>
 unRate yt_74 fun (t_74_zone : Int) (t_74_grams : Int) (t_74_from_ : Int) (t_74_until_ : Int) (t_74_cents : Int) =>
 letK (decide (t_74_from_ ≤ t_69_until_)) fun (t_77 : Bool) =>
 appK jt_78 t_77) (appK jt_78 false)) fun jt_64 => iteK t_50 (letK (IntKind.i64.wrap (i_3l0 - 1)) fun (t_54 : Int) =>
 Option.bind (idx list t_54) fun (yt_55 : PRate.Rate) =>
 unRate yt_55 fun (t_55_zone : Int) (t_55_grams : Int) (t_55_from_ : Int) (t_55_until_ : Int) (t_55_cents : Int) =>
 Option.bind (idx list i_3l0) fun (yt_60 : PRate.Rate) =>
 unRate yt_60 fun (t_60_zone : Int) (t_60_grams : Int) (t_60_from_ : Int) (t_60_until_ : Int) (t_60_cents : Int) =>
 letK (t_55_grams == t_60_grams) fun (t_63 : Bool) =>
 appK jt_64 t_63) (appK jt_64 false)) fun jt_50 => iteK t_36 (letK (IntKind.i64.wrap (i_3l0 - 1)) fun (t_40 : Int) =>
 Option.bind (idx list t_40) fun (yt_41 : PRate.Rate) =>
 unRate yt_41 fun (t_41_zone : Int) (t_41_grams : Int) (t_41_from_ : Int) (t_41_until_ : Int) (t_41_cents : Int) =>
 Option.bind (idx list i_3l0) fun (yt_46 : PRate.Rate) =>
 unRate yt_46 fun (t_46_zone : Int) (t_46_grams : Int) (t_46_from_ : Int) (t_46_until_ : Int) (t_46_cents : Int) =>
 letK (t_41_zone == t_46_zone) fun (t_49 : Bool) =>
 appK jt_50 t_49) (appK jt_50 false))) fun jt_33 => iteK t_15 (appK jt_33 true) (letK (decide (0 < i_3l0)) fun (t_18 : Bool) =>
 joinK (fun (t_32 : Bool) =>
 appK jt_33 t_32) fun jt_32 => iteK t_18 (letK (IntKind.i64.wrap (i_3l0 - 1)) fun (t_22 : Int) =>
 Option.bind (idx list t_22) fun (yt_23 : PRate.Rate) =>
 unRate yt_23 fun (t_23_zone : Int) (t_23_grams : Int) (t_23_from_ : Int) (t_23_until_ : Int) (t_23_cents : Int) =>
 Option.bind (GsL8Code.P (PRate.Rate.mk t_23_zone t_23_grams t_23_from_ t_23_until_ t_23_cents)) fun (t_25 : Int) =>
 Option.bind (idx list i_3l0) fun (yt_28 : PRate.Rate) =>
 unRate yt_28 fun (t_28_zone : Int) (t_28_grams : Int) (t_28_from_ : Int) (t_28_until_ : Int) (t_28_cents : Int) =>
 Option.bind (GsL8Code.P (PRate.Rate.mk t_28_zone t_28_grams t_28_from_ t_28_until_ t_28_cents)) fun (t_30 : Int) =>
 letK (decide (t_30 ≤ t_25)) fun (t_31 : Bool) =>
 appK jt_32 t_31) (appK jt_32 false)))
 (appK bk0 (i_3l0))) fun jt_9 => iteK t_5 (letK (decide (i_3l0 ≤ 16)) fun (t_8 : Bool) =>
 appK jt_9 t_8) (appK jt_9 false)

def e0 (list : (List PRate.Rate)) (s : Int) : Option (Bool) :=
 letK s fun i_3l0 =>
 letK (decide ((list.length : Int) ≤ 16)) fun (t_85 : Bool) =>
 some t_85

def P (fuel : Nat) (list : (List PRate.Rate)) : Option (Bool) :=
 loopK (l0 list) fuel (0) (e0 list)

set_option maxRecDepth 100000 in
set_option maxHeartbeats 2000000 in
theorem C (fuel : Nat) (list : (List PRate.Rate)) (A0 : Option Addr) (c0 : Nat)  (w : World) (M0 : Hid (Cells w 5 A0 list.length (PRate.flat list))) (N0 : Hid (list.length ≤ 9223372036854775807))  {r : Bool} (H : Hid (P fuel list = some r)) :
  Calls Tryz.prog 34 #[.slice A0 list.length c0] w (Gives (.bool r) w) := by
 have HB := Lib.hid (Below.refl w.heap.size w); unfold P at H; have N0o := N0.out
 go_enter Tryz.func34, Tryz.ntmps34
 go_wp2_with fail; go_loopg [3] (fuel) (fun m_ v3_ wr => ∃ (n11 : Int), v3_ = .int .i64 n11 ∧ Hid (loopK (l0 list) m_ (n11) (e0 list) = some r) ∧ Hid (Below w.heap.size w wr))
 case atStart => exact ⟨_, rfl, H, HB⟩
 case round =>
  obtain ⟨n11, rfl, H, p10⟩ := hrel; rename World => wr0
  cases gk with
  | zero => exact (loop_zero H).elim
  | succ m0 =>
   replace H := loop_succ H; unfold l0 at H; replace H := let_hid H; obtain ⟨_, rfl, H⟩ := H; replace H := let_hid H; obtain ⟨t_5, ht_5, H⟩ := H; replace H := join_hid H
   cases t_5 with
   | false =>
    replace H := ite_f H; replace H := app_hid H; replace H := ite_f H; replace H := app_hid H; unfold e0 at H; replace H := let_hid H; obtain ⟨_, rfl, H⟩ := H; replace H := let_hid H; obtain ⟨t_85, p12, H⟩ := H; obtain rfl := ret_hid H; go_wp2_with fail; go_ret; exact ⟨rfl, p10.out⟩
   | true =>
    replace H := ite_t H; replace H := let_hid H; obtain ⟨t_8, ht_8, H⟩ := H; replace H := app_hid H
    cases t_8 with
    | false =>
     replace H := ite_f H; replace H := app_hid H; unfold e0 at H; replace H := let_hid H; obtain ⟨_, rfl, H⟩ := H; replace H := let_hid H; obtain ⟨t_85, p12, H⟩ := H; obtain rfl := ret_hid H; go_wp2_with fail; go_ret; exact ⟨rfl, p10.out⟩
    | true =>
     replace H := ite_t H; go_wp2_with fail; replace H := idx_hid H; obtain ⟨q10, d13, s12, w12, z10, H⟩ := H; subst s12; have q14 : q10 < list.length := (by have := of_decide_eq_true ht_5; omega); have c14 : q10 ≤ 16 := (by have := of_decide_eq_true ht_8; omega); obtain ⟨a11, g11, e11, b11, d11⟩ := d13; replace H := unRate_hid H; obtain ⟨b14, q13, y13, f13, x11, a10, b10, e10, d10, c10⟩ := ORate.at_ M0.out w12; obtain rfl := Option.some.inj (z10.out.symm.trans x11); subst f13; have g14 := cell_lt a10; replace a10 := cell_below p10.out a10; replace b10 := cell_below p10.out b10; replace e10 := cell_below p10.out e10; replace d10 := cell_below p10.out d10; replace c10 := cell_below p10.out c10; clear x11; have s13 : (0 : Int) ≤ (q10 : Int) := (by omega); have p13 : (q10 : Int) < ((list.length : Nat) : Int) := (by omega); have x13 : ((q10 : Int)).toNat = q10 := (by omega); have k10 := Lib.hid a10; replace a10 := cell_regrown a10; have l10 := Lib.hid b10; replace b10 := cell_regrown b10; have m10 := Lib.hid e10; replace e10 := cell_regrown e10; have n10 := Lib.hid d10; replace d10 := cell_regrown d10; have o10 := Lib.hid c10; replace c10 := cell_regrown c10; replace H := bind_hid H; obtain ⟨t_14, j13, H⟩ := H; have y10 : ∀ d os, Calls Tryz.prog 70 #[.agg #[.int .i64 a11, .int .i64 g11, .int .i64 e11, .int .i64 b11, .int .i64 d11]] (Go.Sort.grow (redrawn wr0 d) os) fun e w'' => e = .returned (.bool t_14) ∧ ∃ p : Regrown, w'' = Go.Sort.grow (redrawn wr0 p.d) p.os := fun d os => Calls.regrown_of (GsL8One.C ((PRate.Rate.mk a11 g11 e11 b11 d11))  _    j13)
     cases t_14 with
     | false =>
      replace H := let_hid H; obtain ⟨t_15, l11, H⟩ := H; obtain rfl : t_15 = true := l11.symm; replace H := join_hid H; replace H := ite_t H; replace H := app_hid H; refine wp_region_quiet_below (by kernel_rfl) (by kernel_rfl) ?_
      repeat (go_big_quiet_step (first | (go_at_call 70; exact y10 _ _)))
      refine wpQuiet_nil ?_; intro Y4 hY4; replace hY4 := below_class hY4; clear y10; replace a10 := k10.out; clear k10; replace b10 := l10.out; clear l10; replace e10 := m10.out; clear m10; replace d10 := n10.out; clear n10; replace c10 := o10.out; clear o10; have HBY4 := Lib.hid (Below.step p10.out hY4); replace a10 := cell_below hY4 a10; replace b10 := cell_below hY4 b10; replace e10 := cell_below hY4 e10; replace d10 := cell_below hY4 d10; replace c10 := cell_below hY4 c10; clear hY4; replace H := ite_t H; obtain rfl := ret_hid H; go_wp2_with fail; go_ret; exact ⟨rfl, HBY4.out⟩
     | true =>
      replace H := let_hid H; obtain ⟨t_15, l11, H⟩ := H; obtain rfl : t_15 = false := l11.symm; replace H := join_hid H; replace H := ite_f H; replace H := let_hid H; obtain ⟨t_18, f11, H⟩ := H; replace H := join_hid H
      cases t_18 with
      | false =>
       have n13 : ¬ (0 < q10) := (by have := of_decide_eq_false f11; omega); replace H := ite_f H; replace H := app_hid H; replace H := app_hid H; refine wp_region_quiet_below (by kernel_rfl) (by kernel_rfl) ?_
       repeat (go_big_quiet_step (first | (go_at_call 70; exact y10 _ _)))
       refine wpQuiet_nil ?_; intro Y4 hY4; replace hY4 := below_class hY4; clear y10; replace a10 := k10.out; clear k10; replace b10 := l10.out; clear l10; replace e10 := m10.out; clear m10; replace d10 := n10.out; clear n10; replace c10 := o10.out; clear o10; have HBY4 := Lib.hid (Below.step p10.out hY4); replace a10 := cell_below hY4 a10; replace b10 := cell_below hY4 b10; replace e10 := cell_below hY4 e10; replace d10 := cell_below hY4 d10; replace c10 := cell_below hY4 c10; clear hY4; replace H := ite_f H; go_wp2_with fail; have k10 := Lib.hid a10; replace a10 := cell_regrown a10; have l10 := Lib.hid b10; replace b10 := cell_regrown b10; have m10 := Lib.hid e10; replace e10 := cell_regrown e10; have n10 := Lib.hid d10; replace d10 := cell_regrown d10; have o10 := Lib.hid c10; replace c10 := cell_regrown c10; replace H := let_hid H; obtain ⟨t_36, j11, H⟩ := H; obtain rfl := f11.symm.trans j11; replace H := join_hid H; replace H := ite_f H; replace H := app_hid H; replace H := join_hid H; replace H := ite_f H; replace H := app_hid H; replace H := join_hid H; replace H := ite_f H; replace H := app_hid H; refine wp_region_quiet_below (by kernel_rfl) (by kernel_rfl) ?_
       repeat (go_big_quiet_step (fail))
       refine wpQuiet_nil ?_; intro Y6 hY6; replace hY6 := below_class hY6; replace a10 := k10.out; clear k10; replace b10 := l10.out; clear l10; replace e10 := m10.out; clear m10; replace d10 := n10.out; clear n10; replace c10 := o10.out; clear o10; have HBY6 := Lib.hid (Below.step HBY4.out hY6); replace a10 := cell_below hY6 a10; replace b10 := cell_below hY6 b10; replace e10 := cell_below hY6 e10; replace d10 := cell_below hY6 d10; replace c10 := cell_below hY6 c10; clear hY6; replace H := ite_f H; replace H := let_hid H; obtain ⟨t_81, m11, H⟩ := H; replace H := app_hid H; go_wp2_with fail
       go_roundg m0
       case measure => omega
       case rel => exact ⟨_, rfl, H, HBY6⟩
      | true =>
       have n13 : 0 < q10 := (by have := of_decide_eq_true f11; omega); replace H := ite_t H; replace H := let_hid H; obtain ⟨t_22, h11, H⟩ := H; replace H := idx_hid H; obtain ⟨x10, m12, h12, i13, c11, H⟩ := H; subst h12; obtain ⟨d12, w11, a12, o11, p11⟩ := m12; replace H := unRate_hid H; obtain ⟨k14, z13, i14, q11, r11, f10, h10, j10, i10, g10⟩ := ORate.at_ M0.out i13; obtain rfl := Option.some.inj (c11.out.symm.trans r11); simp only [Option.some.injEq, Addr.mk.injEq] at q11; obtain ⟨rfl, rfl, _⟩ := q11; have w13 := cell_lt f10; replace f10 := cell_below p10.out f10; replace h10 := cell_below p10.out h10; replace j10 := cell_below p10.out j10; replace i10 := cell_below p10.out i10; replace g10 := cell_below p10.out g10; clear r11; have l14 : (0 : Int) ≤ (x10 : Int) := (by omega); have e14 : (x10 : Int) < ((list.length : Nat) : Int) := (by omega); have r13 : ((x10 : Int)).toNat = x10 := (by omega); have t10 := Lib.hid f10; replace f10 := cell_regrown f10; have r10 := Lib.hid h10; replace h10 := cell_regrown h10; have v10 := Lib.hid j10; replace j10 := cell_regrown j10; have w10 := Lib.hid i10; replace i10 := cell_regrown i10; have s10 := Lib.hid g10; replace g10 := cell_regrown g10; replace H := bind_hid H; obtain ⟨t_25, z12, H⟩ := H; have k11 : ∀ d os, Calls Tryz.prog 71 #[.agg #[.int .i64 d12, .int .i64 w11, .int .i64 a12, .int .i64 o11, .int .i64 p11]] (Go.Sort.grow (redrawn wr0 d) os) fun e w'' => e = .returned (.int .i64 t_25) ∧ ∃ p : Regrown, w'' = Go.Sort.grow (redrawn wr0 p.d) p.os := fun d os => Calls.regrown_of (GsL8Code.C ((PRate.Rate.mk d12 w11 a12 o11 p11))  _    z12); replace H := idx_hid H; obtain ⟨j12, n14, e13, q12, v11, H⟩ := H; obtain rfl : q10 = j12 := (by omega); clear e13; obtain rfl := Option.some.inj (z10.out.symm.trans v11.out); clear v11 q12; replace H := unRate_hid H; replace H := bind_hid H; obtain ⟨t_30, o13, H⟩ := H; have i11 : ∀ d os, Calls Tryz.prog 71 #[.agg #[.int .i64 a11, .int .i64 g11, .int .i64 e11, .int .i64 b11, .int .i64 d11]] (Go.Sort.grow (redrawn wr0 d) os) fun e w'' => e = .returned (.int .i64 t_30) ∧ ∃ p : Regrown, w'' = Go.Sort.grow (redrawn wr0 p.d) p.os := fun d os => Calls.regrown_of (GsL8Code.C ((PRate.Rate.mk a11 g11 e11 b11 d11))  _    o13); replace H := let_hid H; obtain ⟨t_31, m14, H⟩ := H; replace H := app_hid H; replace H := app_hid H; refine wp_region_quiet_below (by kernel_rfl) (by kernel_rfl) ?_
       repeat (go_big_quiet_step (first | (go_at_call 71; with_reducible exact k11 _ _) | (go_at_call 71; with_reducible exact i11 _ _) | (go_at_call 70; exact y10 _ _) | (go_at_call 71; exact k11 _ _) | (go_at_call 71; exact i11 _ _)))
       refine wpQuiet_nil ?_; intro Y4 hY4; replace hY4 := below_class hY4; clear y10 k11 i11; replace a10 := k10.out; clear k10; replace b10 := l10.out; clear l10; replace e10 := m10.out; clear m10; replace d10 := n10.out; clear n10; replace c10 := o10.out; clear o10; replace f10 := t10.out; clear t10; replace h10 := r10.out; clear r10; replace j10 := v10.out; clear v10; replace i10 := w10.out; clear w10; replace g10 := s10.out; clear s10; have HBY4 := Lib.hid (Below.step p10.out hY4); replace a10 := cell_below hY4 a10; replace b10 := cell_below hY4 b10; replace e10 := cell_below hY4 e10; replace d10 := cell_below hY4 d10; replace c10 := cell_below hY4 c10; replace f10 := cell_below hY4 f10; replace h10 := cell_below hY4 h10; replace j10 := cell_below hY4 j10; replace i10 := cell_below hY4 i10; replace g10 := cell_below hY4 g10; clear hY4
       cases t_31 with
       | false =>
        replace H := ite_f H; go_wp2_with fail; have k10 := Lib.hid a10; replace a10 := cell_regrown a10; have l10 := Lib.hid b10; replace b10 := cell_regrown b10; have m10 := Lib.hid e10; replace e10 := cell_regrown e10; have n10 := Lib.hid d10; replace d10 := cell_regrown d10; have o10 := Lib.hid c10; replace c10 := cell_regrown c10; have t10 := Lib.hid f10; replace f10 := cell_regrown f10; have r10 := Lib.hid h10; replace h10 := cell_regrown h10; have v10 := Lib.hid j10; replace j10 := cell_regrown j10; have w10 := Lib.hid i10; replace i10 := cell_regrown i10; have s10 := Lib.hid g10; replace g10 := cell_regrown g10; replace H := let_hid H; obtain ⟨t_36, j11, H⟩ := H; obtain rfl := f11.symm.trans j11; replace H := join_hid H; replace H := ite_t H; replace H := let_hid H; obtain ⟨t_40, x12, H⟩ := H; obtain rfl := h11.symm.trans x12; replace H := idx_hid H; obtain ⟨l13, o14, y12, o12, s11, H⟩ := H; obtain rfl : x10 = l13 := (by omega); clear y12; obtain rfl := Option.some.inj (c11.out.symm.trans s11.out); clear s11 o12; replace H := unRate_hid H; replace H := idx_hid H; obtain ⟨h13, d14, a13, e12, b12, H⟩ := H; obtain rfl : q10 = h13 := (by omega); clear a13; obtain rfl := Option.some.inj (z10.out.symm.trans b12.out); clear b12 e12; replace H := unRate_hid H; replace H := let_hid H; obtain ⟨t_49, f14, H⟩ := H; replace H := app_hid H; replace H := join_hid H
        cases t_49 with
        | false =>
         replace H := ite_f H; replace H := app_hid H; replace H := join_hid H; replace H := ite_f H; replace H := app_hid H; refine wp_region_quiet_below (by kernel_rfl) (by kernel_rfl) ?_
         repeat (go_big_quiet_step (fail))
         refine wpQuiet_nil ?_; intro Y6 hY6; replace hY6 := below_class hY6; replace a10 := k10.out; clear k10; replace b10 := l10.out; clear l10; replace e10 := m10.out; clear m10; replace d10 := n10.out; clear n10; replace c10 := o10.out; clear o10; replace f10 := t10.out; clear t10; replace h10 := r10.out; clear r10; replace j10 := v10.out; clear v10; replace i10 := w10.out; clear w10; replace g10 := s10.out; clear s10; have HBY6 := Lib.hid (Below.step HBY4.out hY6); replace a10 := cell_below hY6 a10; replace b10 := cell_below hY6 b10; replace e10 := cell_below hY6 e10; replace d10 := cell_below hY6 d10; replace c10 := cell_below hY6 c10; replace f10 := cell_below hY6 f10; replace h10 := cell_below hY6 h10; replace j10 := cell_below hY6 j10; replace i10 := cell_below hY6 i10; replace g10 := cell_below hY6 g10; clear hY6; replace H := ite_f H; replace H := let_hid H; obtain ⟨t_81, m11, H⟩ := H; replace H := app_hid H; go_wp2_with fail
         go_roundg m0
         case measure => omega
         case rel => exact ⟨_, rfl, H, HBY6⟩
        | true =>
         replace H := ite_t H; replace H := let_hid H; obtain ⟨t_54, g13, H⟩ := H; obtain rfl := h11.symm.trans g13; replace H := idx_hid H; obtain ⟨m13, t13, i12, b13, z11, H⟩ := H; obtain rfl : x10 = m13 := (by omega); clear i12; obtain rfl := Option.some.inj (c11.out.symm.trans z11.out); clear z11 b13; replace H := unRate_hid H; replace H := idx_hid H; obtain ⟨l12, p14, c13, t12, y11, H⟩ := H; obtain rfl : q10 = l12 := (by omega); clear c13; obtain rfl := Option.some.inj (z10.out.symm.trans y11.out); clear y11 t12; replace H := unRate_hid H; replace H := let_hid H; obtain ⟨t_63, a14, H⟩ := H; replace H := app_hid H; replace H := join_hid H
         cases t_63 with
         | false =>
          replace H := ite_f H; replace H := app_hid H; refine wp_region_quiet_below (by kernel_rfl) (by kernel_rfl) ?_
          repeat (go_big_quiet_step (fail))
          refine wpQuiet_nil ?_; intro Y6 hY6; replace hY6 := below_class hY6; replace a10 := k10.out; clear k10; replace b10 := l10.out; clear l10; replace e10 := m10.out; clear m10; replace d10 := n10.out; clear n10; replace c10 := o10.out; clear o10; replace f10 := t10.out; clear t10; replace h10 := r10.out; clear r10; replace j10 := v10.out; clear v10; replace i10 := w10.out; clear w10; replace g10 := s10.out; clear s10; have HBY6 := Lib.hid (Below.step HBY4.out hY6); replace a10 := cell_below hY6 a10; replace b10 := cell_below hY6 b10; replace e10 := cell_below hY6 e10; replace d10 := cell_below hY6 d10; replace c10 := cell_below hY6 c10; replace f10 := cell_below hY6 f10; replace h10 := cell_below hY6 h10; replace j10 := cell_below hY6 j10; replace i10 := cell_below hY6 i10; replace g10 := cell_below hY6 g10; clear hY6; replace H := ite_f H; replace H := let_hid H; obtain ⟨t_81, m11, H⟩ := H; replace H := app_hid H; go_wp2_with fail
          go_roundg m0
          case measure => omega
          case rel => exact ⟨_, rfl, H, HBY6⟩
         | true =>
          replace H := ite_t H; replace H := let_hid H; obtain ⟨t_68, n12, H⟩ := H; obtain rfl := h11.symm.trans n12; replace H := idx_hid H; obtain ⟨g12, v13, v12, k12, c12, H⟩ := H; obtain rfl : x10 = g12 := (by omega); clear v12; obtain rfl := Option.some.inj (c11.out.symm.trans c12.out); clear c12 k12; replace H := unRate_hid H; replace H := idx_hid H; obtain ⟨r12, h14, f12, k13, t11, H⟩ := H; obtain rfl : q10 = r12 := (by omega); clear f12; obtain rfl := Option.some.inj (z10.out.symm.trans t11.out); clear t11 k13; replace H := unRate_hid H; replace H := let_hid H; obtain ⟨t_77, j14, H⟩ := H; replace H := app_hid H; refine wp_region_quiet_below (by kernel_rfl) (by kernel_rfl) ?_
          repeat (go_big_quiet_step (fail))
          refine wpQuiet_nil ?_; intro Y6 hY6; replace hY6 := below_class hY6; replace a10 := k10.out; clear k10; replace b10 := l10.out; clear l10; replace e10 := m10.out; clear m10; replace d10 := n10.out; clear n10; replace c10 := o10.out; clear o10; replace f10 := t10.out; clear t10; replace h10 := r10.out; clear r10; replace j10 := v10.out; clear v10; replace i10 := w10.out; clear w10; replace g10 := s10.out; clear s10; have HBY6 := Lib.hid (Below.step HBY4.out hY6); replace a10 := cell_below hY6 a10; replace b10 := cell_below hY6 b10; replace e10 := cell_below hY6 e10; replace d10 := cell_below hY6 d10; replace c10 := cell_below hY6 c10; replace f10 := cell_below hY6 f10; replace h10 := cell_below hY6 h10; replace j10 := cell_below hY6 j10; replace i10 := cell_below hY6 i10; replace g10 := cell_below hY6 g10; clear hY6
          cases t_77 with
          | false =>
           replace H := ite_f H; replace H := let_hid H; obtain ⟨t_81, m11, H⟩ := H; replace H := app_hid H; go_wp2_with fail
           go_roundg m0
           case measure => omega
           case rel => exact ⟨_, rfl, H, HBY6⟩
          | true =>
           replace H := ite_t H; obtain rfl := ret_hid H; go_wp2_with fail; go_ret; exact ⟨rfl, HBY6.out⟩
       | true =>
        replace H := ite_t H; obtain rfl := ret_hid H; go_wp2_with fail; go_ret; exact ⟨rfl, HBY4.out⟩
end Go.Proofs.YtihibckijdfidaaGreat.GsL8Good

namespace Go.Proofs.YtihibckijdfidaaGreat.GsL9Office
open Go.RowKit
open Go.Proofs.YtihibckijdfidaaGreat.Rowed Go.Proofs.YtihibckijdfidaaGreat.Turn Go.Proofs.YtihibckijdfidaaGreat.Aid Go.Proofs.YtihibckijdfidaaGreat.GoP Go.Proofs.YtihibckijdfidaaGreat.GoM

def P (n_0 : Int) : Option (Bool) :=
  Option.bind (Go.Proofs.YtihibckijdfidaaGreat.GsL1In.P n_0 0 9) fun (t_2 : Bool) =>
  some t_2

set_option maxRecDepth 100000 in
set_option maxHeartbeats 2000000 in
theorem C (n_0 : Int)   (w : World)   {r : Bool} (H : Hid (P n_0 = some r)) :
    Calls Tryz.prog 76 #[.int .i64 n_0] w (Gives (.bool r) w) := by
  have HB := Lib.hid (Below.refl w.heap.size w)
  unfold P at H
  go_enter Tryz.func76, Tryz.ntmps76
  replace H := bind_hid H
  obtain ⟨t_2, qt_2, H⟩ := H
  go_wp2_with fail
  go_at_call 52
  refine (Go.Proofs.YtihibckijdfidaaGreat.GsL1In.C (n_0) (0) (9)  _    qt_2).mono ?_
  rintro e_t_2 wt_2 ⟨rfl, bt_2⟩
  have HBwt_2 := Lib.hid (Below.step HB.out bt_2)
  clear bt_2
  obtain rfl := ret_hid H
  go_wp2_with fail
  go_ret
  exact ⟨rfl, HBwt_2.out⟩
end Go.Proofs.YtihibckijdfidaaGreat.GsL9Office

namespace Go.Proofs.YtihibckijdfidaaGreat.GsL9Minute
open Go.RowKit
open Go.Proofs.YtihibckijdfidaaGreat.Rowed Go.Proofs.YtihibckijdfidaaGreat.Turn Go.Proofs.YtihibckijdfidaaGreat.Aid Go.Proofs.YtihibckijdfidaaGreat.GoP Go.Proofs.YtihibckijdfidaaGreat.GoM

def P (n_0 : Int) : Option (Bool) :=
  Option.bind (Go.Proofs.YtihibckijdfidaaGreat.GsL1In.P n_0 0 9999) fun (t_2 : Bool) =>
  some t_2

set_option maxRecDepth 100000 in
set_option maxHeartbeats 2000000 in
theorem C (n_0 : Int)   (w : World)   {r : Bool} (H : Hid (P n_0 = some r)) :
    Calls Tryz.prog 77 #[.int .i64 n_0] w (Gives (.bool r) w) := by
  have HB := Lib.hid (Below.refl w.heap.size w)
  unfold P at H
  go_enter Tryz.func77, Tryz.ntmps77
  replace H := bind_hid H
  obtain ⟨t_2, qt_2, H⟩ := H
  go_wp2_with fail
  go_at_call 52
  refine (Go.Proofs.YtihibckijdfidaaGreat.GsL1In.C (n_0) (0) (9999)  _    qt_2).mono ?_
  rintro e_t_2 wt_2 ⟨rfl, bt_2⟩
  have HBwt_2 := Lib.hid (Below.step HB.out bt_2)
  clear bt_2
  obtain rfl := ret_hid H
  go_wp2_with fail
  go_ret
  exact ⟨rfl, HBwt_2.out⟩
end Go.Proofs.YtihibckijdfidaaGreat.GsL9Minute

namespace Go.Proofs.YtihibckijdfidaaGreat.GsL10One
open Go.RowKit
open Go.Proofs.YtihibckijdfidaaGreat.Rowed Go.Proofs.YtihibckijdfidaaGreat.Turn Go.Proofs.YtihibckijdfidaaGreat.Aid Go.Proofs.YtihibckijdfidaaGreat.GoP Go.Proofs.YtihibckijdfidaaGreat.GoM

def P (x : PCover.Cover) : Option (Bool) :=
 unCover x fun (x_id : Int) (x_day : Int) (x_zone : Int) (x_grams : Int) (x_paid : Int) (x_from_ : Int) (x_to_ : Int) (x_leave : Int) (x_arrive : Int) =>
 Option.bind (GsL1In.P x_id 1 999) fun (t_4 : Bool) =>
 letK (!t_4) fun (t_5 : Bool) =>
 joinK (fun (t_11 : Bool) =>
 joinK (fun (t_17 : Bool) =>
 joinK (fun (t_23 : Bool) =>
 joinK (fun (t_29 : Bool) =>
 iteK t_29
 (some false)
 (Option.bind (GsL9Office.P x_from_) fun (t_33 : Bool) =>
 joinK (fun (t_38 : Bool) =>
 joinK (fun (t_45 : Bool) =>
 joinK (fun (t_50 : Bool) =>
 joinK (fun (t_57 : Bool) =>
 some t_57) fun jt_57 => iteK t_50 (Option.bind (GsL1In.P x_leave 0 x_arrive) fun (t_56 : Bool) =>
 appK jt_57 t_56) (appK jt_57 false)) fun jt_50 => iteK t_45 (Option.bind (GsL9Minute.P x_arrive) fun (t_49 : Bool) =>
 appK jt_50 t_49) (appK jt_50 false)) fun jt_45 => iteK t_38 (letK (x_from_ != x_to_) fun (t_44 : Bool) =>
 appK jt_45 t_44) (appK jt_45 false)) fun jt_38 => iteK t_33 (Option.bind (GsL9Office.P x_to_) fun (t_37 : Bool) =>
 appK jt_38 t_37) (appK jt_38 false))) fun jt_29 => iteK t_23 (appK jt_29 true) (Option.bind (GsL8Cents.P x_paid) fun (t_27 : Bool) =>
 letK (!t_27) fun (t_28 : Bool) =>
 appK jt_29 t_28)) fun jt_23 => iteK t_17 (appK jt_23 true) (Option.bind (GsL8Grams.P x_grams) fun (t_21 : Bool) =>
 letK (!t_21) fun (t_22 : Bool) =>
 appK jt_23 t_22)) fun jt_17 => iteK t_11 (appK jt_17 true) (Option.bind (GsL8Zone.P x_zone) fun (t_15 : Bool) =>
 letK (!t_15) fun (t_16 : Bool) =>
 appK jt_17 t_16)) fun jt_11 => iteK t_5 (appK jt_11 true) (Option.bind (GsL2Day.P x_day) fun (t_9 : Bool) =>
 letK (!t_9) fun (t_10 : Bool) =>
 appK jt_11 t_10)

set_option maxRecDepth 100000 in
set_option maxHeartbeats 2000000 in
theorem C (x : PCover.Cover)   (w : World)   {r : Bool} (H : Hid (P x = some r)) :
  Calls Tryz.prog 35 #[x.val] w (Gives (.bool r) w) := by
 have HB := Lib.hid (Below.refl w.heap.size w); unfold P at H; obtain ⟨x_id, x_day, x_zone, x_grams, x_paid, x_from_, x_to_, x_leave, x_arrive⟩ := x; replace H := unCover_hid H; unfold PCover.Cover.val
 go_enter Tryz.func35, Tryz.ntmps35
 obtain ⟨r10, q10⟩ : ∃ x, w.alloc (.cells #[.int .i64 x_id, .int .i64 x_day, .int .i64 x_zone, .int .i64 x_grams, .int .i64 x_paid, .int .i64 x_from_, .int .i64 x_to_, .int .i64 x_leave, .int .i64 x_arrive] 26) = x := ⟨_, rfl⟩; have y10 : Below w.heap.size w r10 := (by rw [← q10]; exact (Below.refl _ _).alloc (Nat.le_refl _) _); have j11 := Lib.hid (Below.step HB.out y10); clear y10; have e10 : r10.cell? ⟨w.heap.size, 0, none⟩ = some (.int .i64 x_id) := (by rw [← q10]; exact box_new _ _ _ 0 _ rfl); have b10 : r10.cell? ⟨w.heap.size, 1, none⟩ = some (.int .i64 x_day) := (by rw [← q10]; exact box_new _ _ _ 1 _ rfl); have f10 : r10.cell? ⟨w.heap.size, 2, none⟩ = some (.int .i64 x_zone) := (by rw [← q10]; exact box_new _ _ _ 2 _ rfl); have h10 : r10.cell? ⟨w.heap.size, 3, none⟩ = some (.int .i64 x_grams) := (by rw [← q10]; exact box_new _ _ _ 3 _ rfl); have c10 : r10.cell? ⟨w.heap.size, 4, none⟩ = some (.int .i64 x_paid) := (by rw [← q10]; exact box_new _ _ _ 4 _ rfl); have a10 : r10.cell? ⟨w.heap.size, 5, none⟩ = some (.int .i64 x_from_) := (by rw [← q10]; exact box_new _ _ _ 5 _ rfl); have i10 : r10.cell? ⟨w.heap.size, 6, none⟩ = some (.int .i64 x_to_) := (by rw [← q10]; exact box_new _ _ _ 6 _ rfl); have d10 : r10.cell? ⟨w.heap.size, 7, none⟩ = some (.int .i64 x_leave) := (by rw [← q10]; exact box_new _ _ _ 7 _ rfl); have g10 : r10.cell? ⟨w.heap.size, 8, none⟩ = some (.int .i64 x_arrive) := (by rw [← q10]; exact box_new _ _ _ 8 _ rfl); replace H := bind_hid H; obtain ⟨t_4, qt_4, H⟩ := H; go_wp2_with fail; go_at_call 52; refine (GsL1In.C (x_id) (1) (999)  _    qt_4).mono ?_; rintro r11 wt_4 ⟨rfl, bt_4⟩; have a11 := Lib.hid (Below.step j11.out bt_4); replace e10 := cell_below bt_4 e10; replace b10 := cell_below bt_4 b10; replace f10 := cell_below bt_4 f10; replace h10 := cell_below bt_4 h10; replace c10 := cell_below bt_4 c10; replace a10 := cell_below bt_4 a10; replace i10 := cell_below bt_4 i10; replace d10 := cell_below bt_4 d10; replace g10 := cell_below bt_4 g10; clear bt_4
 cases t_4 with
 | false =>
  replace H := let_hid H; obtain ⟨t_5, ht_5, H⟩ := H; obtain rfl : t_5 = true := ht_5.symm; replace H := join_hid H; replace H := ite_t H; replace H := app_hid H; replace H := join_hid H; replace H := ite_t H; replace H := app_hid H; replace H := join_hid H; replace H := ite_t H; replace H := app_hid H; replace H := join_hid H; replace H := ite_t H; replace H := app_hid H; replace H := ite_t H; obtain rfl := ret_hid H; go_wp2_with fail; go_ret; exact ⟨rfl, a11.out⟩
 | true =>
  replace H := let_hid H; obtain ⟨t_5, ht_5, H⟩ := H; obtain rfl : t_5 = false := ht_5.symm; replace H := join_hid H; replace H := ite_f H; replace H := bind_hid H; obtain ⟨t_9, qt_9, H⟩ := H; go_wp2_with fail; go_at_call 72; refine (GsL2Day.C (x_day)  _    qt_9).mono ?_; rintro f12 wt_9 ⟨rfl, bt_9⟩; have e11 := Lib.hid (Below.step a11.out bt_9); replace e10 := cell_below bt_9 e10; replace b10 := cell_below bt_9 b10; replace f10 := cell_below bt_9 f10; replace h10 := cell_below bt_9 h10; replace c10 := cell_below bt_9 c10; replace a10 := cell_below bt_9 a10; replace i10 := cell_below bt_9 i10; replace d10 := cell_below bt_9 d10; replace g10 := cell_below bt_9 g10; clear bt_9
  cases t_9 with
  | false =>
   replace H := let_hid H; obtain ⟨t_10, s10, H⟩ := H; obtain rfl : t_10 = true := s10.symm; replace H := app_hid H; replace H := join_hid H; replace H := ite_t H; replace H := app_hid H; replace H := join_hid H; replace H := ite_t H; replace H := app_hid H; replace H := join_hid H; replace H := ite_t H; replace H := app_hid H; replace H := ite_t H; obtain rfl := ret_hid H; go_wp2_with fail; go_ret; exact ⟨rfl, e11.out⟩
  | true =>
   replace H := let_hid H; obtain ⟨t_10, s10, H⟩ := H; obtain rfl : t_10 = false := s10.symm; replace H := app_hid H; replace H := join_hid H; replace H := ite_f H; replace H := bind_hid H; obtain ⟨t_15, k11, H⟩ := H; go_wp2_with fail; go_at_call 73; refine (GsL8Zone.C (x_zone)  _    k11).mono ?_; rintro x11 t11 ⟨rfl, j10⟩; have d11 := Lib.hid (Below.step e11.out j10); replace e10 := cell_below j10 e10; replace b10 := cell_below j10 b10; replace f10 := cell_below j10 f10; replace h10 := cell_below j10 h10; replace c10 := cell_below j10 c10; replace a10 := cell_below j10 a10; replace i10 := cell_below j10 i10; replace d10 := cell_below j10 d10; replace g10 := cell_below j10 g10; clear j10
   cases t_15 with
   | false =>
    replace H := let_hid H; obtain ⟨t_16, v10, H⟩ := H; obtain rfl : t_16 = true := v10.symm; replace H := app_hid H; replace H := join_hid H; replace H := ite_t H; replace H := app_hid H; replace H := join_hid H; replace H := ite_t H; replace H := app_hid H; replace H := ite_t H; obtain rfl := ret_hid H; go_wp2_with fail; go_ret; exact ⟨rfl, d11.out⟩
   | true =>
    replace H := let_hid H; obtain ⟨t_16, v10, H⟩ := H; obtain rfl : t_16 = false := v10.symm; replace H := app_hid H; replace H := join_hid H; replace H := ite_f H; replace H := bind_hid H; obtain ⟨t_21, g11, H⟩ := H; go_wp2_with fail; go_at_call 74; refine (GsL8Grams.C (x_grams)  _    g11).mono ?_; rintro y11 d12 ⟨rfl, l10⟩; have b11 := Lib.hid (Below.step d11.out l10); replace e10 := cell_below l10 e10; replace b10 := cell_below l10 b10; replace f10 := cell_below l10 f10; replace h10 := cell_below l10 h10; replace c10 := cell_below l10 c10; replace a10 := cell_below l10 a10; replace i10 := cell_below l10 i10; replace d10 := cell_below l10 d10; replace g10 := cell_below l10 g10; clear l10
    cases t_21 with
    | false =>
     replace H := let_hid H; obtain ⟨t_22, t10, H⟩ := H; obtain rfl : t_22 = true := t10.symm; replace H := app_hid H; replace H := join_hid H; replace H := ite_t H; replace H := app_hid H; replace H := ite_t H; obtain rfl := ret_hid H; go_wp2_with fail; go_ret; exact ⟨rfl, b11.out⟩
    | true =>
     replace H := let_hid H; obtain ⟨t_22, t10, H⟩ := H; obtain rfl : t_22 = false := t10.symm; replace H := app_hid H; replace H := join_hid H; replace H := ite_f H; replace H := bind_hid H; obtain ⟨t_27, l11, H⟩ := H; go_wp2_with fail; go_at_call 75; refine (GsL8Cents.C (x_paid)  _    l11).mono ?_; rintro c12 g12 ⟨rfl, p10⟩; have z10 := Lib.hid (Below.step b11.out p10); replace e10 := cell_below p10 e10; replace b10 := cell_below p10 b10; replace f10 := cell_below p10 f10; replace h10 := cell_below p10 h10; replace c10 := cell_below p10 c10; replace a10 := cell_below p10 a10; replace i10 := cell_below p10 i10; replace d10 := cell_below p10 d10; replace g10 := cell_below p10 g10; clear p10
     cases t_27 with
     | false =>
      replace H := let_hid H; obtain ⟨t_28, x10, H⟩ := H; obtain rfl : t_28 = true := x10.symm; replace H := app_hid H; replace H := ite_t H; obtain rfl := ret_hid H; go_wp2_with fail; go_ret; exact ⟨rfl, z10.out⟩
     | true =>
      replace H := let_hid H; obtain ⟨t_28, x10, H⟩ := H; obtain rfl : t_28 = false := x10.symm; replace H := app_hid H; replace H := ite_f H; replace H := bind_hid H; obtain ⟨t_33, i11, H⟩ := H; go_wp2_with fail; go_at_call 76; refine (GsL9Office.C (x_from_)  _    i11).mono ?_; rintro w11 p11 ⟨rfl, m10⟩; have f11 := Lib.hid (Below.step z10.out m10); replace e10 := cell_below m10 e10; replace b10 := cell_below m10 b10; replace f10 := cell_below m10 f10; replace h10 := cell_below m10 h10; replace c10 := cell_below m10 c10; replace a10 := cell_below m10 a10; replace i10 := cell_below m10 i10; replace d10 := cell_below m10 d10; replace g10 := cell_below m10 g10; clear m10; replace H := join_hid H
      cases t_33 with
      | false =>
       replace H := ite_f H; replace H := app_hid H; replace H := join_hid H; replace H := ite_f H; replace H := app_hid H; replace H := join_hid H; replace H := ite_f H; replace H := app_hid H; replace H := join_hid H; replace H := ite_f H; replace H := app_hid H; obtain rfl := ret_hid H; go_wp2_with fail; go_ret; exact ⟨rfl, f11.out⟩
      | true =>
       replace H := ite_t H; replace H := bind_hid H; obtain ⟨t_37, o11, H⟩ := H; go_wp2_with fail; go_at_call 76; refine (GsL9Office.C (x_to_)  _    o11).mono ?_; rintro a12 z11 ⟨rfl, n10⟩; have w10 := Lib.hid (Below.step f11.out n10); replace e10 := cell_below n10 e10; replace b10 := cell_below n10 b10; replace f10 := cell_below n10 f10; replace h10 := cell_below n10 h10; replace c10 := cell_below n10 c10; replace a10 := cell_below n10 a10; replace i10 := cell_below n10 i10; replace d10 := cell_below n10 d10; replace g10 := cell_below n10 g10; clear n10; replace H := app_hid H; replace H := join_hid H
       cases t_37 with
       | false =>
        replace H := ite_f H; replace H := app_hid H; replace H := join_hid H; replace H := ite_f H; replace H := app_hid H; replace H := join_hid H; replace H := ite_f H; replace H := app_hid H; obtain rfl := ret_hid H; go_wp2_with fail; go_ret; exact ⟨rfl, w10.out⟩
       | true =>
        replace H := ite_t H; replace H := let_hid H; obtain ⟨t_44, s11, H⟩ := H; replace H := app_hid H; replace H := join_hid H
        cases t_44 with
        | false =>
         replace H := ite_f H; replace H := app_hid H; replace H := join_hid H; replace H := ite_f H; replace H := app_hid H; obtain rfl := ret_hid H; go_wp2_with fail; go_ret; exact ⟨rfl, w10.out⟩
        | true =>
         replace H := ite_t H; replace H := bind_hid H; obtain ⟨t_49, n11, H⟩ := H; go_wp2_with fail; go_at_call 77; refine (GsL9Minute.C (x_arrive)  _    n11).mono ?_; rintro v11 b12 ⟨rfl, k10⟩; have c11 := Lib.hid (Below.step w10.out k10); replace e10 := cell_below k10 e10; replace b10 := cell_below k10 b10; replace f10 := cell_below k10 f10; replace h10 := cell_below k10 h10; replace c10 := cell_below k10 c10; replace a10 := cell_below k10 a10; replace i10 := cell_below k10 i10; replace d10 := cell_below k10 d10; replace g10 := cell_below k10 g10; clear k10; replace H := app_hid H; replace H := join_hid H
         cases t_49 with
         | false =>
          replace H := ite_f H; replace H := app_hid H; obtain rfl := ret_hid H; go_wp2_with fail; go_ret; exact ⟨rfl, c11.out⟩
         | true =>
          replace H := ite_t H; replace H := bind_hid H; obtain ⟨t_56, h11, H⟩ := H; go_wp2_with fail; go_at_call 52; refine (GsL1In.C (x_leave) (0) (x_arrive)  _    h11).mono ?_; rintro e12 q11 ⟨rfl, o10⟩; have m11 := Lib.hid (Below.step c11.out o10); replace e10 := cell_below o10 e10; replace b10 := cell_below o10 b10; replace f10 := cell_below o10 f10; replace h10 := cell_below o10 h10; replace c10 := cell_below o10 c10; replace a10 := cell_below o10 a10; replace i10 := cell_below o10 i10; replace d10 := cell_below o10 d10; replace g10 := cell_below o10 g10; clear o10; replace H := app_hid H; obtain rfl := ret_hid H; go_wp2_with fail; go_ret; exact ⟨rfl, m11.out⟩
end Go.Proofs.YtihibckijdfidaaGreat.GsL10One

namespace Go.Proofs.YtihibckijdfidaaGreat.GsL12Has
open Go.RowKit
open Go.Proofs.YtihibckijdfidaaGreat.Rowed Go.Proofs.YtihibckijdfidaaGreat.Turn Go.Proofs.YtihibckijdfidaaGreat.Aid Go.Proofs.YtihibckijdfidaaGreat.GoP Go.Proofs.YtihibckijdfidaaGreat.GoM

def P (change : Int) (one : Int) : Option (Bool) :=
  guardK (¬ (one = 0)) <|
  letK (IntKind.i64.wrap (Int.tdiv change one)) fun (t_3 : Int) =>
  letK (Int.tmod t_3 2) fun (t_4 : Int) =>
  letK (t_4 == 1) fun (t_5 : Bool) =>
  some t_5

set_option maxRecDepth 100000 in
set_option maxHeartbeats 2000000 in
theorem C (change : Int) (one : Int)   (w : World)   {r : Bool} (H : Hid (P change one = some r)) :
    Calls Tryz.prog 49 #[.int .i64 change, .int .i64 one] w (Gives (.bool r) w) := by
  have HB := Lib.hid (Below.refl w.heap.size w)
  unfold P at H
  go_enter Tryz.func49, Tryz.ntmps49
  replace H := guard_hid H
  obtain ⟨hz_t_3, H⟩ := H
  replace H := let_hid H
  obtain ⟨t_3, ht_3, H⟩ := H
  replace H := let_hid H
  obtain ⟨t_4, ht_4, H⟩ := H
  replace H := let_hid H
  obtain ⟨t_5, ht_5, H⟩ := H
  obtain rfl := ret_hid H
  go_wp2_with fail
  go_ret
  exact ⟨rfl, HB.out⟩

set_option maxRecDepth 100000 in
set_option maxHeartbeats 2000000 in
theorem C0 (change : Int) (one : Int)   (w : World)   {r : Bool} (H : Hid (P change one = some r)) :
    Calls Tryz.prog 49 #[.int .i64 change, .int .i64 one] w (fun e w'' => e = .returned (.bool r) ∧ w'' = w) := by
  have HB := Lib.hid (Below.refl w.heap.size w)
  unfold P at H
  go_enter Tryz.func49, Tryz.ntmps49
  replace H := guard_hid H
  obtain ⟨hz_t_3, H⟩ := H
  replace H := let_hid H
  obtain ⟨t_3, ht_3, H⟩ := H
  replace H := let_hid H
  obtain ⟨t_4, ht_4, H⟩ := H
  replace H := let_hid H
  obtain ⟨t_5, ht_5, H⟩ := H
  obtain rfl := ret_hid H
  go_wp2_with fail
  go_ret
  exact ⟨rfl, rfl⟩
end Go.Proofs.YtihibckijdfidaaGreat.GsL12Has

