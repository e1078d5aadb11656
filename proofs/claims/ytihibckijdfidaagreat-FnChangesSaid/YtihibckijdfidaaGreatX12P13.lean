/- Texts on which the proofs of several laws stand, one behind the other (13 of 17). No condition of their own. -/
import Derived.Test.YtihibckijdfidaaGreatChecked
import Derived.Test.YtihibckijdfidaaGreatX12P1
import Derived.Test.YtihibckijdfidaaGreatX12P6
import Derived.Test.YtihibckijdfidaaGreatX12P12
import Derived.Test.YtihibckijdfidaaGreatX12P8
import Derived.WalkKit
import Derived.WalkSpells
import Derived.WalkLawsBesides
import Derived.BigQuiet
import Derived.OwnWalk
import Derived.Deep.LoopGhost
import Derived.Deep.QuietTactic
import Derived.IntWalk
import Derived.Lib.QuietBelow
import Derived.Test.YtihibckijdfidaaGreatX12P5
import Derived.Test.YtihibckijdfidaaGreatX12P9
import Derived.Deep.RegionHeld3
import Derived.Test.YtihibckijdfidaaGreatX12P11
set_option linter.unusedVariables false
set_option linter.unusedSimpArgs false
namespace Go.Proofs.YtihibckijdfidaaGreat.GiMakeCover
open Go.RowKit
open Go.Proofs.YtihibckijdfidaaGreat.Rowed Go.Proofs.YtihibckijdfidaaGreat.Turn Go.Proofs.YtihibckijdfidaaGreat.Aid Go.Proofs.YtihibckijdfidaaGreat.GoP Go.Proofs.YtihibckijdfidaaGreat.GoM

def P (rates : (List PRate.Rate)) (x : PCover.Cover) (change : Int) : Option (PCover.Cover × Bool) :=
 unCover x fun (x_id : Int) (x_day : Int) (x_zone : Int) (x_grams : Int) (x_paid : Int) (x_from_ : Int) (x_to_ : Int) (x_leave : Int) (x_arrive : Int) =>
 Option.bind (GiCanExplain.P rates (PCover.Cover.mk x_id x_day x_zone x_grams x_paid x_from_ x_to_ x_leave x_arrive)) fun (t_5 : Bool) =>
 letK (!t_5) fun (t_6 : Bool) =>
 joinK (fun (t_11 : Bool) =>
 iteK t_11
 (some ((PCover.Cover.mk 0 0 0 0 0 0 0 0 0), false))
 (bind2 (GiMade.P rates (PCover.Cover.mk x_id x_day x_zone x_grams x_paid x_from_ x_to_ x_leave x_arrive) change) fun (t_18a : PCover.Cover) (t_18b : Bool) =>
 unCover t_18a fun (t_18a_id : Int) (t_18a_day : Int) (t_18a_zone : Int) (t_18a_grams : Int) (t_18a_paid : Int) (t_18a_from_ : Int) (t_18a_to_ : Int) (t_18a_leave : Int) (t_18a_arrive : Int) =>
 some ((PCover.Cover.mk t_18a_id t_18a_day t_18a_zone t_18a_grams t_18a_paid t_18a_from_ t_18a_to_ t_18a_leave t_18a_arrive), t_18b))) fun jt_11 => iteK t_6 (appK jt_11 true) (Option.bind (GiIsChange.P change) fun (t_9 : Bool) =>
 letK (!t_9) fun (t_10 : Bool) =>
 appK jt_11 t_10)

set_option maxRecDepth 100000 in
set_option maxHeartbeats 2000000 in
theorem C (rates : (List PRate.Rate)) (x : PCover.Cover) (change : Int) (A0 : Option Addr) (c0 : Nat)  (w : World) (M0 : Hid (Cells w 5 A0 rates.length (PRate.flat rates))) (N0 : Hid (rates.length ≤ 9223372036854775807))  {r0 : PCover.Cover} {r1 : Bool} (H : Hid (P rates x change = some (r0, r1))) :
  Calls Tryz.prog 14 #[.slice A0 rates.length c0, x.val, .int .i64 change] w (Gives (.tuple #[(PCover.Cover.val r0), .bool r1]) w) := by
 have HB := Lib.hid (Below.refl w.heap.size w); unfold P at H; obtain ⟨x_id, x_day, x_zone, x_grams, x_paid, x_from_, x_to_, x_leave, x_arrive⟩ := x; replace H := unCover_hid H; unfold PCover.Cover.val; have N0o := N0.out
 go_enter Tryz.func14, Tryz.ntmps14
 obtain ⟨a10, l10⟩ : ∃ x, w.alloc (.cells #[.int .i64 x_id, .int .i64 x_day, .int .i64 x_zone, .int .i64 x_grams, .int .i64 x_paid, .int .i64 x_from_, .int .i64 x_to_, .int .i64 x_leave, .int .i64 x_arrive] 26) = x := ⟨_, rfl⟩; have g12 : Below w.heap.size w a10 := (by rw [← l10]; exact (Below.refl _ _).alloc (Nat.le_refl _) _); have a12 := Lib.hid (Below.step HB.out g12); clear g12; have t11 : a10.cell? ⟨w.heap.size, 0, none⟩ = some (.int .i64 x_id) := (by rw [← l10]; exact box_new _ _ _ 0 _ rfl); have d12 : a10.cell? ⟨w.heap.size, 1, none⟩ = some (.int .i64 x_day) := (by rw [← l10]; exact box_new _ _ _ 1 _ rfl); have h12 : a10.cell? ⟨w.heap.size, 2, none⟩ = some (.int .i64 x_zone) := (by rw [← l10]; exact box_new _ _ _ 2 _ rfl); have b12 : a10.cell? ⟨w.heap.size, 3, none⟩ = some (.int .i64 x_grams) := (by rw [← l10]; exact box_new _ _ _ 3 _ rfl); have j12 : a10.cell? ⟨w.heap.size, 4, none⟩ = some (.int .i64 x_paid) := (by rw [← l10]; exact box_new _ _ _ 4 _ rfl); have k12 : a10.cell? ⟨w.heap.size, 5, none⟩ = some (.int .i64 x_from_) := (by rw [← l10]; exact box_new _ _ _ 5 _ rfl); have f12 : a10.cell? ⟨w.heap.size, 6, none⟩ = some (.int .i64 x_to_) := (by rw [← l10]; exact box_new _ _ _ 6 _ rfl); have z11 : a10.cell? ⟨w.heap.size, 7, none⟩ = some (.int .i64 x_leave) := (by rw [← l10]; exact box_new _ _ _ 7 _ rfl); have c12 : a10.cell? ⟨w.heap.size, 8, none⟩ = some (.int .i64 x_arrive) := (by rw [← l10]; exact box_new _ _ _ 8 _ rfl); obtain ⟨i10, k10⟩ : ∃ x, a10.alloc (.cells #[.int .i64 0, .int .i64 0, .int .i64 0, .int .i64 0, .int .i64 0, .int .i64 0, .int .i64 0, .int .i64 0, .int .i64 0] 26) = x := ⟨_, rfl⟩; have h10 : Below a10.heap.size a10 i10 := (by rw [← k10]; exact (Below.refl _ _).alloc (Nat.le_refl _) _); have b10 := Lib.hid (apart_box t11); have i12 := Lib.hid (Below.step a12.out h10); have p10 := cell_below h10 t11; have v10 := cell_below h10 d12; have w10 := cell_below h10 h12; have s10 := cell_below h10 b12; have m10 := cell_below h10 j12; have q10 := cell_below h10 k12; have t10 := cell_below h10 f12; have r10 := cell_below h10 z11; have o10 := cell_below h10 c12; clear h10; have c11 : i10.cell? ⟨a10.heap.size, 0, none⟩ = some (.int .i64 0) := (by rw [← k10]; exact box_new _ _ _ 0 _ rfl); have g11 : i10.cell? ⟨a10.heap.size, 1, none⟩ = some (.int .i64 0) := (by rw [← k10]; exact box_new _ _ _ 1 _ rfl); have f11 : i10.cell? ⟨a10.heap.size, 2, none⟩ = some (.int .i64 0) := (by rw [← k10]; exact box_new _ _ _ 2 _ rfl); have e11 : i10.cell? ⟨a10.heap.size, 3, none⟩ = some (.int .i64 0) := (by rw [← k10]; exact box_new _ _ _ 3 _ rfl); have a11 : i10.cell? ⟨a10.heap.size, 4, none⟩ = some (.int .i64 0) := (by rw [← k10]; exact box_new _ _ _ 4 _ rfl); have d11 : i10.cell? ⟨a10.heap.size, 5, none⟩ = some (.int .i64 0) := (by rw [← k10]; exact box_new _ _ _ 5 _ rfl); have b11 : i10.cell? ⟨a10.heap.size, 6, none⟩ = some (.int .i64 0) := (by rw [← k10]; exact box_new _ _ _ 6 _ rfl); have y10 : i10.cell? ⟨a10.heap.size, 7, none⟩ = some (.int .i64 0) := (by rw [← k10]; exact box_new _ _ _ 7 _ rfl); have z10 : i10.cell? ⟨a10.heap.size, 8, none⟩ = some (.int .i64 0) := (by rw [← k10]; exact box_new _ _ _ 8 _ rfl); have Ot_1 : Hid (i10.ownsRow w.heap.size 26 9 (.slice (some ⟨a10.heap.size, 0, none⟩) 1 1) 1 [.int .i64 0, .int .i64 0, .int .i64 0, .int .i64 0, .int .i64 0, .int .i64 0, .int .i64 0, .int .i64 0, .int .i64 0]) := Lib.hid (by rw [← k10]; exact own_laid (n := 1) a12.out.size rfl rfl (by unfold maxLen; omega)); replace H := bind_hid H; obtain ⟨t_5, qt_5, H⟩ := H; go_wp2_with fail; clear t11 d12 h12 b12 j12 k12 f12 z11 c12; go_at_call 38; refine (GiCanExplain.C (rates) ((PCover.Cover.mk x_id x_day x_zone x_grams x_paid x_from_ x_to_ x_leave x_arrive)) A0 c0 _   (Lib.hid (Cells.below M0.out i12.out)) N0 qt_5).mono ?_; rintro n14 wt_5 ⟨rfl, bt_5⟩; have v11 := Lib.hid (Below.step i12.out bt_5)
 replace p10 := cell_below bt_5 p10; replace v10 := cell_below bt_5 v10; replace w10 := cell_below bt_5 w10; replace s10 := cell_below bt_5 s10; replace m10 := cell_below bt_5 m10; replace q10 := cell_below bt_5 q10; replace t10 := cell_below bt_5 t10; replace r10 := cell_below bt_5 r10; replace o10 := cell_below bt_5 o10; replace c11 := cell_below bt_5 c11; replace g11 := cell_below bt_5 g11; replace f11 := cell_below bt_5 f11; replace e11 := cell_below bt_5 e11; replace a11 := cell_below bt_5 a11; replace d11 := cell_below bt_5 d11; replace b11 := cell_below bt_5 b11; replace y10 := cell_below bt_5 y10; replace z10 := cell_below bt_5 z10; replace Ot_1 := Lib.hid (own_below Ot_1.out bt_5); clear bt_5
 cases t_5 with
 | false =>
  replace H := let_hid H; obtain ⟨t_6, ht_6, H⟩ := H; obtain rfl : t_6 = true := ht_6.symm; replace H := join_hid H; replace H := ite_t H; replace H := app_hid H; replace H := ite_t H; obtain ⟨d10, p11⟩ : ∃ x, (((((((((wt_5).setCell ⟨a10.heap.size, 0, none⟩ (.int .i64 0)).setCell ⟨a10.heap.size, 1, none⟩ (.int .i64 0)).setCell ⟨a10.heap.size, 2, none⟩ (.int .i64 0)).setCell ⟨a10.heap.size, 3, none⟩ (.int .i64 0)).setCell ⟨a10.heap.size, 4, none⟩ (.int .i64 0)).setCell ⟨a10.heap.size, 5, none⟩ (.int .i64 0)).setCell ⟨a10.heap.size, 6, none⟩ (.int .i64 0)).setCell ⟨a10.heap.size, 7, none⟩ (.int .i64 0)).setCell ⟨a10.heap.size, 8, none⟩ (.int .i64 0) = x := ⟨_, rfl⟩; have o13 := Ot_1.out.frozenAt 0; have v13 := Ot_1.out.frozenAt 1; have k13 := Ot_1.out.frozenAt 2; have w12 := Ot_1.out.frozenAt 3; have y12 := Ot_1.out.frozenAt 4; have n12 := Ot_1.out.frozenAt 5; have l13 := Ot_1.out.frozenAt 6; have p13 := Ot_1.out.frozenAt 7; have q12 := Ot_1.out.frozenAt 8; have x10 := Lib.hid (own_stores [(0, .int .i64 0), (1, .int .i64 0), (2, .int .i64 0), (3, .int .i64 0), (4, .int .i64 0), (5, .int .i64 0), (6, .int .i64 0), (7, .int .i64 0), (8, .int .i64 0)] Ot_1.out); have f10 : Hid (d10.ownsRow w.heap.size 26 9 (.slice (some ⟨a10.heap.size, 0, none⟩) 1 1) 1 [.int .i64 0, .int .i64 0, .int .i64 0, .int .i64 0, .int .i64 0, .int .i64 0, .int .i64 0, .int .i64 0, .int .i64 0]) := Lib.hid (by rw [← p11]; exact x10.out.1); have c10 : Hid (wt_5.grownBy d10 (Value.slice (some ⟨a10.heap.size, 0, none⟩) 1 1).ownBlock) := Lib.hid (by rw [← p11]; exact x10.out.2); have w11 := Lib.hid (v11.out.grown c10.out v11.out.size (fun q hq => (Ot_1.out.lt q hq).1)); clear x10; have e14 := cell_other p10 c10.out b10.out; have c14 := cell_other v10 c10.out b10.out; have g15 := cell_other w10 c10.out b10.out; have j15 := cell_other s10 c10.out b10.out; have h15 := cell_other m10 c10.out b10.out; have i15 := cell_other q10 c10.out b10.out; have p15 := cell_other t10 c10.out b10.out; have q14 := cell_other r10 c10.out b10.out; have m15 := cell_other o10 c10.out b10.out; clear Ot_1 c10; have a13 : d10.cell? ⟨a10.heap.size, 0, none⟩ = some (.int .i64 0) := f10.out.cells rfl 0 _ rfl; have t13 : d10.cell? ⟨a10.heap.size, 1, none⟩ = some (.int .i64 0) := f10.out.cells rfl 1 _ rfl; have q13 : d10.cell? ⟨a10.heap.size, 2, none⟩ = some (.int .i64 0) := f10.out.cells rfl 2 _ rfl; have b14 : d10.cell? ⟨a10.heap.size, 3, none⟩ = some (.int .i64 0) := f10.out.cells rfl 3 _ rfl; have b13 : d10.cell? ⟨a10.heap.size, 4, none⟩ = some (.int .i64 0) := f10.out.cells rfl 4 _ rfl; have c13 : d10.cell? ⟨a10.heap.size, 5, none⟩ = some (.int .i64 0) := f10.out.cells rfl 5 _ rfl; have i13 : d10.cell? ⟨a10.heap.size, 6, none⟩ = some (.int .i64 0) := f10.out.cells rfl 6 _ rfl; have x13 : d10.cell? ⟨a10.heap.size, 7, none⟩ = some (.int .i64 0) := f10.out.cells rfl 7 _ rfl; have z13 : d10.cell? ⟨a10.heap.size, 8, none⟩ = some (.int .i64 0) := f10.out.cells rfl 8 _ rfl; have hR_ := ret_hid H; simp only [Prod.mk.injEq] at hR_; obtain ⟨rfl, rfl⟩ := hR_; go_wp2_with fail
  (try simp only [Exit.inBlock, Exit.then])
  refine bodyPost_ret (v := .tuple #[.agg #[.int .i64 0, .int .i64 0, .int .i64 0, .int .i64 0, .int .i64 0, .int .i64 0, .int .i64 0, .int .i64 0, .int .i64 0], .bool false]) ?hr_ ?hd_ ?_
  case hd_ => rfl
  case hr_ => simp [results, Tryz.results14, a13, t13, q13, b14, b13, c13, i13, x13, z13, go_sem]
  exact ⟨rfl, w11.out⟩
 | true =>
  replace H := let_hid H; obtain ⟨t_6, ht_6, H⟩ := H; obtain rfl : t_6 = false := ht_6.symm; replace H := join_hid H; replace H := ite_f H; replace H := bind_hid H; obtain ⟨t_9, qt_9, H⟩ := H; go_wp2_with fail; go_at_call 43; refine (GiIsChange.C (change)  _    qt_9).mono ?_; rintro z14 wt_9 ⟨rfl, bt_9⟩; have r11 := Lib.hid (Below.step v11.out bt_9); replace p10 := cell_below bt_9 p10; replace v10 := cell_below bt_9 v10; replace w10 := cell_below bt_9 w10; replace s10 := cell_below bt_9 s10; replace m10 := cell_below bt_9 m10; replace q10 := cell_below bt_9 q10; replace t10 := cell_below bt_9 t10; replace r10 := cell_below bt_9 r10; replace o10 := cell_below bt_9 o10; replace c11 := cell_below bt_9 c11; replace g11 := cell_below bt_9 g11; replace f11 := cell_below bt_9 f11; replace e11 := cell_below bt_9 e11; replace a11 := cell_below bt_9 a11; replace d11 := cell_below bt_9 d11; replace b11 := cell_below bt_9 b11; replace y10 := cell_below bt_9 y10; replace z10 := cell_below bt_9 z10; replace Ot_1 := Lib.hid (own_below Ot_1.out bt_9); clear bt_9
  cases t_9 with
  | false =>
   replace H := let_hid H; obtain ⟨t_10, x11, H⟩ := H; obtain rfl : t_10 = true := x11.symm; replace H := app_hid H; replace H := ite_t H; obtain ⟨d10, p11⟩ : ∃ x, (((((((((wt_9).setCell ⟨a10.heap.size, 0, none⟩ (.int .i64 0)).setCell ⟨a10.heap.size, 1, none⟩ (.int .i64 0)).setCell ⟨a10.heap.size, 2, none⟩ (.int .i64 0)).setCell ⟨a10.heap.size, 3, none⟩ (.int .i64 0)).setCell ⟨a10.heap.size, 4, none⟩ (.int .i64 0)).setCell ⟨a10.heap.size, 5, none⟩ (.int .i64 0)).setCell ⟨a10.heap.size, 6, none⟩ (.int .i64 0)).setCell ⟨a10.heap.size, 7, none⟩ (.int .i64 0)).setCell ⟨a10.heap.size, 8, none⟩ (.int .i64 0) = x := ⟨_, rfl⟩; have o13 := Ot_1.out.frozenAt 0; have v13 := Ot_1.out.frozenAt 1; have k13 := Ot_1.out.frozenAt 2; have w12 := Ot_1.out.frozenAt 3; have y12 := Ot_1.out.frozenAt 4; have n12 := Ot_1.out.frozenAt 5; have l13 := Ot_1.out.frozenAt 6; have p13 := Ot_1.out.frozenAt 7; have q12 := Ot_1.out.frozenAt 8; have x10 := Lib.hid (own_stores [(0, .int .i64 0), (1, .int .i64 0), (2, .int .i64 0), (3, .int .i64 0), (4, .int .i64 0), (5, .int .i64 0), (6, .int .i64 0), (7, .int .i64 0), (8, .int .i64 0)] Ot_1.out); have f10 : Hid (d10.ownsRow w.heap.size 26 9 (.slice (some ⟨a10.heap.size, 0, none⟩) 1 1) 1 [.int .i64 0, .int .i64 0, .int .i64 0, .int .i64 0, .int .i64 0, .int .i64 0, .int .i64 0, .int .i64 0, .int .i64 0]) := Lib.hid (by rw [← p11]; exact x10.out.1); have c10 : Hid (wt_9.grownBy d10 (Value.slice (some ⟨a10.heap.size, 0, none⟩) 1 1).ownBlock) := Lib.hid (by rw [← p11]; exact x10.out.2); have w11 := Lib.hid (r11.out.grown c10.out r11.out.size (fun q hq => (Ot_1.out.lt q hq).1)); clear x10; have w14 := cell_other p10 c10.out b10.out; have j14 := cell_other v10 c10.out b10.out; have f14 := cell_other w10 c10.out b10.out; have h14 := cell_other s10 c10.out b10.out; have r14 := cell_other m10 c10.out b10.out; have o15 := cell_other q10 c10.out b10.out; have e15 := cell_other t10 c10.out b10.out; have d14 := cell_other r10 c10.out b10.out; have y14 := cell_other o10 c10.out b10.out; clear Ot_1 c10; have a14 : d10.cell? ⟨a10.heap.size, 0, none⟩ = some (.int .i64 0) := f10.out.cells rfl 0 _ rfl; have h13 : d10.cell? ⟨a10.heap.size, 1, none⟩ = some (.int .i64 0) := f10.out.cells rfl 1 _ rfl; have m13 : d10.cell? ⟨a10.heap.size, 2, none⟩ = some (.int .i64 0) := f10.out.cells rfl 2 _ rfl; have e13 : d10.cell? ⟨a10.heap.size, 3, none⟩ = some (.int .i64 0) := f10.out.cells rfl 3 _ rfl; have m12 : d10.cell? ⟨a10.heap.size, 4, none⟩ = some (.int .i64 0) := f10.out.cells rfl 4 _ rfl; have j13 : d10.cell? ⟨a10.heap.size, 5, none⟩ = some (.int .i64 0) := f10.out.cells rfl 5 _ rfl; have w13 : d10.cell? ⟨a10.heap.size, 6, none⟩ = some (.int .i64 0) := f10.out.cells rfl 6 _ rfl; have s13 : d10.cell? ⟨a10.heap.size, 7, none⟩ = some (.int .i64 0) := f10.out.cells rfl 7 _ rfl; have v12 : d10.cell? ⟨a10.heap.size, 8, none⟩ = some (.int .i64 0) := f10.out.cells rfl 8 _ rfl; have hR_ := ret_hid H; simp only [Prod.mk.injEq] at hR_; obtain ⟨rfl, rfl⟩ := hR_; go_wp2_with fail
   (try simp only [Exit.inBlock, Exit.then])
   refine bodyPost_ret (v := .tuple #[.agg #[.int .i64 0, .int .i64 0, .int .i64 0, .int .i64 0, .int .i64 0, .int .i64 0, .int .i64 0, .int .i64 0, .int .i64 0], .bool false]) ?hr_ ?hd_ ?_
   case hd_ => rfl
   case hr_ => simp [results, Tryz.results14, a14, h13, m13, e13, m12, j13, w13, s13, v12, go_sem]
   exact ⟨rfl, w11.out⟩
  | true =>
   replace H := let_hid H; obtain ⟨t_10, x11, H⟩ := H; obtain rfl : t_10 = false := x11.symm; replace H := app_hid H; replace H := ite_f H; replace H := bind2_hid H; obtain ⟨p12, n13, d13, H⟩ := H; obtain ⟨i11, l11, j11, h11, n11, k11, o11, m11, q11⟩ := p12; replace H := unCover_hid H; go_wp2_with fail; go_at_call 33; refine (GiMade.C (rates) ((PCover.Cover.mk x_id x_day x_zone x_grams x_paid x_from_ x_to_ x_leave x_arrive)) (change) A0 c0 _   (Lib.hid (Cells.below M0.out r11.out)) N0 d13).mono ?_; rintro v14 l12 ⟨rfl, e10⟩; unfold PCover.Cover.val; have e12 := Lib.hid (Below.step r11.out e10); replace p10 := cell_below e10 p10; replace v10 := cell_below e10 v10; replace w10 := cell_below e10 w10; replace s10 := cell_below e10 s10; replace m10 := cell_below e10 m10; replace q10 := cell_below e10 q10; replace t10 := cell_below e10 t10; replace r10 := cell_below e10 r10; replace o10 := cell_below e10 o10; replace c11 := cell_below e10 c11; replace g11 := cell_below e10 g11; replace f11 := cell_below e10 f11; replace e11 := cell_below e10 e11; replace a11 := cell_below e10 a11; replace d11 := cell_below e10 d11; replace b11 := cell_below e10 b11; replace y10 := cell_below e10 y10; replace z10 := cell_below e10 z10; replace Ot_1 := Lib.hid (own_below Ot_1.out e10); clear e10; obtain ⟨g10, y11⟩ : ∃ x, (((((((((l12).setCell ⟨a10.heap.size, 0, none⟩ (.int .i64 i11)).setCell ⟨a10.heap.size, 1, none⟩ (.int .i64 l11)).setCell ⟨a10.heap.size, 2, none⟩ (.int .i64 j11)).setCell ⟨a10.heap.size, 3, none⟩ (.int .i64 h11)).setCell ⟨a10.heap.size, 4, none⟩ (.int .i64 n11)).setCell ⟨a10.heap.size, 5, none⟩ (.int .i64 k11)).setCell ⟨a10.heap.size, 6, none⟩ (.int .i64 o11)).setCell ⟨a10.heap.size, 7, none⟩ (.int .i64 m11)).setCell ⟨a10.heap.size, 8, none⟩ (.int .i64 q11) = x := ⟨_, rfl⟩; have c15 := Ot_1.out.frozenAt 0; have g14 := Ot_1.out.frozenAt 1; have o14 := Ot_1.out.frozenAt 2; have m14 := Ot_1.out.frozenAt 3; have l15 := Ot_1.out.frozenAt 4; have a15 := Ot_1.out.frozenAt 5; have d15 := Ot_1.out.frozenAt 6; have f15 := Ot_1.out.frozenAt 7; have x14 := Ot_1.out.frozenAt 8; have s11 := Lib.hid (own_stores [(0, .int .i64 i11), (1, .int .i64 l11), (2, .int .i64 j11), (3, .int .i64 h11), (4, .int .i64 n11), (5, .int .i64 k11), (6, .int .i64 o11), (7, .int .i64 m11), (8, .int .i64 q11)] Ot_1.out); have n10 : Hid (g10.ownsRow w.heap.size 26 9 (.slice (some ⟨a10.heap.size, 0, none⟩) 1 1) 1 [.int .i64 i11, .int .i64 l11, .int .i64 j11, .int .i64 h11, .int .i64 n11, .int .i64 k11, .int .i64 o11, .int .i64 m11, .int .i64 q11]) := Lib.hid (by rw [← y11]; exact s11.out.1); have j10 : Hid (l12.grownBy g10 (Value.slice (some ⟨a10.heap.size, 0, none⟩) 1 1).ownBlock) := Lib.hid (by rw [← y11]; exact s11.out.2); have z12 := Lib.hid (e12.out.grown j10.out e12.out.size (fun q hq => (Ot_1.out.lt q hq).1)); clear s11; have b15 := cell_other p10 j10.out b10.out; have i14 := cell_other v10 j10.out b10.out; have s14 := cell_other w10 j10.out b10.out; have k14 := cell_other s10 j10.out b10.out; have k15 := cell_other m10 j10.out b10.out; have p14 := cell_other q10 j10.out b10.out; have n15 := cell_other t10 j10.out b10.out; have t14 := cell_other r10 j10.out b10.out; have l14 := cell_other o10 j10.out b10.out; clear Ot_1 j10; have r12 : g10.cell? ⟨a10.heap.size, 0, none⟩ = some (.int .i64 i11) := n10.out.cells rfl 0 _ rfl; have o12 : g10.cell? ⟨a10.heap.size, 1, none⟩ = some (.int .i64 l11) := n10.out.cells rfl 1 _ rfl; have g13 : g10.cell? ⟨a10.heap.size, 2, none⟩ = some (.int .i64 j11) := n10.out.cells rfl 2 _ rfl; have f13 : g10.cell? ⟨a10.heap.size, 3, none⟩ = some (.int .i64 h11) := n10.out.cells rfl 3 _ rfl; have t12 : g10.cell? ⟨a10.heap.size, 4, none⟩ = some (.int .i64 n11) := n10.out.cells rfl 4 _ rfl; have y13 : g10.cell? ⟨a10.heap.size, 5, none⟩ = some (.int .i64 k11) := n10.out.cells rfl 5 _ rfl; have s12 : g10.cell? ⟨a10.heap.size, 6, none⟩ = some (.int .i64 o11) := n10.out.cells rfl 6 _ rfl
   have x12 : g10.cell? ⟨a10.heap.size, 7, none⟩ = some (.int .i64 m11) := n10.out.cells rfl 7 _ rfl; have r13 : g10.cell? ⟨a10.heap.size, 8, none⟩ = some (.int .i64 q11) := n10.out.cells rfl 8 _ rfl; have hR_ := ret_hid H; simp only [Prod.mk.injEq] at hR_; obtain ⟨rfl, rfl⟩ := hR_; go_wp2_with fail
   (try simp only [Exit.inBlock, Exit.then])
   refine bodyPost_ret (v := .tuple #[.agg #[.int .i64 i11, .int .i64 l11, .int .i64 j11, .int .i64 h11, .int .i64 n11, .int .i64 k11, .int .i64 o11, .int .i64 m11, .int .i64 q11], .bool n13]) ?hr_ ?hd_ ?_
   case hd_ => rfl
   case hr_ => simp [results, Tryz.results14, r12, o12, g13, f13, t12, y13, s12, x12, r13, go_sem]
   exact ⟨rfl, z12.out⟩
end Go.Proofs.YtihibckijdfidaaGreat.GiMakeCover

namespace Go.Proofs.YtihibckijdfidaaGreat.GiAreCosts
open Go.RowKit
open Go.Proofs.YtihibckijdfidaaGreat.Rowed Go.Proofs.YtihibckijdfidaaGreat.Turn Go.Proofs.YtihibckijdfidaaGreat.Aid Go.Proofs.YtihibckijdfidaaGreat.GoP Go.Proofs.YtihibckijdfidaaGreat.GoM

def l0 (costs_x0 : Int) (costs_x1 : Int) (costs_x2 : Int) (costs_x3 : Int) (k0 : Nat) (s : Unit) (nx0 bk0 : Unit → Option (Bool)) : Option (Bool) :=
 
 Option.bind (idx [costs_x0, costs_x1, costs_x2, costs_x3] (k0 : Int)) fun (yt_5 : Int) =>
 Option.bind (GiWithin.P yt_5 0 1000) fun (t_8 : Bool) =>
 letK (!t_8) fun (t_9 : Bool) =>
 iteK t_9
 (some false)
 (appK nx0 ())

def e0  (s : Unit) : Option (Bool) :=
 
 some true

def P (costs : PIntA4.IntA4) : Option (Bool) :=
 unIntA4 costs fun (costs_x0 : Int) (costs_x1 : Int) (costs_x2 : Int) (costs_x3 : Int) =>
 cntK (l0 costs_x0 costs_x1 costs_x2 costs_x3) (4) 0 () (e0 )

set_option maxRecDepth 100000 in
set_option maxHeartbeats 2000000 in
theorem C (costs : PIntA4.IntA4)   (w : World)   {r : Bool} (H : Hid (P costs = some r)) :
  Calls Tryz.prog 44 #[costs.val] w (Gives (.bool r) w) := by
 have HB := Lib.hid (Below.refl w.heap.size w); unfold P at H; obtain ⟨d10, e10, j10, a10⟩ := costs; replace H := unIntA4_hid H; unfold PIntA4.IntA4.val
 go_enter Tryz.func44, Tryz.ntmps44
 obtain ⟨h10, i10⟩ : ∃ x, w.alloc (.cells #[.int .i64 d10, .int .i64 e10, .int .i64 j10, .int .i64 a10] 41) = x := ⟨_, rfl⟩; have l10 : Below w.heap.size w h10 := (by rw [← i10]; exact (Below.refl _ _).alloc (Nat.le_refl _) _); have n10 := Lib.hid (Below.step HB.out l10); clear l10; have f10 : h10.cell? ⟨w.heap.size, 0, none⟩ = some (.int .i64 d10) := (by rw [← i10]; exact box_new _ _ _ 0 _ rfl); have c10 : h10.cell? ⟨w.heap.size, 1, none⟩ = some (.int .i64 e10) := (by rw [← i10]; exact box_new _ _ _ 1 _ rfl); have g10 : h10.cell? ⟨w.heap.size, 2, none⟩ = some (.int .i64 j10) := (by rw [← i10]; exact box_new _ _ _ 2 _ rfl); have b10 : h10.cell? ⟨w.heap.size, 3, none⟩ = some (.int .i64 a10) := (by rw [← i10]; exact box_new _ _ _ 3 _ rfl); go_wp2_with fail; go_loopg [6] (4) (fun m_ v6_ wr => ∃ (k0 : Nat) , k0 + m_ = 4 ∧ v6_ = .int .i64 (k0 : Int) ∧ Hid (cntK (l0 d10 e10 j10 a10) m_ k0 () (e0 ) = some r) ∧ Hid (Below w.heap.size w wr) ∧ wr.cell? ⟨w.heap.size, 0, none⟩ = some (.int .i64 d10) ∧ wr.cell? ⟨w.heap.size, 1, none⟩ = some (.int .i64 e10) ∧ wr.cell? ⟨w.heap.size, 2, none⟩ = some (.int .i64 j10) ∧ wr.cell? ⟨w.heap.size, 3, none⟩ = some (.int .i64 a10))
 case atStart => exact ⟨0, by omega, rfl, H, n10, f10, c10, g10, b10⟩
 case round =>
  obtain ⟨k0, hkm0, rfl, H, k10, f10, c10, g10, b10⟩ := hrel; rename World => wr0
  cases gk with
  | zero =>
   obtain rfl : k0 = 4 := (by omega); have hc0 : decide (((4 : Nat) : Int) < ((4 : Nat) : Int)) = false := (by simp); replace H := cnt_zero H; unfold e0 at H; obtain rfl := ret_hid H; go_wp2_with fail; go_ret; exact ⟨rfl, k10.out⟩
  | succ m0 =>
   have hlt0 : k0 < 4 := (by omega); have hc0 : decide ((k0 : Int) < ((4 : Nat) : Int)) = true := (by simp; omega); replace H := cnt_succ H; have hd0 : decide ((k0 : Int) < 4) = true := (by simp; omega); unfold l0 at H; replace H := idx_hid H; obtain ⟨nt_5, yt_5, et_5, lt_5, gt_5, H⟩ := H; obtain rfl : k0 = nt_5 := (by omega); clear et_5
   have it_5 : ∀ w, (Instr.index 41 (.agg #[.int .i64 d10, .int .i64 e10, .int .i64 j10, .int .i64 a10]) (.int .i64 (k0 : Int))).run Tryz.prog w = .ok (.int .i64 yt_5) w := by
    intro w; have hl := lt_5; have hg := gt_5.out; clear gt_5 H
    rcases k0 with _ | _ | _ | _ | _
    ·
     obtain rfl := Option.some.inj hg; rfl
    ·
     obtain rfl := Option.some.inj hg; rfl
    ·
     obtain rfl := Option.some.inj hg; rfl
    ·
     obtain rfl := Option.some.inj hg; rfl
    ·
     simp at hl; omega
   replace H := bind_hid H; obtain ⟨t_8, qt_8, H⟩ := H; go_wp2_with fail; go_at_call 53; refine (GiWithin.C (yt_5) (0) (1000)  _    qt_8).mono ?_; rintro o10 wt_8 ⟨rfl, bt_8⟩; have m10 := Lib.hid (Below.step k10.out bt_8); replace f10 := cell_below bt_8 f10; replace c10 := cell_below bt_8 c10; replace g10 := cell_below bt_8 g10; replace b10 := cell_below bt_8 b10; clear bt_8
   cases t_8 with
   | false =>
    replace H := let_hid H; obtain ⟨t_9, ht_9, H⟩ := H; obtain rfl : t_9 = true := ht_9.symm; replace H := ite_t H; obtain rfl := ret_hid H; go_wp2_with fail; go_ret; exact ⟨rfl, m10.out⟩
   | true =>
    replace H := let_hid H; obtain ⟨t_9, ht_9, H⟩ := H; obtain rfl : t_9 = false := ht_9.symm; replace H := ite_f H; replace H := app_hid H; go_wp2_with fail
    go_roundg m0
    case measure => omega
    case rel => exact ⟨k0 + 1, by omega, by go_num, H, m10, f10, c10, g10, b10⟩
end Go.Proofs.YtihibckijdfidaaGreat.GiAreCosts

namespace Go.Proofs.YtihibckijdfidaaGreat.GiCostOf
open Go.RowKit
open Go.Proofs.YtihibckijdfidaaGreat.Rowed Go.Proofs.YtihibckijdfidaaGreat.Turn Go.Proofs.YtihibckijdfidaaGreat.Aid Go.Proofs.YtihibckijdfidaaGreat.GoP Go.Proofs.YtihibckijdfidaaGreat.GoM

def l0 (change : Int) (costs_x0 : Int) (costs_x1 : Int) (costs_x2 : Int) (costs_x3 : Int) (k0 : Nat) (s : Int) (nx0 bk0 : Int → Option (Int)) : Option (Int) :=
 letK s fun sum_5l0 =>
 Option.bind (idx [costs_x0, costs_x1, costs_x2, costs_x3] (k0 : Int)) fun (yt_7 : Int) =>
 letK (change / 2 ^ k0) fun (t_12 : Int) =>
 letK (bits .and IntKind.i64 t_12 1) fun (t_13 : Int) =>
 letK (t_13 == 1) fun (t_14 : Bool) =>
 iteK t_14
 (letK (IntKind.i64.wrap (sum_5l0 + yt_7)) fun (t_17 : Int) =>
 appK nx0 (t_17))
 (appK nx0 (sum_5l0))

def e0  (s : Int) : Option (Int) :=
 letK s fun sum_5l0 =>
 some sum_5l0

def P (change : Int) (costs : PIntA4.IntA4) : Option (Int) :=
 unIntA4 costs fun (costs_x0 : Int) (costs_x1 : Int) (costs_x2 : Int) (costs_x3 : Int) =>
 cntK (l0 change costs_x0 costs_x1 costs_x2 costs_x3) (4) 0 (0) (e0 )

set_option maxRecDepth 100000 in
set_option maxHeartbeats 2000000 in
theorem C (change : Int) (costs : PIntA4.IntA4)   (w : World)   {r : Int} (H : Hid (P change costs = some r)) :
  Calls Tryz.prog 48 #[.int .i64 change, costs.val] w (Gives (.int .i64 r) w) := by
 have HB := Lib.hid (Below.refl w.heap.size w); unfold P at H; obtain ⟨a10, d10, c10, b10⟩ := costs; replace H := unIntA4_hid H; unfold PIntA4.IntA4.val
 go_enter Tryz.func48, Tryz.ntmps48
 obtain ⟨f10, e10⟩ : ∃ x, w.alloc (.cells #[.int .i64 a10, .int .i64 d10, .int .i64 c10, .int .i64 b10] 41) = x := ⟨_, rfl⟩; have m10 : Below w.heap.size w f10 := (by rw [← e10]; exact (Below.refl _ _).alloc (Nat.le_refl _) _); have n10 := Lib.hid (Below.step HB.out m10); clear m10; have i10 : f10.cell? ⟨w.heap.size, 0, none⟩ = some (.int .i64 a10) := (by rw [← e10]; exact box_new _ _ _ 0 _ rfl); have j10 : f10.cell? ⟨w.heap.size, 1, none⟩ = some (.int .i64 d10) := (by rw [← e10]; exact box_new _ _ _ 1 _ rfl); have h10 : f10.cell? ⟨w.heap.size, 2, none⟩ = some (.int .i64 c10) := (by rw [← e10]; exact box_new _ _ _ 2 _ rfl); have g10 : f10.cell? ⟨w.heap.size, 3, none⟩ = some (.int .i64 b10) := (by rw [← e10]; exact box_new _ _ _ 3 _ rfl); go_wp2_with fail; go_loopg [9, 5] (4) (fun m_ v9_ v5_ wr => ∃ (k0 : Nat) (k10 : Int), k0 + m_ = 4 ∧ v9_ = .int .i64 (k0 : Int) ∧ v5_ = .int .i64 k10 ∧ Hid (cntK (l0 change a10 d10 c10 b10) m_ k0 (k10) (e0 ) = some r) ∧ Hid (Below w.heap.size w wr) ∧ wr.cell? ⟨w.heap.size, 0, none⟩ = some (.int .i64 a10) ∧ wr.cell? ⟨w.heap.size, 1, none⟩ = some (.int .i64 d10) ∧ wr.cell? ⟨w.heap.size, 2, none⟩ = some (.int .i64 c10) ∧ wr.cell? ⟨w.heap.size, 3, none⟩ = some (.int .i64 b10))
 case atStart => exact ⟨0, _, by omega, rfl, rfl, H, n10, i10, j10, h10, g10⟩
 case round =>
  obtain ⟨k0, k10, hkm0, rfl, rfl, H, l10, i10, j10, h10, g10⟩ := hrel; rename World => wr0
  cases gk with
  | zero =>
   obtain rfl : k0 = 4 := (by omega); have hc0 : decide (((4 : Nat) : Int) < ((4 : Nat) : Int)) = false := (by simp); replace H := cnt_zero H; unfold e0 at H; replace H := let_hid H; obtain ⟨_, rfl, H⟩ := H; obtain rfl := ret_hid H; go_wp2_with fail; go_ret; exact ⟨rfl, l10.out⟩
  | succ m0 =>
   have hlt0 : k0 < 4 := (by omega); have hc0 : decide ((k0 : Int) < ((4 : Nat) : Int)) = true := (by simp; omega); replace H := cnt_succ H; have hd0 : decide ((k0 : Int) < 4) = true := (by simp; omega); unfold l0 at H; replace H := let_hid H; obtain ⟨_, rfl, H⟩ := H; replace H := idx_hid H; obtain ⟨nt_7, yt_7, et_7, lt_7, gt_7, H⟩ := H; obtain rfl : k0 = nt_7 := (by omega); clear et_7
   have it_7 : ∀ w, (Instr.index 41 (.agg #[.int .i64 a10, .int .i64 d10, .int .i64 c10, .int .i64 b10]) (.int .i64 (k0 : Int))).run Tryz.prog w = .ok (.int .i64 yt_7) w := by
    intro w; have hl := lt_7; have hg := gt_7.out; clear gt_7 H
    rcases k0 with _ | _ | _ | _ | _
    ·
     obtain rfl := Option.some.inj hg; rfl
    ·
     obtain rfl := Option.some.inj hg; rfl
    ·
     obtain rfl := Option.some.inj hg; rfl
    ·
     obtain rfl := Option.some.inj hg; rfl
    ·
     simp at hl; omega
   replace H := let_hid H; obtain ⟨t_12, o10, H⟩ := H; replace H := let_hid H; obtain ⟨t_13, p10, H⟩ := H; replace H := let_hid H; obtain ⟨t_14, q10, H⟩ := H
   cases t_14 with
   | false =>
    replace H := ite_f H; replace H := app_hid H; go_wp2_with fail
    go_roundg m0
    case measure => omega
    case rel => exact ⟨k0 + 1, _, by omega, by go_num, rfl, H, l10, i10, j10, h10, g10⟩
   | true =>
    replace H := ite_t H; replace H := let_hid H; obtain ⟨t_17, r10, H⟩ := H; replace H := app_hid H; go_wp2_with fail
    go_roundg m0
    case measure => omega
    case rel => exact ⟨k0 + 1, _, by omega, by go_num, rfl, H, l10, i10, j10, h10, g10⟩
end Go.Proofs.YtihibckijdfidaaGreat.GiCostOf

namespace Go.Proofs.YtihibckijdfidaaGreat.GiCheapestChange1
open Go.RowKit
open Go.Proofs.YtihibckijdfidaaGreat.Rowed Go.Proofs.YtihibckijdfidaaGreat.Turn Go.Proofs.YtihibckijdfidaaGreat.Aid Go.Proofs.YtihibckijdfidaaGreat.GoP Go.Proofs.YtihibckijdfidaaGreat.GoM

def P (a : Int) (b : Int) (hq0_x0 : Int) (hq0_x1 : Int) (hq0_x2 : Int) (hq0_x3 : Int) : Option (Int) :=
  Option.bind (Go.Proofs.YtihibckijdfidaaGreat.GiCostOf.P a (Go.Proofs.YtihibckijdfidaaGreat.PIntA4.IntA4.mk hq0_x0 hq0_x1 hq0_x2 hq0_x3)) fun (t_3 : Int) =>
  Option.bind (Go.Proofs.YtihibckijdfidaaGreat.GiCostOf.P b (Go.Proofs.YtihibckijdfidaaGreat.PIntA4.IntA4.mk hq0_x0 hq0_x1 hq0_x2 hq0_x3)) fun (t_6 : Int) =>
  Option.bind (Go.Proofs.YtihibckijdfidaaGreat.GxCmpCompareInt.P t_3 t_6) fun (t_7 : Int) =>
  Option.bind (Go.Proofs.YtihibckijdfidaaGreat.GiCompareChanges.P a b) fun (t_10 : Int) =>
  letK ([t_7, t_10]) fun (t_11 : (List Int)) =>
  Option.bind (Go.Proofs.YtihibckijdfidaaGreat.GxCmpOrInt.P t_11) fun (t_12 : Int) =>
  some t_12

set_option maxRecDepth 100000 in
set_option maxHeartbeats 2000000 in
theorem C (a : Int) (b : Int) (hq0_x0 : Int) (hq0_x1 : Int) (hq0_x2 : Int) (hq0_x3 : Int)  (gq0 : Nat) (w : World)  (Fq0_0h : Hid (w.cell? ⟨gq0, 0, none⟩ = some (.int .i64 hq0_x0))) (Fq0_1h : Hid (w.cell? ⟨gq0, 1, none⟩ = some (.int .i64 hq0_x1))) (Fq0_2h : Hid (w.cell? ⟨gq0, 2, none⟩ = some (.int .i64 hq0_x2))) (Fq0_3h : Hid (w.cell? ⟨gq0, 3, none⟩ = some (.int .i64 hq0_x3))) {r : Int} (H : Hid (P a b hq0_x0 hq0_x1 hq0_x2 hq0_x3 = some r)) :
    Calls Tryz.prog 45 #[.int .i64 a, .int .i64 b, .pointer (some ⟨gq0, 0, none⟩)] w (Gives (.int .i64 r) w) := by
  have HB := Lib.hid (Below.refl w.heap.size w); unfold P at H; have Fq0_0 := Fq0_0h.out; have Fq0_1 := Fq0_1h.out; have Fq0_2 := Fq0_2h.out; have Fq0_3 := Fq0_3h.out
  go_enter Tryz.func45, Tryz.ntmps45
  go_wp2_with fail; have bd1 : Below w.heap.size w w.drew := (Below.refl _ _).drew; have HBw.drew := Lib.hid (Below.step HB.out bd1); replace Fq0_0 := cell_below bd1 Fq0_0; replace Fq0_1 := cell_below bd1 Fq0_1; replace Fq0_2 := cell_below bd1 Fq0_2; replace Fq0_3 := cell_below bd1 Fq0_3; clear bd1; replace H := bind_hid H; obtain ⟨t_3, qt_3, H⟩ := H; replace H := bind_hid H; obtain ⟨t_6, qt_6, H⟩ := H; replace H := bind_hid H; obtain ⟨t_7, qt_7, H⟩ := H; replace H := bind_hid H; obtain ⟨t_10, qt_10, H⟩ := H; replace H := let_hid H; obtain ⟨t_11, ht_11, H⟩ := H; replace H := bind_hid H; obtain ⟨t_12, qt_12, H⟩ := H
  go_region_held3 (fun w' => w'.cell? ⟨gq0, 0, none⟩ = some (.int .i64 hq0_x0) ∧ w'.cell? ⟨gq0, 1, none⟩ = some (.int .i64 hq0_x1) ∧ w'.cell? ⟨gq0, 2, none⟩ = some (.int .i64 hq0_x2) ∧ w'.cell? ⟨gq0, 3, none⟩ = some (.int .i64 hq0_x3)) (first | exact ⟨Fq0_0, Fq0_1, Fq0_2, Fq0_3⟩ | exact ⟨Fq0_0__1632, Fq0_1__1633, Fq0_2__1634, Fq0_3__1635⟩)
      (first
        | (go_at_call 48
           refine (Go.Proofs.YtihibckijdfidaaGreat.GiCostOf.C (a) ((Go.Proofs.YtihibckijdfidaaGreat.PIntA4.IntA4.mk hq0_x0 hq0_x1 hq0_x2 hq0_x3))  _    qt_3).mono ?_; rintro e_t_3 wt_3 ⟨rfl, bt_3⟩; have HBwt_3 := Lib.hid (Below.step HBw.drew.out bt_3); replace Fq0_0 := cell_below bt_3 Fq0_0; replace Fq0_1 := cell_below bt_3 Fq0_1; replace Fq0_2 := cell_below bt_3 Fq0_2; replace Fq0_3 := cell_below bt_3 Fq0_3; clear bt_3
           clear qt_3)
        | (go_at_call 48
           refine (Go.Proofs.YtihibckijdfidaaGreat.GiCostOf.C (b) ((Go.Proofs.YtihibckijdfidaaGreat.PIntA4.IntA4.mk hq0_x0 hq0_x1 hq0_x2 hq0_x3))  _    qt_6).mono ?_; rintro e_t_6 wt_6 ⟨rfl, bt_6⟩; have HBwt_6 := Lib.hid (Below.step HBwt_3.out bt_6); replace Fq0_0 := cell_below bt_6 Fq0_0; replace Fq0_1 := cell_below bt_6 Fq0_1; replace Fq0_2 := cell_below bt_6 Fq0_2; replace Fq0_3 := cell_below bt_6 Fq0_3; clear bt_6
           clear qt_6)
        | (go_at_call 47
           refine (Go.Proofs.YtihibckijdfidaaGreat.GxCmpCompareInt.C (t_3) (t_6)  _    qt_7).mono ?_; rintro e_t_7 wt_7 ⟨rfl, bt_7⟩; have HBwt_7 := Lib.hid (Below.step HBwt_6.out bt_7); replace Fq0_0 := cell_below bt_7 Fq0_0; replace Fq0_1 := cell_below bt_7 Fq0_1; replace Fq0_2 := cell_below bt_7 Fq0_2; replace Fq0_3 := cell_below bt_7 Fq0_3; clear bt_7
           clear qt_7)
        | (go_at_call 32
           refine (Go.Proofs.YtihibckijdfidaaGreat.GiCompareChanges.C (a) (b)  _    qt_10).mono ?_; rintro e_t_10 wt_10 ⟨rfl, bt_10⟩; have HBwt_10 := Lib.hid (Below.step HBwt_7.out bt_10); replace Fq0_0 := cell_below bt_10 Fq0_0; replace Fq0_1 := cell_below bt_10 Fq0_1; replace Fq0_2 := cell_below bt_10 Fq0_2; replace Fq0_3 := cell_below bt_10 Fq0_3; clear bt_10; clear qt_10; obtain ⟨w_t_11, hw_t_11⟩ : ∃ x, wt_10.alloc (.cells #[.int .i64 t_7, .int .i64 t_10] 3) = x := ⟨_, rfl⟩; have bw_t_11 : Below wt_10.heap.size wt_10 w_t_11 := (by rw [← hw_t_11]; exact (Below.refl _ _).alloc (Nat.le_refl _) _); have hs_t_11 := HBwt_10.out.size; have nt_11 : t_11.length = 2 := (by rw [← ht_11]; rfl)
           have Ot_11 : Hid (w_t_11.ownsRow w.heap.size 3 1 (.slice (some ⟨wt_10.heap.size, 0, none⟩) 2 2) 2 (Go.Proofs.YtihibckijdfidaaGreat.HelpInt.iv t_11)) := by
             rw [← hw_t_11, ← ht_11]; have e_ : ([.int .i64 t_7, .int .i64 t_10] : List Value) = (Go.Proofs.YtihibckijdfidaaGreat.HelpInt.iv ([t_7, t_10] : List Int)) := rfl; exact Lib.hid (own_laid (n := 2) hs_t_11 e_ rfl (by unfold maxLen; omega))
           clear hs_t_11; have hht_11 := Lib.hid ht_11; clear ht_11; replace nt_11 := Lib.hid nt_11; have HBw_t_11 := Lib.hid (Below.step HBwt_10.out bw_t_11); have Fq0_0__1632 := cell_below bw_t_11 Fq0_0; have Fq0_1__1633 := cell_below bw_t_11 Fq0_1; have Fq0_2__1634 := cell_below bw_t_11 Fq0_2; have Fq0_3__1635 := cell_below bw_t_11 Fq0_3
           clear bw_t_11)
        | (have hc0_ := nt_11.out
           have Oct_12_1 := Lib.hid (own_len hc0_ Ot_11.out); have con_ := Go.Proofs.YtihibckijdfidaaGreat.GxCmpOrInt.C (t_11) (some ⟨wt_10.heap.size, 0, none⟩) 2 _   (Lib.hid (own_cells Oct_12_1.out)) (Lib.hid (own_max Oct_12_1.out)) qt_12; rw [hc0_] at con_; clear hc0_ Oct_12_1; go_at_call 46; refine con_.mono ?_; rintro e_t_12 wt_12 ⟨rfl, bt_12⟩; have HBwt_12 := Lib.hid (Below.step HBw_t_11.out bt_12); replace Fq0_0__1632 := cell_below bt_12 Fq0_0__1632; replace Fq0_1__1633 := cell_below bt_12 Fq0_1__1633; replace Fq0_2__1634 := cell_below bt_12 Fq0_2__1634; replace Fq0_3__1635 := cell_below bt_12 Fq0_3__1635; replace Ot_11 := Lib.hid (own_below Ot_11.out bt_12); clear bt_12
           clear qt_12))
  try clear Fq0_0
  try clear Fq0_1
  try clear Fq0_2
  try clear Fq0_3
  obtain rfl := ret_hid H; go_wp2_with fail; go_ret; exact ⟨rfl, HBwt_12.out⟩
end Go.Proofs.YtihibckijdfidaaGreat.GiCheapestChange1

namespace Go.Proofs.YtihibckijdfidaaGreat.GxSlicesMinFuncIntIntiCheapestChange1
open Go.RowKit
open Go.Proofs.YtihibckijdfidaaGreat.Rowed Go.Proofs.YtihibckijdfidaaGreat.Turn Go.Proofs.YtihibckijdfidaaGreat.Aid Go.Proofs.YtihibckijdfidaaGreat.GoP Go.Proofs.YtihibckijdfidaaGreat.GoM

def l0 (x : (List Int)) (hf1_0_x0 : Int) (hf1_0_x1 : Int) (hf1_0_x2 : Int) (hf1_0_x3 : Int) (s : Int × Int) (nx0 bk0 : Int × Int → Option (Int)) : Option (Int) :=
  unp2 s fun m_5l0 i_6l0 =>
  letK (decide (i_6l0 < (x.length : Int))) fun (t_14 : Bool) =>
  iteK t_14
  (Option.bind (idx x i_6l0) fun (yt_18 : Int) =>
  Option.bind (Go.Proofs.YtihibckijdfidaaGreat.GiCheapestChange1.P yt_18 m_5l0 hf1_0_x0 hf1_0_x1 hf1_0_x2 hf1_0_x3) fun (t_21 : Int) =>
  letK (decide (t_21 < 0)) fun (t_22 : Bool) =>
  iteK t_22
  (Option.bind (idx x i_6l0) fun (yt_25 : Int) =>
  letK (IntKind.i64.wrap (i_6l0 + 1)) fun (t_29 : Int) =>
  appK nx0 (yt_25, t_29))
  (letK (IntKind.i64.wrap (i_6l0 + 1)) fun (t_29 : Int) =>
  appK nx0 (m_5l0, t_29)))
  (appK bk0 (m_5l0, i_6l0))

def e0  (s : Int × Int) : Option (Int) :=
  unp2 s fun m_5l0 i_6l0 =>
  some m_5l0

def j0 (x : (List Int)) (hf1_0_x0 : Int) (hf1_0_x1 : Int) (hf1_0_x2 : Int) (hf1_0_x3 : Int) (fuel : Nat) (s : Unit) : Option (Int) :=
  Option.bind (idx x 0) fun (yt_7 : Int) =>
  loopK (l0 x hf1_0_x0 hf1_0_x1 hf1_0_x2 hf1_0_x3) fuel (yt_7, 1) (e0 )

def P (fuel : Nat) (x : (List Int)) (hf1_0_x0 : Int) (hf1_0_x1 : Int) (hf1_0_x2 : Int) (hf1_0_x3 : Int) : Option (Int) :=
  letK (decide ((x.length : Int) < 1)) fun (t_3 : Bool) =>
  iteK t_3
  (none)
  (j0 x hf1_0_x0 hf1_0_x1 hf1_0_x2 hf1_0_x3 fuel ())

set_option maxRecDepth 100000 in
set_option maxHeartbeats 2000000 in
theorem C (fuel : Nat) (x : (List Int)) (hf1_0_x0 : Int) (hf1_0_x1 : Int) (hf1_0_x2 : Int) (hf1_0_x3 : Int) (A0 : Option Addr) (c0 : Nat) (gf1_0 : Nat) (w : World) (M0 : Hid (Cells w 1 A0 x.length (Go.Proofs.YtihibckijdfidaaGreat.HelpInt.iv x))) (N0 : Hid (x.length ≤ 9223372036854775807)) (Ff1_0_0h : Hid (w.cell? ⟨gf1_0, 0, none⟩ = some (.int .i64 hf1_0_x0))) (Ff1_0_1h : Hid (w.cell? ⟨gf1_0, 1, none⟩ = some (.int .i64 hf1_0_x1))) (Ff1_0_2h : Hid (w.cell? ⟨gf1_0, 2, none⟩ = some (.int .i64 hf1_0_x2))) (Ff1_0_3h : Hid (w.cell? ⟨gf1_0, 3, none⟩ = some (.int .i64 hf1_0_x3))) {r : Int} (H : Hid (P fuel x hf1_0_x0 hf1_0_x1 hf1_0_x2 hf1_0_x3 = some r)) :
    Calls Tryz.prog 31 #[.slice A0 x.length c0, .func (.func 45) #[] #[.pointer (some ⟨gf1_0, 0, none⟩)]] w (Gives (.int .i64 r) w) := by
  have HB := Lib.hid (Below.refl w.heap.size w)
  unfold P at H
  have N0o := N0.out
  have Ff1_0_0 := Ff1_0_0h.out
  have Ff1_0_1 := Ff1_0_1h.out
  have Ff1_0_2 := Ff1_0_2h.out
  have Ff1_0_3 := Ff1_0_3h.out
  go_enter Tryz.func31, Tryz.ntmps31
  replace H := let_hid H
  obtain ⟨t_3, ht_3, H⟩ := H
  cases t_3 with
  | false =>
    have nht_3 : ¬ (x.length < 1) := by have := of_decide_eq_false ht_3; omega
    replace H := ite_f H
    unfold j0 at H
    replace H := idx_hid H
    obtain ⟨nt_7, yt_7, et_7, lt_7, gt_7, H⟩ := H
    obtain rfl : 0 = nt_7 := by omega
    clear et_7
    obtain ⟨ab_t_7, ao_t_7, zt_7, At_7, z_t_7, ct_7_0⟩ := Go.Proofs.YtihibckijdfidaaGreat.HelpInt.Ints.at_ M0.out lt_7
    obtain rfl := Option.some.inj (gt_7.out.symm.trans z_t_7)
    subst At_7
    have ltt_7 := cell_lt ct_7_0
    replace ct_7_0 := cell_below HB.out ct_7_0
    clear z_t_7
    have b1t_7 : (0 : Int) < ((x.length : Nat) : Int) := by omega
    have b3t_7 : 0 < x.length := by omega
    try simp only [Nat.zero_mul, Nat.add_zero, Nat.zero_add, Nat.reduceMul] at ct_7_0
    go_wp2_with fail
    go_loopg [5, 6] (fuel) (fun m_ v5_ v6_ wr => ∃ (m_5l0 : Int) (i_6l0 : Int), v5_ = .int .i64 m_5l0 ∧ v6_ = .int .i64 i_6l0 ∧ Hid (loopK (l0 x hf1_0_x0 hf1_0_x1 hf1_0_x2 hf1_0_x3) m_ (m_5l0, i_6l0) (e0 ) = some r) ∧ Hid (Below w.heap.size w wr) ∧ wr.cell? ⟨gf1_0, 0, none⟩ = some (.int .i64 hf1_0_x0) ∧ wr.cell? ⟨gf1_0, 1, none⟩ = some (.int .i64 hf1_0_x1) ∧ wr.cell? ⟨gf1_0, 2, none⟩ = some (.int .i64 hf1_0_x2) ∧ wr.cell? ⟨gf1_0, 3, none⟩ = some (.int .i64 hf1_0_x3))
    case atStart => exact ⟨_, _, rfl, rfl, H, HB, Ff1_0_0, Ff1_0_1, Ff1_0_2, Ff1_0_3⟩
    case round =>
      obtain ⟨m_5l0, i_6l0, rfl, rfl, H, HBwr0, Ff1_0_0, Ff1_0_1, Ff1_0_2, Ff1_0_3⟩ := hrel
      rename World => wr0
      cases gk with
      | zero => exact (loop_zero H).elim
      | succ m0 =>
        replace H := loop_succ H
        unfold l0 at H
        replace H := unp2_hid H
        replace H := let_hid H
        obtain ⟨t_14, ht_14, H⟩ := H
        cases t_14 with
        | false =>
          replace H := ite_f H
          replace H := app_hid H
          unfold e0 at H
          replace H := unp2_hid H
          obtain rfl := ret_hid H
          go_wp2_with fail
          go_ret
          exact ⟨rfl, HBwr0.out⟩
        | true =>
          replace H := ite_t H
          replace H := idx_hid H
          obtain ⟨nt_18, yt_18, et_18, lt_18, gt_18, H⟩ := H
          subst et_18
          have nc_1636 : nt_18 < x.length := by have := of_decide_eq_true ht_14; omega
          obtain ⟨ab_t_18, ao_t_18, zt_18, At_18, z_t_18, ct_18_0⟩ := Go.Proofs.YtihibckijdfidaaGreat.HelpInt.Ints.at_ M0.out lt_18
          obtain rfl := Option.some.inj (gt_18.out.symm.trans z_t_18)
          simp only [Option.some.injEq, Addr.mk.injEq] at At_18
          obtain ⟨rfl, rfl, _⟩ := At_18
          have ltt_18 := cell_lt ct_18_0
          replace ct_18_0 := cell_below HBwr0.out ct_18_0
          clear z_t_18
          have b0t_18 : (0 : Int) ≤ (nt_18 : Int) := by omega
          have b1t_18 : (nt_18 : Int) < ((x.length : Nat) : Int) := by omega
          have b2t_18 : ((nt_18 : Int)).toNat = nt_18 := by omega
          replace H := bind_hid H
          obtain ⟨t_21, qt_21, H⟩ := H
          go_wp2_with fail
          go_at_call 45
          refine (Go.Proofs.YtihibckijdfidaaGreat.GiCheapestChange1.C (yt_18) (m_5l0) (hf1_0_x0) (hf1_0_x1) (hf1_0_x2) (hf1_0_x3) (gf1_0) _   (Lib.hid Ff1_0_0) (Lib.hid Ff1_0_1) (Lib.hid Ff1_0_2) (Lib.hid Ff1_0_3) qt_21).mono ?_
          rintro e_t_21 wt_21 ⟨rfl, bt_21⟩
          have HBwt_21 := Lib.hid (Below.step HBwr0.out bt_21)
          replace Ff1_0_0 := cell_below bt_21 Ff1_0_0
          replace Ff1_0_1 := cell_below bt_21 Ff1_0_1
          replace Ff1_0_2 := cell_below bt_21 Ff1_0_2
          replace Ff1_0_3 := cell_below bt_21 Ff1_0_3
          replace ct_18_0 := cell_below bt_21 ct_18_0
          clear bt_21
          replace H := let_hid H
          obtain ⟨t_22, ht_22, H⟩ := H
          cases t_22 with
          | false =>
            replace H := ite_f H
            replace H := let_hid H
            obtain ⟨t_29, ht_29, H⟩ := H
            replace H := app_hid H
            go_wp2_with fail
            go_roundg m0
            case measure => omega
            case rel => exact ⟨_, _, rfl, rfl, H, HBwt_21, Ff1_0_0, Ff1_0_1, Ff1_0_2, Ff1_0_3⟩
          | true =>
            replace H := ite_t H
            replace H := idx_hid H
            obtain ⟨nt_25, yt_25, et_25, lt_25, gt_25, H⟩ := H
            obtain rfl : nt_18 = nt_25 := by omega
            clear et_25
            obtain rfl := Option.some.inj (gt_18.out.symm.trans gt_25.out)
            clear gt_25 lt_25
            replace H := let_hid H
            obtain ⟨t_29, ht_29, H⟩ := H
            replace H := app_hid H
            go_wp2_with fail
            go_roundg m0
            case measure => omega
            case rel => exact ⟨_, _, rfl, rfl, H, HBwt_21, Ff1_0_0, Ff1_0_1, Ff1_0_2, Ff1_0_3⟩
  | true =>
    have nht_3 : x.length < 1 := by have := of_decide_eq_true ht_3; omega
    replace H := ite_t H
    exact (none_hid H).elim
end Go.Proofs.YtihibckijdfidaaGreat.GxSlicesMinFuncIntIntiCheapestChange1

namespace Go.Proofs.YtihibckijdfidaaGreat.GiCheapestChange
open Go.RowKit
open Go.Proofs.YtihibckijdfidaaGreat.Rowed Go.Proofs.YtihibckijdfidaaGreat.Turn Go.Proofs.YtihibckijdfidaaGreat.Aid Go.Proofs.YtihibckijdfidaaGreat.GoP Go.Proofs.YtihibckijdfidaaGreat.GoM

def P (fuel : Nat) (rates : (List PRate.Rate)) (x : PCover.Cover) (costs : PIntA4.IntA4) : Option (Int × Int × Bool) :=
 unCover x fun (x_id : Int) (x_day : Int) (x_zone : Int) (x_grams : Int) (x_paid : Int) (x_from_ : Int) (x_to_ : Int) (x_leave : Int) (x_arrive : Int) =>
 unIntA4 costs fun (costs_x0 : Int) (costs_x1 : Int) (costs_x2 : Int) (costs_x3 : Int) =>
 bind2 (GiPossibleChanges.P rates (PCover.Cover.mk x_id x_day x_zone x_grams x_paid x_from_ x_to_ x_leave x_arrive)) fun (t_7a : (List Int)) (t_7b : Bool) =>
 letK ((t_7a.length : Int) == 0) fun (t_15 : Bool) =>
 joinK (fun (t_20 : Bool) =>
 iteK t_20
 (some (0, 0, false))
 (Option.bind (GxSlicesMinFuncIntIntiCheapestChange1.P fuel t_7a costs_x0 costs_x1 costs_x2 costs_x3) fun (t_26 : Int) =>
 Option.bind (GiCostOf.P t_26 (PIntA4.IntA4.mk costs_x0 costs_x1 costs_x2 costs_x3)) fun (t_31 : Int) =>
 some (t_26, t_31, true))) fun jt_20 => iteK t_15 (appK jt_20 true) (Option.bind (GiAreCosts.P (PIntA4.IntA4.mk costs_x0 costs_x1 costs_x2 costs_x3)) fun (t_18 : Bool) =>
 letK (!t_18) fun (t_19 : Bool) =>
 appK jt_20 t_19)

set_option maxRecDepth 100000 in
set_option maxHeartbeats 2000000 in
theorem C (fuel : Nat) (rates : (List PRate.Rate)) (x : PCover.Cover) (costs : PIntA4.IntA4) (A0 : Option Addr) (c0 : Nat)  (w : World) (M0 : Hid (Cells w 5 A0 rates.length (PRate.flat rates))) (N0 : Hid (rates.length ≤ 9223372036854775807))  {r0 : Int} {r1 : Int} {r2 : Bool} (H : Hid (P fuel rates x costs = some (r0, r1, r2))) :
  Calls Tryz.prog 15 #[.slice A0 rates.length c0, x.val, costs.val] w (Gives (.tuple #[.int .i64 r0, .int .i64 r1, .bool r2]) w) := by
 have HB := Lib.hid (Below.refl w.heap.size w); unfold P at H; obtain ⟨x_id, x_day, x_zone, x_grams, x_paid, x_from_, x_to_, x_leave, x_arrive⟩ := x; replace H := unCover_hid H; obtain ⟨w10, y10, z10, x10⟩ := costs; replace H := unIntA4_hid H; unfold PCover.Cover.val; unfold PIntA4.IntA4.val; have N0o := N0.out
 go_enter Tryz.func15, Tryz.ntmps15
 obtain ⟨a10, g10⟩ : ∃ x, w.alloc (.cells #[.int .i64 x_id, .int .i64 x_day, .int .i64 x_zone, .int .i64 x_grams, .int .i64 x_paid, .int .i64 x_from_, .int .i64 x_to_, .int .i64 x_leave, .int .i64 x_arrive] 26) = x := ⟨_, rfl⟩; have h11 : Below w.heap.size w a10 := (by rw [← g10]; exact (Below.refl _ _).alloc (Nat.le_refl _) _); have y11 := Lib.hid (Below.step HB.out h11); clear h11; have g11 : a10.cell? ⟨w.heap.size, 0, none⟩ = some (.int .i64 x_id) := (by rw [← g10]; exact box_new _ _ _ 0 _ rfl); have i11 : a10.cell? ⟨w.heap.size, 1, none⟩ = some (.int .i64 x_day) := (by rw [← g10]; exact box_new _ _ _ 1 _ rfl); have l11 : a10.cell? ⟨w.heap.size, 2, none⟩ = some (.int .i64 x_zone) := (by rw [← g10]; exact box_new _ _ _ 2 _ rfl); have o11 : a10.cell? ⟨w.heap.size, 3, none⟩ = some (.int .i64 x_grams) := (by rw [← g10]; exact box_new _ _ _ 3 _ rfl); have f11 : a10.cell? ⟨w.heap.size, 4, none⟩ = some (.int .i64 x_paid) := (by rw [← g10]; exact box_new _ _ _ 4 _ rfl); have n11 : a10.cell? ⟨w.heap.size, 5, none⟩ = some (.int .i64 x_from_) := (by rw [← g10]; exact box_new _ _ _ 5 _ rfl); have k11 : a10.cell? ⟨w.heap.size, 6, none⟩ = some (.int .i64 x_to_) := (by rw [← g10]; exact box_new _ _ _ 6 _ rfl); have q11 : a10.cell? ⟨w.heap.size, 7, none⟩ = some (.int .i64 x_leave) := (by rw [← g10]; exact box_new _ _ _ 7 _ rfl); have p11 : a10.cell? ⟨w.heap.size, 8, none⟩ = some (.int .i64 x_arrive) := (by rw [← g10]; exact box_new _ _ _ 8 _ rfl); obtain ⟨v10, a11⟩ : ∃ x, a10.alloc (.cells #[.int .i64 w10, .int .i64 y10, .int .i64 z10, .int .i64 x10] 41) = x := ⟨_, rfl⟩; have e10 : Below a10.heap.size a10 v10 := (by rw [← a11]; exact (Below.refl _ _).alloc (Nat.le_refl _) _); have c11 := Lib.hid (Below.step y11.out e10); have k10 := cell_below e10 g11; have q10 := cell_below e10 i11; have n10 := cell_below e10 l11; have t10 := cell_below e10 o11; have l10 := cell_below e10 f11; have r10 := cell_below e10 n11; have s10 := cell_below e10 k11; have p10 := cell_below e10 q11; have m10 := cell_below e10 p11; clear e10; have f10 : v10.cell? ⟨a10.heap.size, 0, none⟩ = some (.int .i64 w10) := (by rw [← a11]; exact box_new _ _ _ 0 _ rfl); have h10 : v10.cell? ⟨a10.heap.size, 1, none⟩ = some (.int .i64 y10) := (by rw [← a11]; exact box_new _ _ _ 1 _ rfl); have i10 : v10.cell? ⟨a10.heap.size, 2, none⟩ = some (.int .i64 z10) := (by rw [← a11]; exact box_new _ _ _ 2 _ rfl); have j10 : v10.cell? ⟨a10.heap.size, 3, none⟩ = some (.int .i64 x10) := (by rw [← a11]; exact box_new _ _ _ 3 _ rfl); replace H := bind2_hid H; obtain ⟨t_7a, t_7b, qt_7, H⟩ := H; go_wp2_with fail; clear g11 i11 l11 o11 f11 n11 k11 q11 p11; go_at_call 9; refine (GiPossibleChanges.C (rates) ((PCover.Cover.mk x_id x_day x_zone x_grams x_paid x_from_ x_to_ x_leave x_arrive)) A0 c0 _   (Lib.hid (Cells.below M0.out c11.out)) N0 qt_7).mono ?_; rintro j12 wt_7 ⟨t11, w11, rfl, b11, bt_7⟩; have k12 := Lib.hid (apart_callbox b11 k10); have i12 := Lib.hid (apart_callbox b11 f10); have o10 := Lib.hid (own_lower b11 c11.out.size); clear b11; have j11 := Lib.hid (Below.step c11.out bt_7); replace k10 := cell_below bt_7 k10; replace q10 := cell_below bt_7 q10; replace n10 := cell_below bt_7 n10; replace t10 := cell_below bt_7 t10; replace l10 := cell_below bt_7 l10; replace r10 := cell_below bt_7 r10; replace s10 := cell_below bt_7 s10; replace p10 := cell_below bt_7 p10; replace m10 := cell_below bt_7 m10; replace f10 := cell_below bt_7 f10; replace h10 := cell_below bt_7 h10; replace i10 := cell_below bt_7 i10; replace j10 := cell_below bt_7 j10; clear bt_7; replace H := let_hid H; obtain ⟨t_15, e11, H⟩ := H; replace H := join_hid H
 cases t_15 with
 | false =>
  have r11 : ¬ (t_7a.length = 0) := (by have := ne_of_beq_false e11; omega); replace H := ite_f H; replace H := bind_hid H; obtain ⟨t_18, x11, H⟩ := H; go_wp2_with fail; go_at_call 44; refine (GiAreCosts.C ((PIntA4.IntA4.mk w10 y10 z10 x10))  _    x11).mono ?_; rintro e12 f12 ⟨rfl, c10⟩; have m11 := Lib.hid (Below.step j11.out c10); replace k10 := cell_below c10 k10; replace q10 := cell_below c10 q10; replace n10 := cell_below c10 n10; replace t10 := cell_below c10 t10; replace l10 := cell_below c10 l10; replace r10 := cell_below c10 r10; replace s10 := cell_below c10 s10; replace p10 := cell_below c10 p10; replace m10 := cell_below c10 m10; replace f10 := cell_below c10 f10; replace h10 := cell_below c10 h10; replace i10 := cell_below c10 i10; replace j10 := cell_below c10 j10; replace o10 := Lib.hid (own_below o10.out c10); clear c10
  cases t_18 with
  | false =>
   replace H := let_hid H; obtain ⟨t_19, d11, H⟩ := H; obtain rfl : t_19 = true := d11.symm; replace H := app_hid H; replace H := ite_t H; cases ret_hid H; go_wp2_with fail; go_ret3; exact ⟨rfl, m11.out⟩
  | true =>
   replace H := let_hid H; obtain ⟨t_19, d11, H⟩ := H; obtain rfl : t_19 = false := d11.symm; replace H := app_hid H; replace H := ite_f H; replace H := bind_hid H; obtain ⟨t_26, b12, H⟩ := H; go_wp2_with fail; go_at_call 31; refine (GxSlicesMinFuncIntIntiCheapestChange1.C fuel (t_7a) (w10) (y10) (z10) (x10) t11 w11 (a10.heap.size) _   (Lib.hid (own_cells o10.out)) (Lib.hid (own_max o10.out)) (Lib.hid f10) (Lib.hid h10) (Lib.hid i10) (Lib.hid j10) b12).mono ?_; rintro g12 c12 ⟨rfl, d10⟩; have z11 := Lib.hid (Below.step m11.out d10); replace k10 := cell_below d10 k10; replace q10 := cell_below d10 q10; replace n10 := cell_below d10 n10; replace t10 := cell_below d10 t10; replace l10 := cell_below d10 l10; replace r10 := cell_below d10 r10; replace s10 := cell_below d10 s10; replace p10 := cell_below d10 p10; replace m10 := cell_below d10 m10; replace f10 := cell_below d10 f10; replace h10 := cell_below d10 h10; replace i10 := cell_below d10 i10; replace j10 := cell_below d10 j10; replace o10 := Lib.hid (own_below o10.out d10); clear d10; replace H := bind_hid H; obtain ⟨t_31, s11, H⟩ := H; go_wp2_with fail; go_at_call 48; refine (GiCostOf.C (t_26) ((PIntA4.IntA4.mk w10 y10 z10 x10))  _    s11).mono ?_; rintro d12 h12 ⟨rfl, b10⟩; have v11 := Lib.hid (Below.step z11.out b10); replace k10 := cell_below b10 k10; replace q10 := cell_below b10 q10; replace n10 := cell_below b10 n10; replace t10 := cell_below b10 t10; replace l10 := cell_below b10 l10; replace r10 := cell_below b10 r10; replace s10 := cell_below b10 s10; replace p10 := cell_below b10 p10; replace m10 := cell_below b10 m10; replace f10 := cell_below b10 f10; replace h10 := cell_below b10 h10; replace i10 := cell_below b10 i10; replace j10 := cell_below b10 j10; replace o10 := Lib.hid (own_below o10.out b10); clear b10; cases ret_hid H; go_wp2_with fail; go_ret3; exact ⟨rfl, v11.out⟩
 | true =>
  have a12 : Hid (t_7a.length = 0) := Lib.hid (by have := eq_of_beq e11; omega); have r11 : (t_7a.length == 0) = true := beq_iff_eq.2 a12.out; replace H := ite_t H; replace H := app_hid H; replace H := ite_t H; cases ret_hid H; go_wp2_with fail; go_ret3; exact ⟨rfl, j11.out⟩
end Go.Proofs.YtihibckijdfidaaGreat.GiCheapestChange

namespace Go.Proofs.YtihibckijdfidaaGreat.GlVHas
open Go.RowKit
open Go.Proofs.YtihibckijdfidaaGreat.Rowed Go.Proofs.YtihibckijdfidaaGreat.Turn Go.Proofs.YtihibckijdfidaaGreat.Aid Go.Proofs.YtihibckijdfidaaGreat.GoP Go.Proofs.YtihibckijdfidaaGreat.GoM

def l0 (l : (List Int)) (x : Int) (k0 : Nat) (s : Unit) (nx0 bk0 : Unit → Option (Bool)) : Option (Bool) :=
 
 Option.bind (idx l (k0 : Int)) fun (yt_8 : Int) =>
 letK (yt_8 == x) fun (t_11 : Bool) =>
 iteK t_11
 (some true)
 (appK nx0 ())

def e0  (s : Unit) : Option (Bool) :=
 
 some false

def P (l : (List Int)) (x : Int) : Option (Bool) :=
 cntK (l0 l x) (l.length) 0 () (e0 )

set_option maxRecDepth 100000 in
set_option maxHeartbeats 2000000 in
theorem C (l : (List Int)) (x : Int) (A0 : Option Addr) (c0 : Nat)  (w : World) (M0 : Hid (Cells w 1 A0 l.length (HelpInt.iv l))) (N0 : Hid (l.length ≤ 9223372036854775807))  {r : Bool} (H : Hid (P l x = some r)) :
  Calls Tryz.prog 16 #[.slice A0 l.length c0, .int .i64 x] w (Gives (.bool r) w) := by
 have HB := Lib.hid (Below.refl w.heap.size w); unfold P at H; have N0o := N0.out
 go_enter Tryz.func16, Tryz.ntmps16
 go_wp2_with fail; go_loopg [5] (l.length) (fun m_ v5_ wr => ∃ (k0 : Nat) , k0 + m_ = l.length ∧ v5_ = .int .i64 (k0 : Int) ∧ Hid (cntK (l0 l x) m_ k0 () (e0 ) = some r) ∧ Hid (Below w.heap.size w wr))
 case atStart => exact ⟨0, by omega, rfl, H, HB⟩
 case round =>
  obtain ⟨k0, hkm0, rfl, H, a10⟩ := hrel; rename World => wr0
  cases gk with
  | zero =>
   obtain rfl : k0 = l.length := (by omega); have hc0 : decide (((l.length : Nat) : Int) < ((l.length : Nat) : Int)) = false := (by simp); replace H := cnt_zero H; unfold e0 at H; obtain rfl := ret_hid H; go_wp2_with fail; go_ret; exact ⟨rfl, a10.out⟩
  | succ m0 =>
   have hlt0 : k0 < l.length := (by omega); have hc0 : decide ((k0 : Int) < ((l.length : Nat) : Int)) = true := (by simp; omega); replace H := cnt_succ H; unfold l0 at H; replace H := idx_hid H; obtain ⟨nt_8, yt_8, et_8, lt_8, gt_8, H⟩ := H; obtain rfl : k0 = nt_8 := (by omega); clear et_8; obtain ⟨f10, h10, zt_8, At_8, c10, b10⟩ := HelpInt.Ints.at_ M0.out lt_8; obtain rfl := Option.some.inj (gt_8.out.symm.trans c10); subst At_8; have j10 := cell_lt b10; replace b10 := cell_below a10.out b10; clear c10; have i10 : (0 : Int) ≤ (k0 : Int) := (by omega); have e10 : (k0 : Int) < ((l.length : Nat) : Int) := (by omega); have g10 : ((k0 : Int)).toNat = k0 := (by omega); replace H := let_hid H; obtain ⟨t_11, d10, H⟩ := H
   cases t_11 with
   | false =>
    replace H := ite_f H; replace H := app_hid H; go_wp2_with fail
    go_roundg m0
    case measure => omega
    case rel => exact ⟨k0 + 1, by omega, by go_num, H, a10⟩
   | true =>
    replace H := ite_t H; obtain rfl := ret_hid H; go_wp2_with fail; go_ret; exact ⟨rfl, a10.out⟩
end Go.Proofs.YtihibckijdfidaaGreat.GlVHas

namespace Go.Proofs.YtihibckijdfidaaGreat.GiNeededChanges
open Go.RowKit
open Go.Proofs.YtihibckijdfidaaGreat.Rowed Go.Proofs.YtihibckijdfidaaGreat.Turn Go.Proofs.YtihibckijdfidaaGreat.Aid Go.Proofs.YtihibckijdfidaaGreat.GoP Go.Proofs.YtihibckijdfidaaGreat.GoM

def l0 (t_5a : (List Int)) (k0 : Nat) (s : Int) (nx0 bk0 : Int → Option (Int × Bool)) : Option (Int × Bool) :=
 letK s fun needed_8l0 =>
 Option.bind (idx t_5a (k0 : Int)) fun (yt_21 : Int) =>
 letK (bits .and IntKind.i64 needed_8l0 yt_21) fun (t_26 : Int) =>
 appK nx0 (t_26)

def e0  (s : Int) : Option (Int × Bool) :=
 letK s fun needed_8l0 =>
 some (needed_8l0, true)

def P (rates : (List PRate.Rate)) (x : PCover.Cover) : Option (Int × Bool) :=
 unCover x fun (x_id : Int) (x_day : Int) (x_zone : Int) (x_grams : Int) (x_paid : Int) (x_from_ : Int) (x_to_ : Int) (x_leave : Int) (x_arrive : Int) =>
 bind2 (GiPossibleChanges.P rates (PCover.Cover.mk x_id x_day x_zone x_grams x_paid x_from_ x_to_ x_leave x_arrive)) fun (t_5a : (List Int)) (t_5b : Bool) =>
 letK ((t_5a.length : Int) == 0) fun (t_13 : Bool) =>
 iteK t_13
 (some (0, false))
 (cntK (l0 t_5a) (t_5a.length) 0 (15) (e0 ))

set_option maxRecDepth 100000 in
set_option maxHeartbeats 2000000 in
theorem C (rates : (List PRate.Rate)) (x : PCover.Cover) (A0 : Option Addr) (c0 : Nat)  (w : World) (M0 : Hid (Cells w 5 A0 rates.length (PRate.flat rates))) (N0 : Hid (rates.length ≤ 9223372036854775807))  {r0 : Int} {r1 : Bool} (H : Hid (P rates x = some (r0, r1))) :
  Calls Tryz.prog 17 #[.slice A0 rates.length c0, x.val] w (Gives (.tuple #[.int .i64 r0, .bool r1]) w) := by
 have HB := Lib.hid (Below.refl w.heap.size w); unfold P at H; obtain ⟨x_id, x_day, x_zone, x_grams, x_paid, x_from_, x_to_, x_leave, x_arrive⟩ := x; replace H := unCover_hid H; unfold PCover.Cover.val; have N0o := N0.out
 go_enter Tryz.func17, Tryz.ntmps17
 obtain ⟨a10, b10⟩ : ∃ x, w.alloc (.cells #[.int .i64 x_id, .int .i64 x_day, .int .i64 x_zone, .int .i64 x_grams, .int .i64 x_paid, .int .i64 x_from_, .int .i64 x_to_, .int .i64 x_leave, .int .i64 x_arrive] 26) = x := ⟨_, rfl⟩; have s10 : Below w.heap.size w a10 := (by rw [← b10]; exact (Below.refl _ _).alloc (Nat.le_refl _) _); have n10 := Lib.hid (Below.step HB.out s10); clear s10; have d10 : a10.cell? ⟨w.heap.size, 0, none⟩ = some (.int .i64 x_id) := (by rw [← b10]; exact box_new _ _ _ 0 _ rfl); have j10 : a10.cell? ⟨w.heap.size, 1, none⟩ = some (.int .i64 x_day) := (by rw [← b10]; exact box_new _ _ _ 1 _ rfl); have e10 : a10.cell? ⟨w.heap.size, 2, none⟩ = some (.int .i64 x_zone) := (by rw [← b10]; exact box_new _ _ _ 2 _ rfl); have f10 : a10.cell? ⟨w.heap.size, 3, none⟩ = some (.int .i64 x_grams) := (by rw [← b10]; exact box_new _ _ _ 3 _ rfl); have g10 : a10.cell? ⟨w.heap.size, 4, none⟩ = some (.int .i64 x_paid) := (by rw [← b10]; exact box_new _ _ _ 4 _ rfl); have i10 : a10.cell? ⟨w.heap.size, 5, none⟩ = some (.int .i64 x_from_) := (by rw [← b10]; exact box_new _ _ _ 5 _ rfl); have h10 : a10.cell? ⟨w.heap.size, 6, none⟩ = some (.int .i64 x_to_) := (by rw [← b10]; exact box_new _ _ _ 6 _ rfl); have l10 : a10.cell? ⟨w.heap.size, 7, none⟩ = some (.int .i64 x_leave) := (by rw [← b10]; exact box_new _ _ _ 7 _ rfl); have k10 : a10.cell? ⟨w.heap.size, 8, none⟩ = some (.int .i64 x_arrive) := (by rw [← b10]; exact box_new _ _ _ 8 _ rfl); replace H := bind2_hid H; obtain ⟨t_5a, t_5b, qt_5, H⟩ := H; go_wp2_with fail; go_at_call 9; refine (GiPossibleChanges.C (rates) ((PCover.Cover.mk x_id x_day x_zone x_grams x_paid x_from_ x_to_ x_leave x_arrive)) A0 c0 _   (Lib.hid (Cells.below M0.out n10.out)) N0 qt_5).mono ?_; rintro k11 wt_5 ⟨a11, b11, rfl, m10, bt_5⟩; have j11 := Lib.hid (apart_callbox m10 d10); have c10 := Lib.hid (own_lower m10 n10.out.size); clear m10; have v10 := Lib.hid (Below.step n10.out bt_5); replace d10 := cell_below bt_5 d10; replace j10 := cell_below bt_5 j10; replace e10 := cell_below bt_5 e10; replace f10 := cell_below bt_5 f10; replace g10 := cell_below bt_5 g10; replace i10 := cell_below bt_5 i10; replace h10 := cell_below bt_5 h10; replace l10 := cell_below bt_5 l10; replace k10 := cell_below bt_5 k10; clear bt_5; replace H := let_hid H; obtain ⟨t_13, p10, H⟩ := H
 cases t_13 with
 | false =>
  have z10 : ¬ (t_5a.length = 0) := (by have := ne_of_beq_false p10; omega); replace H := ite_f H; have hb_0 : t_5a.length ≤ 9223372036854775807 := own_max c10.out; go_wp2_with fail; go_loopg [22, 8] (t_5a.length) (fun m_ v22_ v8_ wr => ∃ (k0 : Nat) (o10 : Int), k0 + m_ = t_5a.length ∧ v22_ = .int .i64 (k0 : Int) ∧ v8_ = .int .i64 o10 ∧ Hid (cntK (l0 t_5a) m_ k0 (o10) (e0 ) = some (r0, r1)) ∧ Hid (Below w.heap.size w wr) ∧ wr.cell? ⟨w.heap.size, 0, none⟩ = some (.int .i64 x_id) ∧ wr.cell? ⟨w.heap.size, 1, none⟩ = some (.int .i64 x_day) ∧ wr.cell? ⟨w.heap.size, 2, none⟩ = some (.int .i64 x_zone) ∧ wr.cell? ⟨w.heap.size, 3, none⟩ = some (.int .i64 x_grams) ∧ wr.cell? ⟨w.heap.size, 4, none⟩ = some (.int .i64 x_paid) ∧ wr.cell? ⟨w.heap.size, 5, none⟩ = some (.int .i64 x_from_) ∧ wr.cell? ⟨w.heap.size, 6, none⟩ = some (.int .i64 x_to_) ∧ wr.cell? ⟨w.heap.size, 7, none⟩ = some (.int .i64 x_leave) ∧ wr.cell? ⟨w.heap.size, 8, none⟩ = some (.int .i64 x_arrive) ∧ Hid (wr.ownsRow w.heap.size 3 1 (.slice a11 t_5a.length b11) t_5a.length (HelpInt.iv t_5a)))
  case atStart => exact ⟨0, _, by omega, rfl, rfl, H, v10, d10, j10, e10, f10, g10, i10, h10, l10, k10, c10⟩
  case round =>
   obtain ⟨k0, o10, hkm0, rfl, rfl, H, q10, d10, j10, e10, f10, g10, i10, h10, l10, k10, c10⟩ := hrel; rename World => wr0
   cases gk with
   | zero =>
    obtain rfl : k0 = t_5a.length := (by omega); have hc0 : decide (((t_5a.length : Nat) : Int) < ((t_5a.length : Nat) : Int)) = false := (by simp); replace H := cnt_zero H; unfold e0 at H; replace H := let_hid H; obtain ⟨_, rfl, H⟩ := H; cases ret_hid H; go_wp2_with fail; go_ret2; exact ⟨rfl, q10.out⟩
   | succ m0 =>
    have hlt0 : k0 < t_5a.length := (by omega); have hc0 : decide ((k0 : Int) < ((t_5a.length : Nat) : Int)) = true := (by simp; omega); replace H := cnt_succ H; unfold l0 at H; replace H := let_hid H; obtain ⟨_, rfl, H⟩ := H; replace H := idx_hid H; obtain ⟨e11, i11, c11, f11, w10, H⟩ := H; obtain rfl : k0 = e11 := (by omega); clear c11; obtain ⟨h11, x10⟩ := own_some c10.out (by omega); subst x10; obtain ⟨p11, o11, g11, t10, r10, d11⟩ := HelpInt.Ints.at_ (own_cells c10.out) (k := k0) (by omega); obtain rfl := Option.some.inj (w10.out.symm.trans r10); simp only [Option.some.injEq, Addr.mk.injEq] at t10; obtain ⟨rfl, rfl, _⟩ := t10; clear r10; simp only [Nat.zero_add] at d11; have m11 : (0 : Int) ≤ (k0 : Int) := (by omega); have l11 : (k0 : Int) < ((t_5a.length : Nat) : Int) := (by omega); have n11 : ((k0 : Int)).toNat = k0 := (by omega); replace H := let_hid H; obtain ⟨t_26, q11, H⟩ := H; replace H := app_hid H; go_wp2_with fail
    go_roundg m0
    case measure => omega
    case rel => exact ⟨k0 + 1, _, by omega, by go_num, rfl, H, q10, d10, j10, e10, f10, g10, i10, h10, l10, k10, c10⟩
 | true =>
  have y10 : Hid (t_5a.length = 0) := Lib.hid (by have := eq_of_beq p10; omega); have z10 : (t_5a.length == 0) = true := beq_iff_eq.2 y10.out; replace H := ite_t H; cases ret_hid H; go_wp2_with fail; go_ret2; exact ⟨rfl, v10.out⟩
end Go.Proofs.YtihibckijdfidaaGreat.GiNeededChanges

namespace Go.Proofs.YtihibckijdfidaaGreat.GsNeededChanges
open Go.RowKit
open Go.Proofs.YtihibckijdfidaaGreat.Rowed Go.Proofs.YtihibckijdfidaaGreat.Turn Go.Proofs.YtihibckijdfidaaGreat.Aid Go.Proofs.YtihibckijdfidaaGreat.GoP Go.Proofs.YtihibckijdfidaaGreat.GoM

def l1 (t_15 : (List Int)) (one_8l0 : Int) (k1 : Nat) (s : Int) (nx1 bk1 : Int → Option (Int × Bool)) : Option (Int × Bool) :=
 letK s fun n_9l1 =>
 Option.bind (idx t_15 (k1 : Int)) fun (yt_29 : Int) =>
 Option.bind (GsL12Has.P yt_29 one_8l0) fun (t_32 : Bool) =>
 iteK t_32
 (letK (IntKind.i64.wrap (n_9l1 + 1)) fun (t_34 : Int) =>
 appK nx1 (t_34))
 (appK nx1 (n_9l1))

def e1 (t_15 : (List Int)) (nx0 : (Int × Int) → Option (Int × Bool)) (sum_7l0 : Int) (one_8l0 : Int) (s : Int) : Option (Int × Bool) :=
 letK s fun n_9l1 =>
 letK (n_9l1 == (t_15.length : Int)) fun (t_42 : Bool) =>
 iteK t_42
 (letK (IntKind.i64.wrap (sum_7l0 + one_8l0)) fun (t_45 : Int) =>
 letK (IntKind.i64.wrap (2 * one_8l0)) fun (t_48 : Int) =>
 appK nx0 (t_45, t_48))
 (letK (IntKind.i64.wrap (2 * one_8l0)) fun (t_48 : Int) =>
 appK nx0 (sum_7l0, t_48))

def l0 (t_15 : (List Int)) (s : Int × Int) (nx0 bk0 : Int × Int → Option (Int × Bool)) : Option (Int × Bool) :=
 unp2 s fun sum_7l0 one_8l0 =>
 letK (decide (one_8l0 ≤ 8)) fun (t_20 : Bool) =>
 iteK t_20
 (cntK (l1 t_15 one_8l0) (t_15.length) 0 (0) (e1 t_15 nx0 sum_7l0 one_8l0))
 (appK bk0 (sum_7l0, one_8l0))

def e0 (t_15 : (List Int)) (s : Int × Int) : Option (Int × Bool) :=
 unp2 s fun sum_7l0 one_8l0 =>
 letK ((t_15.length : Int) == 0) fun (t_52 : Bool) =>
 iteK t_52
 (some (0, false))
 (some (sum_7l0, true))

def P (fuel : Nat) (rates : (List PRate.Rate)) (x : PCover.Cover) : Option (Int × Bool) :=
 unCover x fun (x_id : Int) (x_day : Int) (x_zone : Int) (x_grams : Int) (x_paid : Int) (x_from_ : Int) (x_to_ : Int) (x_leave : Int) (x_arrive : Int) =>
 Option.bind (GsL8Good.P fuel rates) fun (t_4 : Bool) =>
 letK (!t_4) fun (t_5 : Bool) =>
 joinK (fun (t_10 : Bool) =>
 iteK t_10
 (some (0, false))
 (Option.bind (GsL12All.P fuel rates (PCover.Cover.mk x_id x_day x_zone x_grams x_paid x_from_ x_to_ x_leave x_arrive)) fun (t_15 : (List Int)) =>
 loopK (l0 t_15) fuel (0, 1) (e0 t_15))) fun jt_10 => iteK t_5 (appK jt_10 true) (Option.bind (GsL10One.P (PCover.Cover.mk x_id x_day x_zone x_grams x_paid x_from_ x_to_ x_leave x_arrive)) fun (t_8 : Bool) =>
 letK (!t_8) fun (t_9 : Bool) =>
 appK jt_10 t_9)

set_option maxRecDepth 100000 in
set_option maxHeartbeats 2000000 in
theorem C (fuel : Nat) (rates : (List PRate.Rate)) (x : PCover.Cover) (A0 : Option Addr) (c0 : Nat)  (w : World) (M0 : Hid (Cells w 5 A0 rates.length (PRate.flat rates))) (N0 : Hid (rates.length ≤ 9223372036854775807))  {r0 : Int} {r1 : Bool} (H : Hid (P fuel rates x = some (r0, r1))) :
  Calls Tryz.prog 18 #[.slice A0 rates.length c0, x.val] w (Gives (.tuple #[.int .i64 r0, .bool r1]) w) := by
 have HB := Lib.hid (Below.refl w.heap.size w); unfold P at H; obtain ⟨x_id, x_day, x_zone, x_grams, x_paid, x_from_, x_to_, x_leave, x_arrive⟩ := x; replace H := unCover_hid H; unfold PCover.Cover.val; have N0o := N0.out
 go_enter Tryz.func18, Tryz.ntmps18
 obtain ⟨n10, m10⟩ : ∃ x, w.alloc (.cells #[.int .i64 x_id, .int .i64 x_day, .int .i64 x_zone, .int .i64 x_grams, .int .i64 x_paid, .int .i64 x_from_, .int .i64 x_to_, .int .i64 x_leave, .int .i64 x_arrive] 26) = x := ⟨_, rfl⟩; have c11 : Below w.heap.size w n10 := (by rw [← m10]; exact (Below.refl _ _).alloc (Nat.le_refl _) _); have d11 := Lib.hid (Below.step HB.out c11); clear c11; have a10 : n10.cell? ⟨w.heap.size, 0, none⟩ = some (.int .i64 x_id) := (by rw [← m10]; exact box_new _ _ _ 0 _ rfl); have c10 : n10.cell? ⟨w.heap.size, 1, none⟩ = some (.int .i64 x_day) := (by rw [← m10]; exact box_new _ _ _ 1 _ rfl); have g10 : n10.cell? ⟨w.heap.size, 2, none⟩ = some (.int .i64 x_zone) := (by rw [← m10]; exact box_new _ _ _ 2 _ rfl); have f10 : n10.cell? ⟨w.heap.size, 3, none⟩ = some (.int .i64 x_grams) := (by rw [← m10]; exact box_new _ _ _ 3 _ rfl); have e10 : n10.cell? ⟨w.heap.size, 4, none⟩ = some (.int .i64 x_paid) := (by rw [← m10]; exact box_new _ _ _ 4 _ rfl); have i10 : n10.cell? ⟨w.heap.size, 5, none⟩ = some (.int .i64 x_from_) := (by rw [← m10]; exact box_new _ _ _ 5 _ rfl); have d10 : n10.cell? ⟨w.heap.size, 6, none⟩ = some (.int .i64 x_to_) := (by rw [← m10]; exact box_new _ _ _ 6 _ rfl); have b10 : n10.cell? ⟨w.heap.size, 7, none⟩ = some (.int .i64 x_leave) := (by rw [← m10]; exact box_new _ _ _ 7 _ rfl); have h10 : n10.cell? ⟨w.heap.size, 8, none⟩ = some (.int .i64 x_arrive) := (by rw [← m10]; exact box_new _ _ _ 8 _ rfl); replace H := bind_hid H; obtain ⟨t_4, qt_4, H⟩ := H; go_wp2_with fail; go_at_call 34; refine (GsL8Good.C fuel (rates) A0 c0 _   (Lib.hid (Cells.below M0.out d11.out)) N0 qt_4).mono ?_; rintro d12 wt_4 ⟨rfl, bt_4⟩; have x10 := Lib.hid (Below.step d11.out bt_4); replace a10 := cell_below bt_4 a10; replace c10 := cell_below bt_4 c10; replace g10 := cell_below bt_4 g10; replace f10 := cell_below bt_4 f10; replace e10 := cell_below bt_4 e10; replace i10 := cell_below bt_4 i10; replace d10 := cell_below bt_4 d10; replace b10 := cell_below bt_4 b10; replace h10 := cell_below bt_4 h10; clear bt_4
 cases t_4 with
 | false =>
  replace H := let_hid H; obtain ⟨t_5, ht_5, H⟩ := H; obtain rfl : t_5 = true := ht_5.symm; replace H := join_hid H; replace H := ite_t H; replace H := app_hid H; replace H := ite_t H; cases ret_hid H; go_wp2_with fail; go_ret2; exact ⟨rfl, x10.out⟩
 | true =>
  replace H := let_hid H; obtain ⟨t_5, ht_5, H⟩ := H; obtain rfl : t_5 = false := ht_5.symm; replace H := join_hid H; replace H := ite_f H; replace H := bind_hid H; obtain ⟨t_8, qt_8, H⟩ := H; go_wp2_with fail; go_at_call 35; refine (GsL10One.C ((PCover.Cover.mk x_id x_day x_zone x_grams x_paid x_from_ x_to_ x_leave x_arrive))  _    qt_8).mono ?_; rintro t11 wt_8 ⟨rfl, bt_8⟩; have q10 := Lib.hid (Below.step x10.out bt_8); replace a10 := cell_below bt_8 a10; replace c10 := cell_below bt_8 c10; replace g10 := cell_below bt_8 g10; replace f10 := cell_below bt_8 f10; replace e10 := cell_below bt_8 e10; replace i10 := cell_below bt_8 i10; replace d10 := cell_below bt_8 d10; replace b10 := cell_below bt_8 b10; replace h10 := cell_below bt_8 h10; clear bt_8
  cases t_8 with
  | false =>
   replace H := let_hid H; obtain ⟨t_9, ht_9, H⟩ := H; obtain rfl : t_9 = true := ht_9.symm; replace H := app_hid H; replace H := ite_t H; cases ret_hid H; go_wp2_with fail; go_ret2; exact ⟨rfl, q10.out⟩
  | true =>
   replace H := let_hid H; obtain ⟨t_9, ht_9, H⟩ := H; obtain rfl : t_9 = false := ht_9.symm; replace H := app_hid H; replace H := ite_f H; replace H := bind_hid H; obtain ⟨t_15, h11, H⟩ := H; go_wp2_with fail; go_at_call 40; refine (GsL12All.C fuel (rates) ((PCover.Cover.mk x_id x_day x_zone x_grams x_paid x_from_ x_to_ x_leave x_arrive)) A0 c0 _   (Lib.hid (Cells.below M0.out q10.out)) N0 h11).mono ?_; rintro i12 b12 ⟨e11, a11, rfl, w10, l10⟩; have v11 := Lib.hid (apart_callbox w10 a10); have j10 := Lib.hid (own_lower w10 q10.out.size); clear w10; have n11 := Lib.hid (Below.step q10.out l10); replace a10 := cell_below l10 a10; replace c10 := cell_below l10 c10; replace g10 := cell_below l10 g10; replace f10 := cell_below l10 f10; replace e10 := cell_below l10 e10; replace i10 := cell_below l10 i10; replace d10 := cell_below l10 d10; replace b10 := cell_below l10 b10; replace h10 := cell_below l10 h10; clear l10; go_wp2_with fail; go_loopg [7, 8] (fuel) (fun m_ v7_ v8_ wr => ∃ (p10 : Int) (o10 : Int), v7_ = .int .i64 p10 ∧ v8_ = .int .i64 o10 ∧ Hid (loopK (l0 t_15) m_ (p10, o10) (e0 t_15) = some (r0, r1)) ∧ Hid (Below w.heap.size w wr) ∧ wr.cell? ⟨w.heap.size, 0, none⟩ = some (.int .i64 x_id) ∧ wr.cell? ⟨w.heap.size, 1, none⟩ = some (.int .i64 x_day) ∧ wr.cell? ⟨w.heap.size, 2, none⟩ = some (.int .i64 x_zone) ∧ wr.cell? ⟨w.heap.size, 3, none⟩ = some (.int .i64 x_grams) ∧ wr.cell? ⟨w.heap.size, 4, none⟩ = some (.int .i64 x_paid) ∧ wr.cell? ⟨w.heap.size, 5, none⟩ = some (.int .i64 x_from_) ∧ wr.cell? ⟨w.heap.size, 6, none⟩ = some (.int .i64 x_to_) ∧ wr.cell? ⟨w.heap.size, 7, none⟩ = some (.int .i64 x_leave) ∧ wr.cell? ⟨w.heap.size, 8, none⟩ = some (.int .i64 x_arrive) ∧ Hid (wr.ownsRow w.heap.size 3 1 (.slice e11 t_15.length a11) t_15.length (HelpInt.iv t_15)))
   case atStart => exact ⟨_, _, rfl, rfl, H, n11, a10, c10, g10, f10, e10, i10, d10, b10, h10, j10⟩
   case round =>
    obtain ⟨p10, o10, rfl, rfl, H, t10, a10, c10, g10, f10, e10, i10, d10, b10, h10, j10⟩ := hrel; rename World => wr0
    cases gk with
    | zero => exact (loop_zero H).elim
    | succ m0 =>
     replace H := loop_succ H; unfold l0 at H; replace H := unp2_hid H; replace H := let_hid H; obtain ⟨t_20, g12, H⟩ := H
     cases t_20 with
     | false =>
      replace H := ite_f H; replace H := app_hid H; unfold e0 at H; replace H := unp2_hid H; replace H := let_hid H; obtain ⟨t_52, f11, H⟩ := H
      cases t_52 with
      | false =>
       have i11 : ¬ (t_15.length = 0) := (by have := ne_of_beq_false f11; omega); replace H := ite_f H; cases ret_hid H; go_wp2_with fail; go_ret2; exact ⟨rfl, t10.out⟩
      | true =>
       have o11 : Hid (t_15.length = 0) := Lib.hid (by have := eq_of_beq f11; omega); have i11 : (t_15.length == 0) = true := beq_iff_eq.2 o11.out; replace H := ite_t H; cases ret_hid H; go_wp2_with fail; go_ret2; exact ⟨rfl, t10.out⟩
     | true =>
      replace H := ite_t H; have hb_1 : t_15.length ≤ 9223372036854775807 := own_max j10.out; go_wp2_with fail; go_loopg [10, 9] (t_15.length) (fun m_ v10_ v9_ wr => ∃ (k1 : Nat) (v10 : Int), k1 + m_ = t_15.length ∧ v10_ = .int .i64 (k1 : Int) ∧ v9_ = .int .i64 v10 ∧ Hid (cntK (l1 t_15 o10) m_ k1 (v10) (e1 t_15 (fun s' => loopK (l0 t_15) m0 s' (e0 t_15)) p10 o10) = some (r0, r1)) ∧ Hid (Below w.heap.size w wr) ∧ wr.cell? ⟨w.heap.size, 0, none⟩ = some (.int .i64 x_id) ∧ wr.cell? ⟨w.heap.size, 1, none⟩ = some (.int .i64 x_day) ∧ wr.cell? ⟨w.heap.size, 2, none⟩ = some (.int .i64 x_zone) ∧ wr.cell? ⟨w.heap.size, 3, none⟩ = some (.int .i64 x_grams) ∧ wr.cell? ⟨w.heap.size, 4, none⟩ = some (.int .i64 x_paid) ∧ wr.cell? ⟨w.heap.size, 5, none⟩ = some (.int .i64 x_from_) ∧ wr.cell? ⟨w.heap.size, 6, none⟩ = some (.int .i64 x_to_) ∧ wr.cell? ⟨w.heap.size, 7, none⟩ = some (.int .i64 x_leave) ∧ wr.cell? ⟨w.heap.size, 8, none⟩ = some (.int .i64 x_arrive) ∧ Hid (wr.ownsRow w.heap.size 3 1 (.slice e11 t_15.length a11) t_15.length (HelpInt.iv t_15)))
      case atStart => exact ⟨0, _, by omega, rfl, rfl, H, t10, a10, c10, g10, f10, e10, i10, d10, b10, h10, j10⟩
      case round =>
       obtain ⟨k1, v10, hkm1, rfl, rfl, H, r10, a10, c10, g10, f10, e10, i10, d10, b10, h10, j10⟩ := hrel; rename World => wr1
       cases gk with
       | zero =>
        obtain rfl : k1 = t_15.length := (by omega); have hc1 : decide (((t_15.length : Nat) : Int) < ((t_15.length : Nat) : Int)) = false := (by simp); replace H := cnt_zero H; unfold e1 at H; replace H := let_hid H; obtain ⟨_, rfl, H⟩ := H; replace H := let_hid H; obtain ⟨t_42, c12, H⟩ := H
        cases t_42 with
        | false =>
         replace H := ite_f H; replace H := let_hid H; obtain ⟨t_48, k11, H⟩ := H; replace H := app_hid H; go_wp2_with fail
         go_roundg m0
         case measure => omega
         case rel => exact ⟨_, _, rfl, rfl, H, r10, a10, c10, g10, f10, e10, i10, d10, b10, h10, j10⟩
        | true =>
         replace H := ite_t H; replace H := let_hid H; obtain ⟨t_45, j12, H⟩ := H; replace H := let_hid H; obtain ⟨t_48, k11, H⟩ := H; replace H := app_hid H; go_wp2_with fail
         go_roundg m0
         case measure => omega
         case rel => exact ⟨_, _, rfl, rfl, H, r10, a10, c10, g10, f10, e10, i10, d10, b10, h10, j10⟩
       | succ m1 =>
        have hlt1 : k1 < t_15.length := (by omega); have hc1 : decide ((k1 : Int) < ((t_15.length : Nat) : Int)) = true := (by simp; omega); replace H := cnt_succ H; unfold l1 at H; replace H := let_hid H; obtain ⟨_, rfl, H⟩ := H; replace H := idx_hid H; obtain ⟨l11, m11, q11, k12, g11, H⟩ := H; obtain rfl : k1 = l11 := (by omega); clear q11; obtain ⟨y11, p11⟩ := own_some j10.out (by omega); subst p11; obtain ⟨s11, f12, x11, y10, b11, s10⟩ := HelpInt.Ints.at_ (own_cells j10.out) (k := k1) (by omega); obtain rfl := Option.some.inj (g11.out.symm.trans b11); simp only [Option.some.injEq, Addr.mk.injEq] at y10; obtain ⟨rfl, rfl, _⟩ := y10; clear b11; simp only [Nat.zero_add] at s10; have e12 : (0 : Int) ≤ (k1 : Int) := (by omega); have r11 : (k1 : Int) < ((t_15.length : Nat) : Int) := (by omega); have a12 : ((k1 : Int)).toNat = k1 := (by omega); replace H := bind_hid H; obtain ⟨t_32, j11, H⟩ := H; go_wp2_with fail; go_at_call 49; refine (GsL12Has.C (m11) (o10)  _    j11).mono ?_; rintro w11 z11 ⟨rfl, k10⟩; have z10 := Lib.hid (Below.step r10.out k10); replace a10 := cell_below k10 a10; replace c10 := cell_below k10 c10; replace g10 := cell_below k10 g10; replace f10 := cell_below k10 f10; replace e10 := cell_below k10 e10; replace i10 := cell_below k10 i10; replace d10 := cell_below k10 d10; replace b10 := cell_below k10 b10; replace h10 := cell_below k10 h10; replace s10 := cell_below k10 s10; replace j10 := Lib.hid (own_below j10.out k10); clear k10
        cases t_32 with
        | false =>
         replace H := ite_f H; replace H := app_hid H; go_wp2_with fail
         go_roundg m1
         case measure => omega
         case rel => exact ⟨k1 + 1, _, by omega, by go_num, rfl, H, z10, a10, c10, g10, f10, e10, i10, d10, b10, h10, j10⟩
        | true =>
         replace H := ite_t H; replace H := let_hid H; obtain ⟨t_34, h12, H⟩ := H; replace H := app_hid H; go_wp2_with fail
         go_roundg m1
         case measure => omega
         case rel => exact ⟨k1 + 1, _, by omega, by go_num, rfl, H, z10, a10, c10, g10, f10, e10, i10, d10, b10, h10, j10⟩
end Go.Proofs.YtihibckijdfidaaGreat.GsNeededChanges

