/- Texts on which the proofs of several laws stand, one behind the other (11 of 24). No condition of their own. -/
import Derived.Test.YtihibckijdfidaaChecked
import Derived.Test.YtihibckijdfidaaX12P1
import Derived.Test.YtihibckijdfidaaX12P2
import Derived.Test.YtihibckijdfidaaX12P3
import Derived.Test.YtihibckijdfidaaX12P9
import Derived.WalkKit
import Derived.WalkSpells
import Derived.WalkLawsBesides
import Derived.BigQuiet
import Derived.OwnWalk
import Derived.Deep.LoopGhost
import Derived.Deep.QuietTactic
import Derived.IntWalk
import Derived.Lib.QuietBelow
import Derived.Test.YtihibckijdfidaaX12P10
import Derived.Test.YtihibckijdfidaaX12P6
import Derived.Test.YtihibckijdfidaaX12P4
import Derived.ScopeJumps
import Derived.Deep.Slices
import Derived.Deep.Fields
import Derived.ChangeSame
import Derived.Lib.LaidU8
set_option linter.unusedVariables false
set_option linter.unusedSimpArgs false
namespace Go.Proofs.Ytihibckijdfidaa.GsMakeCover
open Go.RowKit
open Go.Proofs.Ytihibckijdfidaa.Rowed Go.Proofs.Ytihibckijdfidaa.Turn Go.Proofs.Ytihibckijdfidaa.Aid Go.Proofs.Ytihibckijdfidaa.GoP Go.Proofs.Ytihibckijdfidaa.GoM

def P (fuel : Nat) (rates : (List PRate.Rate)) (x : PCover.Cover) (change : Int) : Option (PCover.Cover × Bool) :=
 unCover x fun (x_id : Int) (x_day : Int) (x_zone : Int) (x_grams : Int) (x_paid : Int) (x_from_ : Int) (x_to_ : Int) (x_leave : Int) (x_arrive : Int) =>
 Option.bind (GsL8Good.P fuel rates) fun (t_4 : Bool) =>
 letK (!t_4) fun (t_5 : Bool) =>
 joinK (fun (t_10 : Bool) =>
 joinK (fun (t_15 : Bool) =>
 iteK t_15
 (some ((PCover.Cover.mk 0 0 0 0 0 0 0 0 0), false))
 (bind2 (GsL12Make.P fuel rates (PCover.Cover.mk x_id x_day x_zone x_grams x_paid x_from_ x_to_ x_leave x_arrive) change) fun (t_22a : PCover.Cover) (t_22b : Bool) =>
 unCover t_22a fun (t_22a_id : Int) (t_22a_day : Int) (t_22a_zone : Int) (t_22a_grams : Int) (t_22a_paid : Int) (t_22a_from_ : Int) (t_22a_to_ : Int) (t_22a_leave : Int) (t_22a_arrive : Int) =>
 some ((PCover.Cover.mk t_22a_id t_22a_day t_22a_zone t_22a_grams t_22a_paid t_22a_from_ t_22a_to_ t_22a_leave t_22a_arrive), t_22b))) fun jt_15 => iteK t_10 (appK jt_15 true) (Option.bind (GsL1In.P change 0 15) fun (t_13 : Bool) =>
 letK (!t_13) fun (t_14 : Bool) =>
 appK jt_15 t_14)) fun jt_10 => iteK t_5 (appK jt_10 true) (Option.bind (GsL10One.P (PCover.Cover.mk x_id x_day x_zone x_grams x_paid x_from_ x_to_ x_leave x_arrive)) fun (t_8 : Bool) =>
 letK (!t_8) fun (t_9 : Bool) =>
 appK jt_10 t_9)

set_option maxRecDepth 100000 in
set_option maxHeartbeats 2000000 in
theorem C (fuel : Nat) (rates : (List PRate.Rate)) (x : PCover.Cover) (change : Int) (A0 : Option Addr) (c0 : Nat)  (w : World) (M0 : Hid (Cells w 5 A0 rates.length (PRate.flat rates))) (N0 : Hid (rates.length ≤ 9223372036854775807))  {r0 : PCover.Cover} {r1 : Bool} (H : Hid (P fuel rates x change = some (r0, r1))) :
  Calls Try.prog 21 #[.slice A0 rates.length c0, x.val, .int .i64 change] w (Gives (.tuple #[(PCover.Cover.val r0), .bool r1]) w) := by
 have HB := Lib.hid (Below.refl w.heap.size w); unfold P at H; obtain ⟨x_id, x_day, x_zone, x_grams, x_paid, x_from_, x_to_, x_leave, x_arrive⟩ := x; replace H := unCover_hid H; unfold PCover.Cover.val; have N0o := N0.out
 go_enter Try.func21, Try.ntmps21
 obtain ⟨a10, a11⟩ : ∃ x, w.alloc (.cells #[.int .i64 x_id, .int .i64 x_day, .int .i64 x_zone, .int .i64 x_grams, .int .i64 x_paid, .int .i64 x_from_, .int .i64 x_to_, .int .i64 x_leave, .int .i64 x_arrive] 30) = x := ⟨_, rfl⟩; have k12 : Below w.heap.size w a10 := (by rw [← a11]; exact (Below.refl _ _).alloc (Nat.le_refl _) _); have f12 := Lib.hid (Below.step HB.out k12); clear k12; have e12 : a10.cell? ⟨w.heap.size, 0, none⟩ = some (.int .i64 x_id) := (by rw [← a11]; exact box_new _ _ _ 0 _ rfl); have n12 : a10.cell? ⟨w.heap.size, 1, none⟩ = some (.int .i64 x_day) := (by rw [← a11]; exact box_new _ _ _ 1 _ rfl); have v12 : a10.cell? ⟨w.heap.size, 2, none⟩ = some (.int .i64 x_zone) := (by rw [← a11]; exact box_new _ _ _ 2 _ rfl); have y12 : a10.cell? ⟨w.heap.size, 3, none⟩ = some (.int .i64 x_grams) := (by rw [← a11]; exact box_new _ _ _ 3 _ rfl); have g12 : a10.cell? ⟨w.heap.size, 4, none⟩ = some (.int .i64 x_paid) := (by rw [← a11]; exact box_new _ _ _ 4 _ rfl); have w12 : a10.cell? ⟨w.heap.size, 5, none⟩ = some (.int .i64 x_from_) := (by rw [← a11]; exact box_new _ _ _ 5 _ rfl); have a13 : a10.cell? ⟨w.heap.size, 6, none⟩ = some (.int .i64 x_to_) := (by rw [← a11]; exact box_new _ _ _ 6 _ rfl); have t12 : a10.cell? ⟨w.heap.size, 7, none⟩ = some (.int .i64 x_leave) := (by rw [← a11]; exact box_new _ _ _ 7 _ rfl); have z12 : a10.cell? ⟨w.heap.size, 8, none⟩ = some (.int .i64 x_arrive) := (by rw [← a11]; exact box_new _ _ _ 8 _ rfl); obtain ⟨w10, v10⟩ : ∃ x, a10.alloc (.cells #[.int .i64 0, .int .i64 0, .int .i64 0, .int .i64 0, .int .i64 0, .int .i64 0, .int .i64 0, .int .i64 0, .int .i64 0] 30) = x := ⟨_, rfl⟩; have y10 : Below a10.heap.size a10 w10 := (by rw [← v10]; exact (Below.refl _ _).alloc (Nat.le_refl _) _); have b10 := Lib.hid (apart_box e12); have p12 := Lib.hid (Below.step f12.out y10); have m10 := cell_below y10 e12; have p10 := cell_below y10 n12; have o10 := cell_below y10 v12; have q10 := cell_below y10 y12; have n10 := cell_below y10 g12; have s10 := cell_below y10 w12; have j10 := cell_below y10 a13; have t10 := cell_below y10 t12; have l10 := cell_below y10 z12; clear y10; have b11 : w10.cell? ⟨a10.heap.size, 0, none⟩ = some (.int .i64 0) := (by rw [← v10]; exact box_new _ _ _ 0 _ rfl); have k11 : w10.cell? ⟨a10.heap.size, 1, none⟩ = some (.int .i64 0) := (by rw [← v10]; exact box_new _ _ _ 1 _ rfl); have j11 : w10.cell? ⟨a10.heap.size, 2, none⟩ = some (.int .i64 0) := (by rw [← v10]; exact box_new _ _ _ 2 _ rfl); have l11 : w10.cell? ⟨a10.heap.size, 3, none⟩ = some (.int .i64 0) := (by rw [← v10]; exact box_new _ _ _ 3 _ rfl); have i11 : w10.cell? ⟨a10.heap.size, 4, none⟩ = some (.int .i64 0) := (by rw [← v10]; exact box_new _ _ _ 4 _ rfl); have d11 : w10.cell? ⟨a10.heap.size, 5, none⟩ = some (.int .i64 0) := (by rw [← v10]; exact box_new _ _ _ 5 _ rfl); have f11 : w10.cell? ⟨a10.heap.size, 6, none⟩ = some (.int .i64 0) := (by rw [← v10]; exact box_new _ _ _ 6 _ rfl); have m11 : w10.cell? ⟨a10.heap.size, 7, none⟩ = some (.int .i64 0) := (by rw [← v10]; exact box_new _ _ _ 7 _ rfl); have h11 : w10.cell? ⟨a10.heap.size, 8, none⟩ = some (.int .i64 0) := (by rw [← v10]; exact box_new _ _ _ 8 _ rfl); have Ot_1 : Hid (w10.ownsRow w.heap.size 30 9 (.slice (some ⟨a10.heap.size, 0, none⟩) 1 1) 1 [.int .i64 0, .int .i64 0, .int .i64 0, .int .i64 0, .int .i64 0, .int .i64 0, .int .i64 0, .int .i64 0, .int .i64 0]) := Lib.hid (by rw [← v10]; exact own_laid (n := 1) f12.out.size rfl rfl (by unfold maxLen; omega)); replace H := bind_hid H; obtain ⟨t_4, qt_4, H⟩ := H; go_wp2_with fail; clear e12 n12 v12 y12 g12 w12 a13 t12 z12; go_at_call 80; refine (GsL8Good.C fuel (rates) A0 c0 _   (Lib.hid (Cells.below M0.out p12.out)) N0 qt_4).mono ?_; rintro h17 wt_4 ⟨rfl, bt_4⟩; have b12 := Lib.hid (Below.step p12.out bt_4); replace m10 := cell_below bt_4 m10; replace p10 := cell_below bt_4 p10
 replace o10 := cell_below bt_4 o10; replace q10 := cell_below bt_4 q10; replace n10 := cell_below bt_4 n10; replace s10 := cell_below bt_4 s10; replace j10 := cell_below bt_4 j10; replace t10 := cell_below bt_4 t10; replace l10 := cell_below bt_4 l10; replace b11 := cell_below bt_4 b11; replace k11 := cell_below bt_4 k11; replace j11 := cell_below bt_4 j11; replace l11 := cell_below bt_4 l11; replace i11 := cell_below bt_4 i11; replace d11 := cell_below bt_4 d11; replace f11 := cell_below bt_4 f11; replace m11 := cell_below bt_4 m11; replace h11 := cell_below bt_4 h11; replace Ot_1 := Lib.hid (own_below Ot_1.out bt_4); clear bt_4
 cases t_4 with
 | false =>
  replace H := let_hid H; obtain ⟨t_5, ht_5, H⟩ := H; obtain rfl : t_5 = true := ht_5.symm; replace H := join_hid H; replace H := ite_t H; replace H := app_hid H; replace H := join_hid H; replace H := ite_t H; replace H := app_hid H; replace H := ite_t H; obtain ⟨c10, n11⟩ : ∃ x, (((((((((wt_4).setCell ⟨a10.heap.size, 0, none⟩ (.int .i64 0)).setCell ⟨a10.heap.size, 1, none⟩ (.int .i64 0)).setCell ⟨a10.heap.size, 2, none⟩ (.int .i64 0)).setCell ⟨a10.heap.size, 3, none⟩ (.int .i64 0)).setCell ⟨a10.heap.size, 4, none⟩ (.int .i64 0)).setCell ⟨a10.heap.size, 5, none⟩ (.int .i64 0)).setCell ⟨a10.heap.size, 6, none⟩ (.int .i64 0)).setCell ⟨a10.heap.size, 7, none⟩ (.int .i64 0)).setCell ⟨a10.heap.size, 8, none⟩ (.int .i64 0) = x := ⟨_, rfl⟩; have r12 := Ot_1.out.frozenAt 0; have s12 := Ot_1.out.frozenAt 1; have i12 := Ot_1.out.frozenAt 2; have j12 := Ot_1.out.frozenAt 3; have c13 := Ot_1.out.frozenAt 4; have m12 := Ot_1.out.frozenAt 5; have h12 := Ot_1.out.frozenAt 6; have l12 := Ot_1.out.frozenAt 7; have q12 := Ot_1.out.frozenAt 8; have z10 := Lib.hid (own_stores [(0, .int .i64 0), (1, .int .i64 0), (2, .int .i64 0), (3, .int .i64 0), (4, .int .i64 0), (5, .int .i64 0), (6, .int .i64 0), (7, .int .i64 0), (8, .int .i64 0)] Ot_1.out); have e10 : Hid (c10.ownsRow w.heap.size 30 9 (.slice (some ⟨a10.heap.size, 0, none⟩) 1 1) 1 [.int .i64 0, .int .i64 0, .int .i64 0, .int .i64 0, .int .i64 0, .int .i64 0, .int .i64 0, .int .i64 0, .int .i64 0]) := Lib.hid (by rw [← n11]; exact z10.out.1); have d10 : Hid (wt_4.grownBy c10 (Value.slice (some ⟨a10.heap.size, 0, none⟩) 1 1).ownBlock) := Lib.hid (by rw [← n11]; exact z10.out.2); have y11 := Lib.hid (b12.out.grown d10.out b12.out.size (fun q hq => (Ot_1.out.lt q hq).1)); clear z10; have y17 := cell_other m10 d10.out b10.out; have d18 := cell_other p10 d10.out b10.out; have q16 := cell_other o10 d10.out b10.out; have c16 := cell_other q10 d10.out b10.out; have b17 := cell_other n10 d10.out b10.out; have c17 := cell_other s10 d10.out b10.out; have f17 := cell_other j10 d10.out b10.out; have v15 := cell_other t10 d10.out b10.out; have p16 := cell_other l10 d10.out b10.out; clear Ot_1 d10; have p14 : c10.cell? ⟨a10.heap.size, 0, none⟩ = some (.int .i64 0) := e10.out.cells rfl 0 _ rfl; have i15 : c10.cell? ⟨a10.heap.size, 1, none⟩ = some (.int .i64 0) := e10.out.cells rfl 1 _ rfl; have r14 : c10.cell? ⟨a10.heap.size, 2, none⟩ = some (.int .i64 0) := e10.out.cells rfl 2 _ rfl; have f13 : c10.cell? ⟨a10.heap.size, 3, none⟩ = some (.int .i64 0) := e10.out.cells rfl 3 _ rfl; have d15 : c10.cell? ⟨a10.heap.size, 4, none⟩ = some (.int .i64 0) := e10.out.cells rfl 4 _ rfl; have c15 : c10.cell? ⟨a10.heap.size, 5, none⟩ = some (.int .i64 0) := e10.out.cells rfl 5 _ rfl; have v13 : c10.cell? ⟨a10.heap.size, 6, none⟩ = some (.int .i64 0) := e10.out.cells rfl 6 _ rfl; have n13 : c10.cell? ⟨a10.heap.size, 7, none⟩ = some (.int .i64 0) := e10.out.cells rfl 7 _ rfl; have t14 : c10.cell? ⟨a10.heap.size, 8, none⟩ = some (.int .i64 0) := e10.out.cells rfl 8 _ rfl; have hR_ := ret_hid H; simp only [Prod.mk.injEq] at hR_; obtain ⟨rfl, rfl⟩ := hR_; go_wp2_with fail
  (try simp only [Exit.inBlock, Exit.then])
  refine bodyPost_ret (v := .tuple #[.agg #[.int .i64 0, .int .i64 0, .int .i64 0, .int .i64 0, .int .i64 0, .int .i64 0, .int .i64 0, .int .i64 0, .int .i64 0], .bool false]) ?hr_ ?hd_ ?_
  case hd_ => rfl
  case hr_ => simp [results, Try.results21, p14, i15, r14, f13, d15, c15, v13, n13, t14, go_sem]
  exact ⟨rfl, y11.out⟩
 | true =>
  replace H := let_hid H; obtain ⟨t_5, ht_5, H⟩ := H; obtain rfl : t_5 = false := ht_5.symm; replace H := join_hid H; replace H := ite_f H; replace H := bind_hid H; obtain ⟨t_8, qt_8, H⟩ := H; go_wp2_with fail; go_at_call 81; refine (GsL10One.C ((PCover.Cover.mk x_id x_day x_zone x_grams x_paid x_from_ x_to_ x_leave x_arrive))  _    qt_8).mono ?_; rintro l16 wt_8 ⟨rfl, bt_8⟩; have c12 := Lib.hid (Below.step b12.out bt_8); replace m10 := cell_below bt_8 m10; replace p10 := cell_below bt_8 p10; replace o10 := cell_below bt_8 o10; replace q10 := cell_below bt_8 q10; replace n10 := cell_below bt_8 n10; replace s10 := cell_below bt_8 s10; replace j10 := cell_below bt_8 j10; replace t10 := cell_below bt_8 t10; replace l10 := cell_below bt_8 l10; replace b11 := cell_below bt_8 b11; replace k11 := cell_below bt_8 k11; replace j11 := cell_below bt_8 j11; replace l11 := cell_below bt_8 l11; replace i11 := cell_below bt_8 i11; replace d11 := cell_below bt_8 d11; replace f11 := cell_below bt_8 f11; replace m11 := cell_below bt_8 m11; replace h11 := cell_below bt_8 h11; replace Ot_1 := Lib.hid (own_below Ot_1.out bt_8); clear bt_8
  cases t_8 with
  | false =>
   replace H := let_hid H; obtain ⟨t_9, ht_9, H⟩ := H; obtain rfl : t_9 = true := ht_9.symm; replace H := app_hid H; replace H := join_hid H; replace H := ite_t H; replace H := app_hid H; replace H := ite_t H; obtain ⟨c10, n11⟩ : ∃ x, (((((((((wt_8).setCell ⟨a10.heap.size, 0, none⟩ (.int .i64 0)).setCell ⟨a10.heap.size, 1, none⟩ (.int .i64 0)).setCell ⟨a10.heap.size, 2, none⟩ (.int .i64 0)).setCell ⟨a10.heap.size, 3, none⟩ (.int .i64 0)).setCell ⟨a10.heap.size, 4, none⟩ (.int .i64 0)).setCell ⟨a10.heap.size, 5, none⟩ (.int .i64 0)).setCell ⟨a10.heap.size, 6, none⟩ (.int .i64 0)).setCell ⟨a10.heap.size, 7, none⟩ (.int .i64 0)).setCell ⟨a10.heap.size, 8, none⟩ (.int .i64 0) = x := ⟨_, rfl⟩; have r12 := Ot_1.out.frozenAt 0; have s12 := Ot_1.out.frozenAt 1; have i12 := Ot_1.out.frozenAt 2; have j12 := Ot_1.out.frozenAt 3; have c13 := Ot_1.out.frozenAt 4; have m12 := Ot_1.out.frozenAt 5; have h12 := Ot_1.out.frozenAt 6; have l12 := Ot_1.out.frozenAt 7; have q12 := Ot_1.out.frozenAt 8; have z10 := Lib.hid (own_stores [(0, .int .i64 0), (1, .int .i64 0), (2, .int .i64 0), (3, .int .i64 0), (4, .int .i64 0), (5, .int .i64 0), (6, .int .i64 0), (7, .int .i64 0), (8, .int .i64 0)] Ot_1.out); have e10 : Hid (c10.ownsRow w.heap.size 30 9 (.slice (some ⟨a10.heap.size, 0, none⟩) 1 1) 1 [.int .i64 0, .int .i64 0, .int .i64 0, .int .i64 0, .int .i64 0, .int .i64 0, .int .i64 0, .int .i64 0, .int .i64 0]) := Lib.hid (by rw [← n11]; exact z10.out.1); have d10 : Hid (wt_8.grownBy c10 (Value.slice (some ⟨a10.heap.size, 0, none⟩) 1 1).ownBlock) := Lib.hid (by rw [← n11]; exact z10.out.2); have y11 := Lib.hid (c12.out.grown d10.out c12.out.size (fun q hq => (Ot_1.out.lt q hq).1)); clear z10; have v16 := cell_other m10 d10.out b10.out; have p17 := cell_other p10 d10.out b10.out; have k16 := cell_other o10 d10.out b10.out; have w16 := cell_other q10 d10.out b10.out; have z17 := cell_other n10 d10.out b10.out; have j17 := cell_other s10 d10.out b10.out; have q17 := cell_other j10 d10.out b10.out; have x15 := cell_other t10 d10.out b10.out; have m17 := cell_other l10 d10.out b10.out; clear Ot_1 d10; have k15 : c10.cell? ⟨a10.heap.size, 0, none⟩ = some (.int .i64 0) := e10.out.cells rfl 0 _ rfl; have f14 : c10.cell? ⟨a10.heap.size, 1, none⟩ = some (.int .i64 0) := e10.out.cells rfl 1 _ rfl; have m14 : c10.cell? ⟨a10.heap.size, 2, none⟩ = some (.int .i64 0) := e10.out.cells rfl 2 _ rfl; have g15 : c10.cell? ⟨a10.heap.size, 3, none⟩ = some (.int .i64 0) := e10.out.cells rfl 3 _ rfl; have k14 : c10.cell? ⟨a10.heap.size, 4, none⟩ = some (.int .i64 0) := e10.out.cells rfl 4 _ rfl; have b15 : c10.cell? ⟨a10.heap.size, 5, none⟩ = some (.int .i64 0) := e10.out.cells rfl 5 _ rfl; have g14 : c10.cell? ⟨a10.heap.size, 6, none⟩ = some (.int .i64 0) := e10.out.cells rfl 6 _ rfl; have m15 : c10.cell? ⟨a10.heap.size, 7, none⟩ = some (.int .i64 0) := e10.out.cells rfl 7 _ rfl; have l13 : c10.cell? ⟨a10.heap.size, 8, none⟩ = some (.int .i64 0) := e10.out.cells rfl 8 _ rfl; have hR_ := ret_hid H; simp only [Prod.mk.injEq] at hR_; obtain ⟨rfl, rfl⟩ := hR_; go_wp2_with fail
   (try simp only [Exit.inBlock, Exit.then])
   refine bodyPost_ret (v := .tuple #[.agg #[.int .i64 0, .int .i64 0, .int .i64 0, .int .i64 0, .int .i64 0, .int .i64 0, .int .i64 0, .int .i64 0, .int .i64 0], .bool false]) ?hr_ ?hd_ ?_
   case hd_ => rfl
   case hr_ => simp [results, Try.results21, k15, f14, m14, g15, k14, b15, g14, m15, l13, go_sem]
   exact ⟨rfl, y11.out⟩
  | true =>
   replace H := let_hid H; obtain ⟨t_9, ht_9, H⟩ := H; obtain rfl : t_9 = false := ht_9.symm; replace H := app_hid H; replace H := join_hid H; replace H := ite_f H; replace H := bind_hid H; obtain ⟨t_13, z14, H⟩ := H; go_wp2_with fail; go_at_call 87; refine (GsL1In.C (change) (0) (15)  _    z14).mono ?_; rintro s15 b13 ⟨rfl, h10⟩; have z11 := Lib.hid (Below.step c12.out h10); replace m10 := cell_below h10 m10; replace p10 := cell_below h10 p10; replace o10 := cell_below h10 o10; replace q10 := cell_below h10 q10; replace n10 := cell_below h10 n10; replace s10 := cell_below h10 s10; replace j10 := cell_below h10 j10; replace t10 := cell_below h10 t10; replace l10 := cell_below h10 l10; replace b11 := cell_below h10 b11; replace k11 := cell_below h10 k11; replace j11 := cell_below h10 j11; replace l11 := cell_below h10 l11; replace i11 := cell_below h10 i11; replace d11 := cell_below h10 d11; replace f11 := cell_below h10 f11; replace m11 := cell_below h10 m11; replace h11 := cell_below h10 h11; replace Ot_1 := Lib.hid (own_below Ot_1.out h10); clear h10
   cases t_13 with
   | false =>
    replace H := let_hid H; obtain ⟨t_14, a12, H⟩ := H; obtain rfl : t_14 = true := a12.symm; replace H := app_hid H; replace H := ite_t H; obtain ⟨c10, n11⟩ : ∃ x, (((((((((b13).setCell ⟨a10.heap.size, 0, none⟩ (.int .i64 0)).setCell ⟨a10.heap.size, 1, none⟩ (.int .i64 0)).setCell ⟨a10.heap.size, 2, none⟩ (.int .i64 0)).setCell ⟨a10.heap.size, 3, none⟩ (.int .i64 0)).setCell ⟨a10.heap.size, 4, none⟩ (.int .i64 0)).setCell ⟨a10.heap.size, 5, none⟩ (.int .i64 0)).setCell ⟨a10.heap.size, 6, none⟩ (.int .i64 0)).setCell ⟨a10.heap.size, 7, none⟩ (.int .i64 0)).setCell ⟨a10.heap.size, 8, none⟩ (.int .i64 0) = x := ⟨_, rfl⟩; have r12 := Ot_1.out.frozenAt 0; have s12 := Ot_1.out.frozenAt 1; have i12 := Ot_1.out.frozenAt 2; have j12 := Ot_1.out.frozenAt 3; have c13 := Ot_1.out.frozenAt 4; have m12 := Ot_1.out.frozenAt 5; have h12 := Ot_1.out.frozenAt 6; have l12 := Ot_1.out.frozenAt 7; have q12 := Ot_1.out.frozenAt 8; have z10 := Lib.hid (own_stores [(0, .int .i64 0), (1, .int .i64 0), (2, .int .i64 0), (3, .int .i64 0), (4, .int .i64 0), (5, .int .i64 0), (6, .int .i64 0), (7, .int .i64 0), (8, .int .i64 0)] Ot_1.out); have e10 : Hid (c10.ownsRow w.heap.size 30 9 (.slice (some ⟨a10.heap.size, 0, none⟩) 1 1) 1 [.int .i64 0, .int .i64 0, .int .i64 0, .int .i64 0, .int .i64 0, .int .i64 0, .int .i64 0, .int .i64 0, .int .i64 0]) := Lib.hid (by rw [← n11]; exact z10.out.1); have d10 : Hid (b13.grownBy c10 (Value.slice (some ⟨a10.heap.size, 0, none⟩) 1 1).ownBlock) := Lib.hid (by rw [← n11]; exact z10.out.2); have y11 := Lib.hid (z11.out.grown d10.out z11.out.size (fun q hq => (Ot_1.out.lt q hq).1)); clear z10; have a18 := cell_other m10 d10.out b10.out; have k17 := cell_other p10 d10.out b10.out; have n15 := cell_other o10 d10.out b10.out; have l17 := cell_other q10 d10.out b10.out; have t15 := cell_other n10 d10.out b10.out; have x16 := cell_other s10 d10.out b10.out; have r17 := cell_other j10 d10.out b10.out; have t17 := cell_other t10 d10.out b10.out; have g17 := cell_other l10 d10.out b10.out; clear Ot_1 d10; have e15 : c10.cell? ⟨a10.heap.size, 0, none⟩ = some (.int .i64 0) := e10.out.cells rfl 0 _ rfl; have q13 : c10.cell? ⟨a10.heap.size, 1, none⟩ = some (.int .i64 0) := e10.out.cells rfl 1 _ rfl; have l14 : c10.cell? ⟨a10.heap.size, 2, none⟩ = some (.int .i64 0) := e10.out.cells rfl 2 _ rfl; have j14 : c10.cell? ⟨a10.heap.size, 3, none⟩ = some (.int .i64 0) := e10.out.cells rfl 3 _ rfl; have h14 : c10.cell? ⟨a10.heap.size, 4, none⟩ = some (.int .i64 0) := e10.out.cells rfl 4 _ rfl; have f15 : c10.cell? ⟨a10.heap.size, 5, none⟩ = some (.int .i64 0) := e10.out.cells rfl 5 _ rfl; have g13 : c10.cell? ⟨a10.heap.size, 6, none⟩ = some (.int .i64 0) := e10.out.cells rfl 6 _ rfl; have o14 : c10.cell? ⟨a10.heap.size, 7, none⟩ = some (.int .i64 0) := e10.out.cells rfl 7 _ rfl; have q14 : c10.cell? ⟨a10.heap.size, 8, none⟩ = some (.int .i64 0) := e10.out.cells rfl 8 _ rfl; have hR_ := ret_hid H; simp only [Prod.mk.injEq] at hR_; obtain ⟨rfl, rfl⟩ := hR_; go_wp2_with fail
    (try simp only [Exit.inBlock, Exit.then])
    refine bodyPost_ret (v := .tuple #[.agg #[.int .i64 0, .int .i64 0, .int .i64 0, .int .i64 0, .int .i64 0, .int .i64 0, .int .i64 0, .int .i64 0, .int .i64 0], .bool false]) ?hr_ ?hd_ ?_
    case hd_ => rfl
    case hr_ => simp [results, Try.results21, e15, q13, l14, j14, h14, f15, g13, o14, q14, go_sem]
    exact ⟨rfl, y11.out⟩
   | true =>
    replace H := let_hid H; obtain ⟨t_14, a12, H⟩ := H; obtain rfl : t_14 = false := a12.symm; replace H := app_hid H; replace H := ite_f H; replace H := bind2_hid H; obtain ⟨i13, j15, a15, H⟩ := H; obtain ⟨v11, o11, s11, p11, q11, r11, t11, x11, w11⟩ := i13; replace H := unCover_hid H; go_wp2_with fail; go_at_call 88; refine (GsL12Make.C fuel (rates) ((PCover.Cover.mk x_id x_day x_zone x_grams x_paid x_from_ x_to_ x_leave x_arrive)) (change) A0 c0 _   (Lib.hid (Cells.below M0.out z11.out)) N0 a15).mono ?_; rintro n16 k10 ⟨rfl, g10⟩; unfold PCover.Cover.val; have j13 := Lib.hid (Below.step z11.out g10); replace m10 := cell_below g10 m10; replace p10 := cell_below g10 p10; replace o10 := cell_below g10 o10; replace q10 := cell_below g10 q10; replace n10 := cell_below g10 n10; replace s10 := cell_below g10 s10; replace j10 := cell_below g10 j10; replace t10 := cell_below g10 t10; replace l10 := cell_below g10 l10; replace b11 := cell_below g10 b11; replace k11 := cell_below g10 k11; replace j11 := cell_below g10 j11; replace l11 := cell_below g10 l11; replace i11 := cell_below g10 i11; replace d11 := cell_below g10 d11; replace f11 := cell_below g10 f11; replace m11 := cell_below g10 m11; replace h11 := cell_below g10 h11; replace Ot_1 := Lib.hid (own_below Ot_1.out g10); clear g10; obtain ⟨r10, c11⟩ : ∃ x, k10.alloc (.cells #[.int .i64 v11, .int .i64 o11, .int .i64 s11, .int .i64 p11, .int .i64 q11, .int .i64 r11, .int .i64 t11, .int .i64 x11, .int .i64 w11] 30) = x := ⟨_, rfl⟩; have f10 : Below k10.heap.size k10 r10 := (by rw [← c11]; exact (Below.refl _ _).alloc (Nat.le_refl _) _); have g11 := Lib.hid (apart_box b11); have x12 := Lib.hid (Below.step j13.out f10); have w14 := cell_below f10 m10; have e14 := cell_below f10 p10; have a14 := cell_below f10 o10; have r13 := cell_below f10 q10; have h15 := cell_below f10 n10; have x14 := cell_below f10 s10; have y14 := cell_below f10 j10; have m13 := cell_below f10 t10; have o13 := cell_below f10 l10; have j16 := cell_below f10 b11; have o15 := cell_below f10 k11; have y15 := cell_below f10 j11; have d16 := cell_below f10 l11; have p15 := cell_below f10 i11; have r16 := cell_below f10 d11; have i16 := cell_below f10 f11; have r15 := cell_below f10 m11; have w17 := cell_below f10 h11; replace Ot_1 := Lib.hid (own_below Ot_1.out f10); clear f10; have s13 : r10.cell? ⟨k10.heap.size, 0, none⟩ = some (.int .i64 v11) := (by rw [← c11]; exact box_new _ _ _ 0 _ rfl); have v14 : r10.cell? ⟨k10.heap.size, 1, none⟩ = some (.int .i64 o11) := (by rw [← c11]; exact box_new _ _ _ 1 _ rfl); have n14 : r10.cell? ⟨k10.heap.size, 2, none⟩ = some (.int .i64 s11) := (by rw [← c11]; exact box_new _ _ _ 2 _ rfl); have z13 : r10.cell? ⟨k10.heap.size, 3, none⟩ = some (.int .i64 p11) := (by rw [← c11]; exact box_new _ _ _ 3 _ rfl); have t13 : r10.cell? ⟨k10.heap.size, 4, none⟩ = some (.int .i64 q11) := (by rw [← c11]; exact box_new _ _ _ 4 _ rfl); have d13 : r10.cell? ⟨k10.heap.size, 5, none⟩ = some (.int .i64 r11) := (by rw [← c11]; exact box_new _ _ _ 5 _ rfl); have h13 : r10.cell? ⟨k10.heap.size, 6, none⟩ = some (.int .i64 t11) := (by rw [← c11]; exact box_new _ _ _ 6 _ rfl); have l15 : r10.cell? ⟨k10.heap.size, 7, none⟩ = some (.int .i64 x11) := (by rw [← c11]; exact box_new _ _ _ 7 _ rfl); have i14 : r10.cell? ⟨k10.heap.size, 8, none⟩ = some (.int .i64 w11) := (by rw [← c11]; exact box_new _ _ _ 8 _ rfl); obtain ⟨x10, o12⟩ : ∃ x, (((((((((r10).setCell ⟨a10.heap.size, 0, none⟩ (.int .i64 v11)).setCell ⟨a10.heap.size, 1, none⟩ (.int .i64 o11)).setCell ⟨a10.heap.size, 2, none⟩ (.int .i64 s11)).setCell ⟨a10.heap.size, 3, none⟩ (.int .i64 p11)).setCell ⟨a10.heap.size, 4, none⟩ (.int .i64 q11)).setCell ⟨a10.heap.size, 5, none⟩ (.int .i64 r11)).setCell ⟨a10.heap.size, 6, none⟩ (.int .i64 t11)).setCell ⟨a10.heap.size, 7, none⟩ (.int .i64 x11)).setCell ⟨a10.heap.size, 8, none⟩ (.int .i64 w11) = x := ⟨_, rfl⟩
    have h16 := Ot_1.out.frozenAt 0; have g16 := Ot_1.out.frozenAt 1; have m16 := Ot_1.out.frozenAt 2; have o17 := Ot_1.out.frozenAt 3; have z15 := Ot_1.out.frozenAt 4; have e18 := Ot_1.out.frozenAt 5; have s17 := Ot_1.out.frozenAt 6; have v17 := Ot_1.out.frozenAt 7; have t16 := Ot_1.out.frozenAt 8; have d12 := Lib.hid (own_stores [(0, .int .i64 v11), (1, .int .i64 o11), (2, .int .i64 s11), (3, .int .i64 p11), (4, .int .i64 q11), (5, .int .i64 r11), (6, .int .i64 t11), (7, .int .i64 x11), (8, .int .i64 w11)] Ot_1.out); have e11 : Hid (x10.ownsRow w.heap.size 30 9 (.slice (some ⟨a10.heap.size, 0, none⟩) 1 1) 1 [.int .i64 v11, .int .i64 o11, .int .i64 s11, .int .i64 p11, .int .i64 q11, .int .i64 r11, .int .i64 t11, .int .i64 x11, .int .i64 w11]) := Lib.hid (by rw [← o12]; exact d12.out.1); have i10 : Hid (r10.grownBy x10 (Value.slice (some ⟨a10.heap.size, 0, none⟩) 1 1).ownBlock) := Lib.hid (by rw [← o12]; exact d12.out.2); have k13 := Lib.hid (x12.out.grown i10.out x12.out.size (fun q hq => (Ot_1.out.lt q hq).1)); clear d12; have e16 := cell_other w14 i10.out b10.out; have w15 := cell_other e14 i10.out b10.out; have a17 := cell_other a14 i10.out b10.out; have e17 := cell_other r13 i10.out b10.out; have a16 := cell_other h15 i10.out b10.out; have i17 := cell_other x14 i10.out b10.out; have z16 := cell_other y14 i10.out b10.out; have b18 := cell_other m13 i10.out b10.out; have f16 := cell_other o13 i10.out b10.out; have q15 := cell_other s13 i10.out (Apart.symm g11.out); have b16 := cell_other v14 i10.out (Apart.symm g11.out); have s16 := cell_other n14 i10.out (Apart.symm g11.out); have n17 := cell_other z13 i10.out (Apart.symm g11.out); have o16 := cell_other t13 i10.out (Apart.symm g11.out); have d17 := cell_other d13 i10.out (Apart.symm g11.out); have y16 := cell_other h13 i10.out (Apart.symm g11.out); have c18 := cell_other l15 i10.out (Apart.symm g11.out); have x17 := cell_other i14 i10.out (Apart.symm g11.out); clear Ot_1 i10; have w13 : x10.cell? ⟨a10.heap.size, 0, none⟩ = some (.int .i64 v11) := e11.out.cells rfl 0 _ rfl; have e13 : x10.cell? ⟨a10.heap.size, 1, none⟩ = some (.int .i64 o11) := e11.out.cells rfl 1 _ rfl; have x13 : x10.cell? ⟨a10.heap.size, 2, none⟩ = some (.int .i64 s11) := e11.out.cells rfl 2 _ rfl; have y13 : x10.cell? ⟨a10.heap.size, 3, none⟩ = some (.int .i64 p11) := e11.out.cells rfl 3 _ rfl; have d14 : x10.cell? ⟨a10.heap.size, 4, none⟩ = some (.int .i64 q11) := e11.out.cells rfl 4 _ rfl; have p13 : x10.cell? ⟨a10.heap.size, 5, none⟩ = some (.int .i64 r11) := e11.out.cells rfl 5 _ rfl; have b14 : x10.cell? ⟨a10.heap.size, 6, none⟩ = some (.int .i64 t11) := e11.out.cells rfl 6 _ rfl; have s14 : x10.cell? ⟨a10.heap.size, 7, none⟩ = some (.int .i64 x11) := e11.out.cells rfl 7 _ rfl; have c14 : x10.cell? ⟨a10.heap.size, 8, none⟩ = some (.int .i64 w11) := e11.out.cells rfl 8 _ rfl; have hR_ := ret_hid H; simp only [Prod.mk.injEq] at hR_; obtain ⟨rfl, rfl⟩ := hR_; go_wp2_with fail
    (try simp only [Exit.inBlock, Exit.then])
    refine bodyPost_ret (v := .tuple #[.agg #[.int .i64 v11, .int .i64 o11, .int .i64 s11, .int .i64 p11, .int .i64 q11, .int .i64 r11, .int .i64 t11, .int .i64 x11, .int .i64 w11], .bool j15]) ?hr_ ?hd_ ?_
    case hd_ => rfl
    case hr_ => simp [results, Try.results21, w13, e13, x13, y13, d14, p13, b14, s14, c14, go_sem]
    exact ⟨rfl, k13.out⟩
end Go.Proofs.Ytihibckijdfidaa.GsMakeCover

namespace Go.Proofs.Ytihibckijdfidaa.Q12All
open Go.RowKit
open Go.Proofs.Ytihibckijdfidaa.GoP Go.Proofs.Ytihibckijdfidaa.PlainStamp Go.Proofs.Ytihibckijdfidaa.QBase Go.Proofs.Ytihibckijdfidaa.Q12Made Go.Proofs.Ytihibckijdfidaa.Q12Cover Go.Proofs.Ytihibckijdfidaa.Q12Bits Go.Proofs.Ytihibckijdfidaa.Q8For Go.Proofs.Ytihibckijdfidaa.Q8List Go.Proofs.Ytihibckijdfidaa.Q8Rate Go.Proofs.Ytihibckijdfidaa.QLoop Go.Proofs.Ytihibckijdfidaa.PRate Go.Proofs.Ytihibckijdfidaa.PCover

theorem gather_up {R : Type} {n : Nat} {p : Nat → Bool} {f : Nat → List Int → (List Int → Option R) → (List Int → Option R) → Option R} {fin : List Int → Option R}
    (step : ∀ k nx (s : List Int), k < n → s.length ≤ k → f k s nx fin = if p k = true then nx (s ++ [(k : Int)]) else nx s) : cntK f n 0 [] fin = fin (((List.range n).filter p).map fun k : Nat => (k : Int)) := by
  have key : ∀ m k, k + m = n → cntK f m k (((List.range k).filter p).map fun k : Nat => (k : Int)) fin = fin (((List.range n).filter p).map fun k : Nat => (k : Int)) := by
    intro m
    induction m with
    | zero => intro k hk; obtain rfl : k = n := by omega
              rfl
    | succ m ih =>
      intro k hk
      show f k _ _ fin = _
      have hlen : (((List.range k).filter p).map fun k : Nat => (k : Int)).length ≤ k := by
        rw [List.length_map]
        have := List.length_filter_le p (List.range k)
        rw [List.length_range] at this
        exact this
      rw [step k _ _ (by omega) hlen, ← ih (k + 1) (by omega), List.range_succ, List.filter_append, List.map_append]
      cases hp : p k <;> simp [List.filter, hp]
  exact key n 0 (by omega)
/-- all changes that make a cover -/
def possV (rs : List Rate) (x : Cover) : List Int := ((List.range 16).filter fun k : Nat => (madeV rs x (k : Int)).isSome).map fun k : Nat => (k : Int)
theorem mem_poss {rs : List Rate} {x : Cover} {c : Int} : c ∈ possV rs x ↔ (0 ≤ c ∧ c ≤ 15) ∧ (madeV rs x c).isSome = true := by
  unfold possV
  rw [List.mem_map]
  constructor
  · rintro ⟨k, hk, rfl⟩
    rw [List.mem_filter, List.mem_range] at hk
    exact ⟨by omega, hk.2⟩
  · rintro ⟨h1, h2⟩
    refine ⟨c.toNat, ?_, by omega⟩
    rw [List.mem_filter, List.mem_range, Int.toNat_of_nonneg h1.1]
    exact ⟨by omega, h2⟩
theorem poss_range {rs : List Rate} {x : Cover} : ∀ c ∈ possV rs x, 0 ≤ c ∧ c ≤ 15 := fun c h => (mem_poss.1 h).1
theorem poss_len (rs : List Rate) (x : Cover) : (possV rs x).length ≤ 16 := by
  unfold possV
  rw [List.length_map]
  exact Nat.le_trans (List.length_filter_le _ _) (by simp)
theorem poss_impl {rs : List Rate} (h : okRs rs = true) (x : Cover) : GiLoPossibleChanges.P rs x = some (possV rs x) := by
  have hm := fun k (hk : k < 16) => made_impl h x (c := ((k : Nat) : Int)) (by omega)
  unfold possV
  obtain ⟨a, b, e, f, g, i, j, k, l⟩ := x
  simp only [GiLoPossibleChanges.P, unCover]
  rw [gather_up (p := fun n_ : Nat => (madeV rs ⟨a, b, e, f, g, i, j, k, l⟩ (n_ : Int)).isSome)]
  · rfl
  · intro q nx s hq hs
    simp only [GiLoPossibleChanges.l0, hm q hq, letK]
    cases hv : madeV rs ⟨a, b, e, f, g, i, j, k, l⟩ (q : Int) with
    | none => simp [resC, bind2, unCover, iteK_if, appK]
    | some y =>
      simp only [resC, bind2, unCover, iteK_if, appK, Option.isSome_some, if_true]
      rw [guardK_pos (by omega)]
theorem poss_spec {fuel : Nat} {rs : List Rate} (h : okRs rs = true) (x : Cover) (hf : 100 < fuel) : GsL12All.P fuel rs x = some (possV rs x) := by
  have hm := fun k (hk : k < 16) => make_spec (fuel := fuel) h x (c := ((k : Nat) : Int)) (by omega) hf
  unfold possV
  obtain ⟨a, b, e, f, g, i, j, k, l⟩ := x
  simp only [GsL12All.P, unCover]
  rw [gather_up (p := fun n_ : Nat => (madeV rs ⟨a, b, e, f, g, i, j, k, l⟩ (n_ : Int)).isSome)]
  · rfl
  · intro q nx s hq hs
    simp only [GsL12All.l0, hm q hq, letK]
    cases hv : madeV rs ⟨a, b, e, f, g, i, j, k, l⟩ (q : Int) with
    | none => simp [resC, bind2, unCover, iteK_if, appK]
    | some y =>
      simp only [resC, bind2, unCover, iteK_if, appK, Option.isSome_some, if_true]
      rw [guardK_pos (by omega)]
theorem can_eq (rs : List Rate) (x : Cover) (hr : rs.length ≤ 9223372036854775807) : GiCanExplain.P rs x = some (okRs rs && okC x) := by
  have e1 := isCover_eq x
  obtain ⟨a, b, e, f, g, i, j, k, l⟩ := x
  simp only [GiCanExplain.P, unCover, areRates_eq rs hr, e1, Option.bind_some, joinK, appK, iteK_if]
  cases okRs rs <;> simp
def rateC (rs : List Rate) (x : Cover) : Int := rateV rs x.day x.zone x.grams
def explRes (rs : List Rate) (x : Cover) : Bool × Bool := if (okRs rs && okC x) = true then (x.paid == rateC rs x, true) else (false, false)
theorem expl_impl (rs : List Rate) (x : Cover) (hr : rs.length ≤ 9223372036854775807) : GiIsExplained.P rs x = some (explRes rs x) := by
  have e1 := can_eq rs x hr
  obtain ⟨a, b, e, f, g, i, j, k, l⟩ := x
  simp only [GiIsExplained.P, GiRateOfCover.P, unCover, e1, rateOn_eq, Option.bind_some, letK, iteK_if, not_ite, explRes, rateC]
  cases (okRs rs && okC ⟨a, b, e, f, g, i, j, k, l⟩) <;> rfl
theorem expl_spec {fuel : Nat} (rs : List Rate) (x : Cover) (hr : rs.length ≤ 9223372036854775807) (hf : 100 < fuel) : GsIsExplained.P fuel rs x = some (explRes rs x) := by
  have e1 := l10One_eq x
  obtain ⟨a, b, e, f, g, i, j, k, l⟩ := x
  simp only [GsIsExplained.P, GsL12Explained.P, unCover, l8Good_eq rs hr (show 17 < fuel by omega), e1, l8For_eq, Option.bind_some, letK, joinK, appK, iteK_if, explRes, rateC]
  cases okRs rs with
  | false => simp
  | true => cases okC ⟨a, b, e, f, g, i, j, k, l⟩ <;> simp [Bool.beq_comm, eq_comm, BEq.comm]
def makeRes (rs : List Rate) (x : Cover) (c : Int) : Cover × Bool := if (okRs rs && okC x && inB c 0 15) = true then resC (madeV rs x c) else resC none
theorem isChange_eq (c : Int) : GiIsChange.P c = some (inB c 0 15) := by simp only [GiIsChange.P, within_eq, Option.bind_some]
theorem makeCover_impl (rs : List Rate) (x : Cover) (c : Int) (hr : rs.length ≤ 9223372036854775807) : GiMakeCover.P rs x c = some (makeRes rs x c) := by
  have e1 := can_eq rs x hr
  have e2 := fun h1 h2 => made_impl (rs := rs) h1 x (c := c) h2
  obtain ⟨a, b, e, f, g, i, j, k, l⟩ := x
  simp only [GiMakeCover.P, unCover, e1, isChange_eq, Option.bind_some, letK, joinK, appK, iteK_if, makeRes]
  cases h1 : okRs rs with
  | false => simp [resC]
  | true =>
    cases h2 : okC ⟨a, b, e, f, g, i, j, k, l⟩ with
    | false => simp [resC]
    | true =>
      cases h3 : inB c 0 15 with
      | false => simp [resC]
      | true => simp [e2 h1 (inB_of h3), bind2]
theorem makeCover_spec {fuel : Nat} (rs : List Rate) (x : Cover) (c : Int) (hr : rs.length ≤ 9223372036854775807) (hf : 100 < fuel) : GsMakeCover.P fuel rs x c = some (makeRes rs x c) := by
  have e1 := l10One_eq x
  have e2 := fun h1 h2 => make_spec (rs := rs) h1 x (c := c) h2 hf
  obtain ⟨a, b, e, f, g, i, j, k, l⟩ := x
  simp only [GsMakeCover.P, unCover, l8Good_eq rs hr (show 17 < fuel by omega), e1, l1In_eq, Option.bind_some, letK, joinK, appK, iteK_if, makeRes]
  cases h1 : okRs rs with
  | false => simp [resC]
  | true =>
    cases h2 : okC ⟨a, b, e, f, g, i, j, k, l⟩ with
    | false => simp [resC]
    | true =>
      cases h3 : inB c 0 15 with
      | false => simp [resC]
      | true => simp [e2 h1 (inB_of h3), bind2]
def possRes (rs : List Rate) (x : Cover) : List Int × Bool := if (okRs rs && okC x) = true then (possV rs x, true) else ([], false)
theorem possible_impl (rs : List Rate) (x : Cover) (hr : rs.length ≤ 9223372036854775807) : GiPossibleChanges.P rs x = some (possRes rs x) := by
  have e1 := can_eq rs x hr
  have e2 := fun h1 => poss_impl (rs := rs) h1 x
  obtain ⟨a, b, e, f, g, i, j, k, l⟩ := x
  simp only [GiPossibleChanges.P, unCover, e1, Option.bind_some, letK, iteK_if, not_ite, possRes]
  cases h1 : okRs rs with
  | false => simp
  | true =>
    cases h2 : okC ⟨a, b, e, f, g, i, j, k, l⟩ with
    | false => simp
    | true => simp [e2 h1]
theorem possible_spec {fuel : Nat} (rs : List Rate) (x : Cover) (hr : rs.length ≤ 9223372036854775807) (hf : 100 < fuel) : GsPossibleChanges.P fuel rs x = some (possRes rs x) := by
  have e1 := l10One_eq x
  have e2 := fun h1 => poss_spec (rs := rs) h1 x hf
  obtain ⟨a, b, e, f, g, i, j, k, l⟩ := x
  simp only [GsPossibleChanges.P, unCover, l8Good_eq rs hr (show 17 < fuel by omega), e1, Option.bind_some, letK, joinK, appK, iteK_if, possRes]
  cases h1 : okRs rs with
  | false => simp
  | true =>
    cases h2 : okC ⟨a, b, e, f, g, i, j, k, l⟩ with
    | false => simp
    | true => simp [e2 h1]
end Go.Proofs.Ytihibckijdfidaa.Q12All

namespace Go.Proofs.Ytihibckijdfidaa.PIntA4
set_option maxRecDepth 100000

structure IntA4 where
  x0 : Int
  x1 : Int
  x2 : Int
  x3 : Int
def IntA4.cells (s : IntA4) : List Value := [.int .i64 s.x0, .int .i64 s.x1, .int .i64 s.x2, .int .i64 s.x3]
def IntA4.val (s : IntA4) : Value := .agg #[.int .i64 s.x0, .int .i64 s.x1, .int .i64 s.x2, .int .i64 s.x3]
def IntA4.list (s : IntA4) : List Int := [s.x0, s.x1, s.x2, s.x3]
/-- the array with v at j -/
def IntA4.put (s : IntA4) (j v : Int) : IntA4 := if j = 0 then ⟨v, s.x1, s.x2, s.x3⟩ else if j = 1 then ⟨s.x0, v, s.x2, s.x3⟩ else if j = 2 then ⟨s.x0, s.x1, v, s.x3⟩ else ⟨s.x0, s.x1, s.x2, v⟩
theorem cell_at {w : World} {b q : Nat} {x0 x1 x2 x3 y : Int} {n : Nat} (h0 : w.cell? ⟨b, q, none⟩ = some (.int .i64 x0)) (h1 : w.cell? ⟨b, q + 1, none⟩ = some (.int .i64 x1)) (h2 : w.cell? ⟨b, q + 2, none⟩ = some (.int .i64 x2)) (h3 : w.cell? ⟨b, q + 3, none⟩ = some (.int .i64 x3)) (g : [x0, x1, x2, x3][n]? = some y) : w.cell? ⟨b, q + n, none⟩ = some (.int .i64 y) := by
  rcases n with _ | _ | _ | _ | n
  · obtain rfl := Option.some.inj g; exact h0
  · obtain rfl := Option.some.inj g; exact h1
  · obtain rfl := Option.some.inj g; exact h2
  · obtain rfl := Option.some.inj g; exact h3
  · simp at g
/-- the cells of a list of arrays, one after the other -/
def flat (l : List IntA4) : List Value := l.flatMap IntA4.cells
theorem flat_nil : flat [] = [] := rfl
theorem flat_cons (s : IntA4) (l : List IntA4) : flat (s :: l) = s.cells ++ flat l := by simp [flat]
theorem flat_snoc (l : List IntA4) (s : IntA4) : flat (l ++ [s]) = flat l ++ s.cells := by simp [flat]
theorem flat_len (l : List IntA4) : (flat l).length = l.length * 4 := by
  induction l with
  | nil => rfl
  | cons s l ih => rw [flat_cons, List.length_append, ih]; simp [IntA4.cells]; omega
theorem flat_at : ∀ (l : List IntA4) (k : Nat) (s : IntA4), l[k]? = some s → ∀ j, j < 4 → (flat l)[k * 4 + j]? = s.cells[j]?
  | [], k, s, h, _, _ => by simp at h
  | r :: l, 0, s, h, j, hj => by
    obtain rfl : r = s := by simpa using h
    rw [flat_cons, List.getElem?_append_left (by simp [IntA4.cells]; omega)]; simp
  | r :: l, k + 1, s, h, j, hj => by
    rw [flat_cons, List.getElem?_append_right (by simp [IntA4.cells]; omega), show (k + 1) * 4 + j - r.cells.length = k * 4 + j by simp [IntA4.cells]; omega]
    exact flat_at l k s (by simpa using h) j hj
end Go.Proofs.Ytihibckijdfidaa.PIntA4

namespace Go.Proofs.Ytihibckijdfidaa.GoP
open Go.RowKit
def unIntA4 {ρ : Type} (s : Go.Proofs.Ytihibckijdfidaa.PIntA4.IntA4) (f : Int → Int → Int → Int → Option ρ) : Option ρ := f s.x0 s.x1 s.x2 s.x3
theorem unIntA4_hid {ρ : Type} {x0 : Int} {x1 : Int} {x2 : Int} {x3 : Int} {f : Int → Int → Int → Int → Option ρ} {r : ρ} (H : Hid (unIntA4 ⟨x0, x1, x2, x3⟩ f = some r)) : Hid (f x0 x1 x2 x3 = some r) := H
end Go.Proofs.Ytihibckijdfidaa.GoP

namespace Go.Proofs.Ytihibckijdfidaa.GlEqCover
open Go.RowKit
open Go.Proofs.Ytihibckijdfidaa.Rowed Go.Proofs.Ytihibckijdfidaa.Turn Go.Proofs.Ytihibckijdfidaa.Aid Go.Proofs.Ytihibckijdfidaa.GoP Go.Proofs.Ytihibckijdfidaa.GoM

def P (a : PCover.Cover) (b : PCover.Cover) : Option (Bool) :=
 unCover a fun (a_id : Int) (a_day : Int) (a_zone : Int) (a_grams : Int) (a_paid : Int) (a_from_ : Int) (a_to_ : Int) (a_leave : Int) (a_arrive : Int) =>
 unCover b fun (b_id : Int) (b_day : Int) (b_zone : Int) (b_grams : Int) (b_paid : Int) (b_from_ : Int) (b_to_ : Int) (b_leave : Int) (b_arrive : Int) =>
 letK (a_id != b_id) fun (t_7 : Bool) =>
 iteK t_7
 (some false)
 (letK (a_day != b_day) fun (t_13 : Bool) =>
 iteK t_13
 (some false)
 (letK (a_zone != b_zone) fun (t_19 : Bool) =>
 iteK t_19
 (some false)
 (letK (a_grams != b_grams) fun (t_25 : Bool) =>
 iteK t_25
 (some false)
 (letK (a_paid != b_paid) fun (t_31 : Bool) =>
 iteK t_31
 (some false)
 (letK (a_from_ != b_from_) fun (t_37 : Bool) =>
 iteK t_37
 (some false)
 (letK (a_to_ != b_to_) fun (t_43 : Bool) =>
 iteK t_43
 (some false)
 (letK (a_leave != b_leave) fun (t_49 : Bool) =>
 iteK t_49
 (some false)
 (letK (a_arrive != b_arrive) fun (t_55 : Bool) =>
 iteK t_55
 (some false)
 (some true)))))))))

set_option maxRecDepth 100000 in
set_option maxHeartbeats 2000000 in
theorem C (a : PCover.Cover) (b : PCover.Cover)   (w : World)   {r : Bool} (H : Hid (P a b = some r)) :
  Calls Try.prog 23 #[a.val, b.val] w (Gives (.bool r) w) := by
 have HB := Lib.hid (Below.refl w.heap.size w); unfold P at H; obtain ⟨a_id, a_day, a_zone, a_grams, a_paid, a_from_, a_to_, a_leave, a_arrive⟩ := a; replace H := unCover_hid H; obtain ⟨b_id, b_day, b_zone, b_grams, b_paid, b_from_, b_to_, b_leave, b_arrive⟩ := b; replace H := unCover_hid H; unfold PCover.Cover.val
 go_enter Try.func23, Try.ntmps23
 obtain ⟨a10, f10⟩ : ∃ x, w.alloc (.cells #[.int .i64 a_id, .int .i64 a_day, .int .i64 a_zone, .int .i64 a_grams, .int .i64 a_paid, .int .i64 a_from_, .int .i64 a_to_, .int .i64 a_leave, .int .i64 a_arrive] 30) = x := ⟨_, rfl⟩; have g10 : Below w.heap.size w a10 := (by rw [← f10]; exact (Below.refl _ _).alloc (Nat.le_refl _) _); have h10 := Lib.hid (Below.step HB.out g10); clear g10; have o10 : a10.cell? ⟨w.heap.size, 0, none⟩ = some (.int .i64 a_id) := (by rw [← f10]; exact box_new _ _ _ 0 _ rfl); have q10 : a10.cell? ⟨w.heap.size, 1, none⟩ = some (.int .i64 a_day) := (by rw [← f10]; exact box_new _ _ _ 1 _ rfl); have n10 : a10.cell? ⟨w.heap.size, 2, none⟩ = some (.int .i64 a_zone) := (by rw [← f10]; exact box_new _ _ _ 2 _ rfl); have j10 : a10.cell? ⟨w.heap.size, 3, none⟩ = some (.int .i64 a_grams) := (by rw [← f10]; exact box_new _ _ _ 3 _ rfl); have l10 : a10.cell? ⟨w.heap.size, 4, none⟩ = some (.int .i64 a_paid) := (by rw [← f10]; exact box_new _ _ _ 4 _ rfl); have m10 : a10.cell? ⟨w.heap.size, 5, none⟩ = some (.int .i64 a_from_) := (by rw [← f10]; exact box_new _ _ _ 5 _ rfl); have p10 : a10.cell? ⟨w.heap.size, 6, none⟩ = some (.int .i64 a_to_) := (by rw [← f10]; exact box_new _ _ _ 6 _ rfl); have i10 : a10.cell? ⟨w.heap.size, 7, none⟩ = some (.int .i64 a_leave) := (by rw [← f10]; exact box_new _ _ _ 7 _ rfl); have k10 : a10.cell? ⟨w.heap.size, 8, none⟩ = some (.int .i64 a_arrive) := (by rw [← f10]; exact box_new _ _ _ 8 _ rfl); obtain ⟨c10, d10⟩ : ∃ x, a10.alloc (.cells #[.int .i64 b_id, .int .i64 b_day, .int .i64 b_zone, .int .i64 b_grams, .int .i64 b_paid, .int .i64 b_from_, .int .i64 b_to_, .int .i64 b_leave, .int .i64 b_arrive] 30) = x := ⟨_, rfl⟩; have b10 : Below a10.heap.size a10 c10 := (by rw [← d10]; exact (Below.refl _ _).alloc (Nat.le_refl _) _); have e10 := Lib.hid (Below.step h10.out b10); have w10 := cell_below b10 o10; have d11 := cell_below b10 q10; have t10 := cell_below b10 n10; have h11 := cell_below b10 j10; have b11 := cell_below b10 l10; have j11 := cell_below b10 m10; have l11 := cell_below b10 p10; have a11 := cell_below b10 i10; have r10 := cell_below b10 k10; clear b10; have o11 : c10.cell? ⟨a10.heap.size, 0, none⟩ = some (.int .i64 b_id) := (by rw [← d10]; exact box_new _ _ _ 0 _ rfl); have i11 : c10.cell? ⟨a10.heap.size, 1, none⟩ = some (.int .i64 b_day) := (by rw [← d10]; exact box_new _ _ _ 1 _ rfl); have f11 : c10.cell? ⟨a10.heap.size, 2, none⟩ = some (.int .i64 b_zone) := (by rw [← d10]; exact box_new _ _ _ 2 _ rfl); have z10 : c10.cell? ⟨a10.heap.size, 3, none⟩ = some (.int .i64 b_grams) := (by rw [← d10]; exact box_new _ _ _ 3 _ rfl); have y10 : c10.cell? ⟨a10.heap.size, 4, none⟩ = some (.int .i64 b_paid) := (by rw [← d10]; exact box_new _ _ _ 4 _ rfl); have x10 : c10.cell? ⟨a10.heap.size, 5, none⟩ = some (.int .i64 b_from_) := (by rw [← d10]; exact box_new _ _ _ 5 _ rfl); have e11 : c10.cell? ⟨a10.heap.size, 6, none⟩ = some (.int .i64 b_to_) := (by rw [← d10]; exact box_new _ _ _ 6 _ rfl); have p11 : c10.cell? ⟨a10.heap.size, 7, none⟩ = some (.int .i64 b_leave) := (by rw [← d10]; exact box_new _ _ _ 7 _ rfl); have k11 : c10.cell? ⟨a10.heap.size, 8, none⟩ = some (.int .i64 b_arrive) := (by rw [← d10]; exact box_new _ _ _ 8 _ rfl); replace H := let_hid H; obtain ⟨t_7, ht_7, H⟩ := H
 cases t_7 with
 | false =>
  replace H := ite_f H; replace H := let_hid H; obtain ⟨t_13, m11, H⟩ := H
  cases t_13 with
  | false =>
   replace H := ite_f H; replace H := let_hid H; obtain ⟨t_19, n11, H⟩ := H
   cases t_19 with
   | false =>
    replace H := ite_f H; replace H := let_hid H; obtain ⟨t_25, g11, H⟩ := H
    cases t_25 with
    | false =>
     replace H := ite_f H; replace H := let_hid H; obtain ⟨t_31, c11, H⟩ := H
     cases t_31 with
     | false =>
      replace H := ite_f H; replace H := let_hid H; obtain ⟨t_37, r11, H⟩ := H
      cases t_37 with
      | false =>
       replace H := ite_f H; replace H := let_hid H; obtain ⟨t_43, v10, H⟩ := H
       cases t_43 with
       | false =>
        replace H := ite_f H; replace H := let_hid H; obtain ⟨t_49, s10, H⟩ := H
        cases t_49 with
        | false =>
         replace H := ite_f H; replace H := let_hid H; obtain ⟨t_55, q11, H⟩ := H
         cases t_55 with
         | false =>
          replace H := ite_f H; obtain rfl := ret_hid H; go_wp2_with fail; go_ret; exact ⟨rfl, e10.out⟩
         | true =>
          replace H := ite_t H; obtain rfl := ret_hid H; go_wp2_with fail; go_ret; exact ⟨rfl, e10.out⟩
        | true =>
         replace H := ite_t H; obtain rfl := ret_hid H; go_wp2_with fail; go_ret; exact ⟨rfl, e10.out⟩
       | true =>
        replace H := ite_t H; obtain rfl := ret_hid H; go_wp2_with fail; go_ret; exact ⟨rfl, e10.out⟩
      | true =>
       replace H := ite_t H; obtain rfl := ret_hid H; go_wp2_with fail; go_ret; exact ⟨rfl, e10.out⟩
     | true =>
      replace H := ite_t H; obtain rfl := ret_hid H; go_wp2_with fail; go_ret; exact ⟨rfl, e10.out⟩
    | true =>
     replace H := ite_t H; obtain rfl := ret_hid H; go_wp2_with fail; go_ret; exact ⟨rfl, e10.out⟩
   | true =>
    replace H := ite_t H; obtain rfl := ret_hid H; go_wp2_with fail; go_ret; exact ⟨rfl, e10.out⟩
  | true =>
   replace H := ite_t H; obtain rfl := ret_hid H; go_wp2_with fail; go_ret; exact ⟨rfl, e10.out⟩
 | true =>
  replace H := ite_t H; obtain rfl := ret_hid H; go_wp2_with fail; go_ret; exact ⟨rfl, e10.out⟩
end Go.Proofs.Ytihibckijdfidaa.GlEqCover

namespace Go.Proofs.Ytihibckijdfidaa.GoA
open Go.RowKit
open Go.Proofs.Ytihibckijdfidaa.HelpInt

/-- the number at a place of an array's list -/
def nth (l : List Int) (j : Nat) : Int := l.getD j 0
theorem row_at {w : World} {b T n c g : Nat} {l : List Int} (h : w.ownsRow b T 1 (.slice (some ⟨g, 0, none⟩) n c) n (iv l)) (hl : l.length = n) (j : Nat) (hj : j < n) : w.cell? ⟨g, j, none⟩ = some (.int .i64 (nth l j)) := by
  unfold nth
  have hc := h.cells rfl j (.int .i64 (l.getD j 0)) (by
    rw [iv_at, List.getD_eq_getElem?_getD, List.getElem?_eq_getElem (show j < l.length by omega)]; rfl)
  rw [add_none] at hc
  simpa using hc

/-- what holds at a jump to a label: a relation that bears a number, which each pass from the label to the next jump lowers -/
def Jumps (P : Program) (rest : Code) (l : Nat) (Q : Exit → Act → World → Prop) (a : Act) (w : World) (m : Nat) : Prop :=
  ∃ J : Nat → Act → World → Prop, J m a w ∧ ∀ m a w, J m a w → rest.wp P (Exit.jump l (Handed J m) Q) a w

/-- the frame with the slots that are marked put to new values -/
def over (u : Nat → Value) : List Bool → Nat → List Value → List Value
  | true :: bs, i, _ :: l => u i :: over u bs (i + 1) l
  | false :: bs, i, v :: l => v :: over u bs (i + 1) l
  | [], _, l => l
  | _ :: _, _, [] => []
end Go.Proofs.Ytihibckijdfidaa.GoA

namespace Go.Proofs.Ytihibckijdfidaa.GlToIntA4
open Go.RowKit
open Go.Proofs.Ytihibckijdfidaa.Rowed Go.Proofs.Ytihibckijdfidaa.Turn Go.Proofs.Ytihibckijdfidaa.Aid Go.Proofs.Ytihibckijdfidaa.GoP Go.Proofs.Ytihibckijdfidaa.GoM

def l0 (a_x0 : Int) (a_x1 : Int) (a_x2 : Int) (a_x3 : Int) (k0 : Nat) (s : (List Int)) (nx0 bk0 : (List Int) → Option (PIntA4.IntA4)) : Option (PIntA4.IntA4) :=
 letK s fun out_3l0 =>
 Option.bind (idx [a_x0, a_x1, a_x2, a_x3] (k0 : Int)) fun (yt_8 : Int) =>
 Option.bind (idx out_3l0 (k0 : Int)) fun (yt_10 : Int) =>
 letK (out_3l0.set k0 yt_8) fun (l11_11 : (List Int)) =>
 appK nx0 (l11_11)

def e0  (s : (List Int)) : Option (PIntA4.IntA4) :=
 letK s fun out_3l0 =>
 some (PIntA4.IntA4.mk (GoA.nth out_3l0 0) (GoA.nth out_3l0 1) (GoA.nth out_3l0 2) (GoA.nth out_3l0 3))

def P (a : PIntA4.IntA4) : Option (PIntA4.IntA4) :=
 unIntA4 a fun (a_x0 : Int) (a_x1 : Int) (a_x2 : Int) (a_x3 : Int) =>
 letK ([0, 0, 0, 0]) fun (vout_2 : (List Int)) =>
 cntK (l0 a_x0 a_x1 a_x2 a_x3) (4) 0 (vout_2) (e0 )

set_option maxRecDepth 100000 in
set_option maxHeartbeats 2000000 in
theorem C (a : PIntA4.IntA4)   (w : World)   {r : PIntA4.IntA4} (H : Hid (P a = some r)) :
  Calls Try.prog 33 #[a.val] w (Gives ((PIntA4.IntA4.val r)) w) := by
 have HB := Lib.hid (Below.refl w.heap.size w); unfold P at H; obtain ⟨a_x0, a_x1, a_x2, a_x3⟩ := a; replace H := unIntA4_hid H; unfold PIntA4.IntA4.val
 go_enter Try.func33, Try.ntmps33
 obtain ⟨b10, q10⟩ : ∃ x, w.alloc (.cells #[.int .i64 a_x0, .int .i64 a_x1, .int .i64 a_x2, .int .i64 a_x3] 46) = x := ⟨_, rfl⟩; have f12 : Below w.heap.size w b10 := (by rw [← q10]; exact (Below.refl _ _).alloc (Nat.le_refl _) _); have l11 := Lib.hid (Below.step HB.out f12); clear f12; have e11 : b10.cell? ⟨w.heap.size, 0, none⟩ = some (.int .i64 a_x0) := (by rw [← q10]; exact box_new _ _ _ 0 _ rfl); have e12 : b10.cell? ⟨w.heap.size, 1, none⟩ = some (.int .i64 a_x1) := (by rw [← q10]; exact box_new _ _ _ 1 _ rfl); have z11 : b10.cell? ⟨w.heap.size, 2, none⟩ = some (.int .i64 a_x2) := (by rw [← q10]; exact box_new _ _ _ 2 _ rfl); have v11 : b10.cell? ⟨w.heap.size, 3, none⟩ = some (.int .i64 a_x3) := (by rw [← q10]; exact box_new _ _ _ 3 _ rfl); obtain ⟨c10, j10⟩ : ∃ x, b10.alloc (.cells #[.int .i64 0, .int .i64 0, .int .i64 0, .int .i64 0] 46) = x := ⟨_, rfl⟩; have o10 : Below b10.heap.size b10 c10 := (by rw [← j10]; exact (Below.refl _ _).alloc (Nat.le_refl _) _); have b11 := Lib.hid (apart_box e11); have p11 := Lib.hid (Below.step l11.out o10); have h11 := cell_below o10 e11; have c12 := cell_below o10 e12; have o11 := cell_below o10 z11; have a12 := cell_below o10 v11; clear o10; have c11 : c10.cell? ⟨b10.heap.size, 0, none⟩ = some (.int .i64 0) := (by rw [← j10]; exact box_new _ _ _ 0 _ rfl); have r11 : c10.cell? ⟨b10.heap.size, 1, none⟩ = some (.int .i64 0) := (by rw [← j10]; exact box_new _ _ _ 1 _ rfl); have m11 : c10.cell? ⟨b10.heap.size, 2, none⟩ = some (.int .i64 0) := (by rw [← j10]; exact box_new _ _ _ 2 _ rfl); have g12 : c10.cell? ⟨b10.heap.size, 3, none⟩ = some (.int .i64 0) := (by rw [← j10]; exact box_new _ _ _ 3 _ rfl); have Ot_1 : Hid (c10.ownsRow w.heap.size 46 4 (.slice (some ⟨b10.heap.size, 0, none⟩) 1 1) 1 [.int .i64 0, .int .i64 0, .int .i64 0, .int .i64 0]) := Lib.hid (by rw [← j10]; exact own_laid (n := 1) l11.out.size rfl rfl (by unfold maxLen; omega)); replace H := let_hid H; obtain ⟨t11, a11, H⟩ := H; obtain ⟨q11, d12⟩ : ∃ x, c10.alloc (.cells #[.int .i64 0, .int .i64 0, .int .i64 0, .int .i64 0] 46) = x := ⟨_, rfl⟩; have d10 : Below c10.heap.size c10 q11 := (by rw [← d12]; exact (Below.refl _ _).alloc (Nat.le_refl _) _); have s11 := p11.out.size; have d11 : t11.length = 4 := (by rw [← a11]; rfl)
 have w12 : Hid (q11.ownsRow w.heap.size 46 1 (.slice (some ⟨c10.heap.size, 0, none⟩) 4 4) 4 (HelpInt.iv t11)) := by
  rw [← d12, ← a11]; have e_ : ([.int .i64 0, .int .i64 0, .int .i64 0, .int .i64 0] : List Value) = HelpInt.iv [0, 0, 0, 0] := rfl; exact Lib.hid (own_laid (n := 4) s11 e_ rfl (by unfold maxLen; omega))
 clear s11; have i14 := Lib.hid a11; clear a11; replace d11 := Lib.hid d11; have q12 := Lib.hid (apart_box h11); have b13 := Lib.hid (apart_box c11); have s12 := Lib.hid (Below.step p11.out d10); have n10 := cell_below d10 h11; have p10 := cell_below d10 c12; have m10 := cell_below d10 o11; have k10 := cell_below d10 a12; have t10 := cell_below d10 c11; have x10 := cell_below d10 r11; have y10 := cell_below d10 m11; have w10 := cell_below d10 g12; replace Ot_1 := Lib.hid (own_below Ot_1.out d10); clear d10; go_wp2_with fail; clear e11 e12 z11 v11 h11 c12 o11 a12 c11 r11 m11 g12; go_wp2_with fail; go_loopg [4] (4) (fun m_ v4_ wr => ∃ (k0 : Nat) (a10 : (List Int)), k0 + m_ = 4 ∧ v4_ = .int .i64 (k0 : Int) ∧ Hid (cntK (l0 a_x0 a_x1 a_x2 a_x3) m_ k0 (a10) (e0 ) = some r) ∧ Hid (Below w.heap.size w wr) ∧ wr.cell? ⟨w.heap.size, 0, none⟩ = some (.int .i64 a_x0) ∧ wr.cell? ⟨w.heap.size, 1, none⟩ = some (.int .i64 a_x1) ∧ wr.cell? ⟨w.heap.size, 2, none⟩ = some (.int .i64 a_x2) ∧ wr.cell? ⟨w.heap.size, 3, none⟩ = some (.int .i64 a_x3) ∧ wr.cell? ⟨b10.heap.size, 0, none⟩ = some (.int .i64 0) ∧ wr.cell? ⟨b10.heap.size, 1, none⟩ = some (.int .i64 0) ∧ wr.cell? ⟨b10.heap.size, 2, none⟩ = some (.int .i64 0) ∧ wr.cell? ⟨b10.heap.size, 3, none⟩ = some (.int .i64 0) ∧ Hid (wr.ownsRow w.heap.size 46 4 (.slice (some ⟨b10.heap.size, 0, none⟩) 1 1) 1 [.int .i64 0, .int .i64 0, .int .i64 0, .int .i64 0]) ∧ Hid (wr.ownsRow w.heap.size 46 1 (.slice (some ⟨c10.heap.size, 0, none⟩) 4 4) 4 (HelpInt.iv a10)) ∧ Hid (a10.length = 4) ∧ Hid (Apart (some ⟨c10.heap.size, 0, none⟩) (some ⟨w.heap.size, 0, none⟩)) ∧ Hid (Apart (some ⟨c10.heap.size, 0, none⟩) (some ⟨b10.heap.size, 0, none⟩)))
 case atStart => exact ⟨0, _, by omega, rfl, H, s12, n10, p10, m10, k10, t10, x10, y10, w10, Ot_1, w12, Lib.hid (d11.out), Lib.hid q12.out, Lib.hid b13.out⟩
 case round =>
  obtain ⟨k0, a10, hkm0, rfl, H, z10, n10, p10, m10, k10, t10, x10, y10, w10, Ot_1, e10, g10, r10, h10⟩ := hrel; rename World => wr0
  cases gk with
  | zero =>
   obtain rfl : k0 = 4 := (by omega); have hc0 : decide (((4 : Nat) : Int) < ((4 : Nat) : Int)) = false := (by simp); replace H := cnt_zero H; unfold e0 at H; replace H := let_hid H; obtain ⟨_, rfl, H⟩ := H; have p13 : wr0.cell? ⟨c10.heap.size, 0, none⟩ = some (.int .i64 (GoA.nth a10 0)) := GoA.row_at e10.out g10.out 0 (by omega); have v13 : wr0.cell? ⟨c10.heap.size, 1, none⟩ = some (.int .i64 (GoA.nth a10 1)) := GoA.row_at e10.out g10.out 1 (by omega); have k14 : wr0.cell? ⟨c10.heap.size, 2, none⟩ = some (.int .i64 (GoA.nth a10 2)) := GoA.row_at e10.out g10.out 2 (by omega); have c14 : wr0.cell? ⟨c10.heap.size, 3, none⟩ = some (.int .i64 (GoA.nth a10 3)) := GoA.row_at e10.out g10.out 3 (by omega); obtain ⟨l10, j11⟩ : ∃ x, ((((wr0).setCell ⟨b10.heap.size, 0, none⟩ (.int .i64 (GoA.nth a10 0))).setCell ⟨b10.heap.size, 1, none⟩ (.int .i64 (GoA.nth a10 1))).setCell ⟨b10.heap.size, 2, none⟩ (.int .i64 (GoA.nth a10 2))).setCell ⟨b10.heap.size, 3, none⟩ (.int .i64 (GoA.nth a10 3)) = x := ⟨_, rfl⟩; have h14 := Ot_1.out.frozenAt 0; have k13 := Ot_1.out.frozenAt 1; have q13 := Ot_1.out.frozenAt 2; have j14 := Ot_1.out.frozenAt 3; have f11 := Lib.hid (own_stores [(0, .int .i64 (GoA.nth a10 0)), (1, .int .i64 (GoA.nth a10 1)), (2, .int .i64 (GoA.nth a10 2)), (3, .int .i64 (GoA.nth a10 3))] Ot_1.out); have v10 : Hid (l10.ownsRow w.heap.size 46 4 (.slice (some ⟨b10.heap.size, 0, none⟩) 1 1) 1 [.int .i64 (GoA.nth a10 0), .int .i64 (GoA.nth a10 1), .int .i64 (GoA.nth a10 2), .int .i64 (GoA.nth a10 3)]) := Lib.hid (by rw [← j11]; exact f11.out.1); have i10 : Hid (wr0.grownBy l10 (Value.slice (some ⟨b10.heap.size, 0, none⟩) 1 1).ownBlock) := Lib.hid (by rw [← j11]; exact f11.out.2); have i12 := Lib.hid (z10.out.grown i10.out z10.out.size (fun q hq => (Ot_1.out.lt q hq).1)); clear f11; have j13 := cell_other n10 i10.out b11.out; have l13 := cell_other p10 i10.out b11.out; have b14 := cell_other m10 i10.out b11.out; have z13 := cell_other k10 i10.out b11.out; replace e10 := Lib.hid (own_other e10.out i10.out (Apart.symm h10.out)); clear Ot_1 i10; have j12 : l10.cell? ⟨b10.heap.size, 0, none⟩ = some (.int .i64 (GoA.nth a10 0)) := v10.out.cells rfl 0 _ rfl; have x12 : l10.cell? ⟨b10.heap.size, 1, none⟩ = some (.int .i64 (GoA.nth a10 1)) := v10.out.cells rfl 1 _ rfl; have t12 : l10.cell? ⟨b10.heap.size, 2, none⟩ = some (.int .i64 (GoA.nth a10 2)) := v10.out.cells rfl 2 _ rfl; have v12 : l10.cell? ⟨b10.heap.size, 3, none⟩ = some (.int .i64 (GoA.nth a10 3)) := v10.out.cells rfl 3 _ rfl; cases ret_hid H; go_wp2_with fail
   (try simp only [Exit.inBlock, Exit.then])
   refine bodyPost_ret (v := .agg #[.int .i64 (GoA.nth a10 0), .int .i64 (GoA.nth a10 1), .int .i64 (GoA.nth a10 2), .int .i64 (GoA.nth a10 3)]) ?hr_ ?hd_ ?_
   case hd_ => rfl
   case hr_ => simp [results, Try.results33, j12, x12, t12, v12, go_sem]
   exact ⟨rfl, i12.out⟩
  | succ m0 =>
   have hlt0 : k0 < 4 := (by omega); have hc0 : decide ((k0 : Int) < ((4 : Nat) : Int)) = true := (by simp; omega); replace H := cnt_succ H; have hd0 : decide ((k0 : Int) < 4) = true := (by simp; omega); unfold l0 at H; replace H := let_hid H; obtain ⟨_, rfl, H⟩ := H; replace H := idx_hid H; obtain ⟨nt_8, yt_8, et_8, lt_8, gt_8, H⟩ := H; obtain rfl : k0 = nt_8 := (by omega); clear et_8; have n13 : (0 : Int) ≤ (k0 : Int) := (by omega); have s13 : (k0 : Int) < (((4 : Nat) : Nat) : Int) := (by have h_ : k0 < 4 := lt_8; omega); have o13 : k0 < 4 := lt_8; have g14 : (k0 : Int) < (4 : Int) := (by omega); have w13 : ((k0 : Int)).toNat = k0 := (by omega); have y11 := PIntA4.cell_at n10 p10 m10 k10 gt_8.out; rw [Nat.zero_add] at y11; replace H := idx_hid H; obtain ⟨z12, y13, o12, p12, c13, H⟩ := H; obtain rfl : k0 = z12 := (by omega); clear o12; have h12 := g10.out; obtain ⟨d14, t13, m13, w11, n11, b12⟩ := HelpInt.Ints.at_ (own_cells e10.out) (k := k0) (by omega); obtain rfl := Option.some.inj (c13.out.symm.trans n11); simp only [Option.some.injEq, Addr.mk.injEq] at w11; obtain ⟨rfl, rfl, _⟩ := w11; clear n11; simp only [Nat.zero_add] at b12; have x13 : (0 : Int) ≤ (k0 : Int) := (by omega); have f14 : (k0 : Int) < ((4 : Nat) : Int) := (by omega); have i13 : ((k0 : Int)).toNat = k0 := (by omega); clear h12; have a14 : k0 < 4 := (by have h_ := p12; have hn_ := g10.out; omega); have r13 : (k0 : Int) < (4 : Int) := (by omega); replace H := let_hid H; obtain ⟨i11, s10, H⟩ := H
   try simp only [Int.toNat_natCast] at s10
   obtain ⟨k11, x11⟩ : ∃ x, (wr0).setCell ⟨c10.heap.size, k0, none⟩ (.int .i64 yt_8) = x := ⟨_, rfl⟩; have k12 := e10.out.frozenAt (k0); have g11 := Lib.hid (own_stores [(k0, .int .i64 yt_8)] e10.out); have f13 : Hid (i11.length = 4) := Lib.hid (by rw [← s10, List.length_set]; exact g10.out); have a13 : Hid (k11.ownsRow w.heap.size 46 1 (.slice (some ⟨c10.heap.size, 0, none⟩) 4 4) 4 (HelpInt.iv i11)) := Lib.hid (by have e_ : ([(k0, .int .i64 yt_8)] : List (Nat × Value)).foldl (fun xs p => xs.set p.1 p.2) (HelpInt.iv a10) = (HelpInt.iv i11) := (by rw [← s10]; first | done | simp [HelpInt.iv, List.map_set]); rw [← x11, ← e_]; exact g11.out.1); have f10 : Hid (wr0.grownBy k11 (Value.slice (some ⟨c10.heap.size, 0, none⟩) 4 4).ownBlock) := Lib.hid (by rw [← x11]; exact g11.out.2); have h13 := Lib.hid (z10.out.grown f10.out z10.out.size (fun q hq => (e10.out.lt q hq).1)); have e14 := Lib.hid s10; clear s10 g11; have r12 := cell_other n10 f10.out r10.out; have y12 := cell_other p10 f10.out r10.out; have l12 := cell_other m10 f10.out r10.out; have m12 := cell_other k10 f10.out r10.out; have g13 := cell_other t10 f10.out h10.out; have n12 := cell_other x10 f10.out h10.out; have e13 := cell_other y10 f10.out h10.out; have d13 := cell_other w10 f10.out h10.out; replace Ot_1 := Lib.hid (own_other Ot_1.out f10.out h10.out); clear e10 f10; replace H := app_hid H; go_wp2_with fail; clear k12 n10 p10 m10 k10 t10 x10 y10 w10 y11 b12
   go_roundg m0
   case measure => omega
   case rel => exact ⟨k0 + 1, _, by omega, by go_num, H, h13, r12, y12, l12, m12, g13, n12, e13, d13, Ot_1, a13, Lib.hid (f13.out), Lib.hid r10.out, Lib.hid h10.out⟩
end Go.Proofs.Ytihibckijdfidaa.GlToIntA4

namespace Go.Proofs.Ytihibckijdfidaa.Q12One
open Go.RowKit
open Go.Proofs.Ytihibckijdfidaa.GoP Go.Proofs.Ytihibckijdfidaa.PlainStamp Go.Proofs.Ytihibckijdfidaa.QBase Go.Proofs.Ytihibckijdfidaa.QLoop Go.Proofs.Ytihibckijdfidaa.PCover Go.Proofs.Ytihibckijdfidaa.PIntA4

theorem toC (s : Cover) : GlToCover.P s = some s := by cases s; rfl
theorem eqCv (s : Cover) : GlEqCover.P s s = some true := by obtain ⟨x0, x1, x2, x3, x4, x5, x6, x7, x8⟩ := s; simp [GlEqCover.P, unCover, letK, joinK, appK, iteK_if]
theorem toA4 (s : IntA4) : GlToIntA4.P s = some s := by cases s; rfl
end Go.Proofs.Ytihibckijdfidaa.Q12One

namespace Go.Proofs.Ytihibckijdfidaa.QHRateE
open Go.RowKit
open Go.Proofs.Ytihibckijdfidaa.GoP Go.Proofs.Ytihibckijdfidaa.QBase Go.Proofs.Ytihibckijdfidaa.QLoop Go.Proofs.Ytihibckijdfidaa.PRate

theorem toOne (s : Rate) : GlToRate.P s = some s := by cases s; rfl
theorem eqOne (s : Rate) : GlEqRate.P s s = some true := by
  obtain ⟨x0, x1, x2, x3, x4⟩ := s
  simp [GlEqRate.P, unRate, letK, joinK, appK, iteK_if]
theorem toS (l : List Rate) (hl : l.length ≤ 1048576) : GlToRateS.P l = some l := by
  simp only [GlToRateS.P, letK]
  rw [guardK_pos (by omega)]
  refine cnt_is l (fun k s => s = l.take k ++ List.replicate (l.length - k) (Rate.mk 0 0 0 0 0)) ?_ ?_ _ (by simp)
  · intro k s nx hk hI hn
    obtain ⟨x, hx, hi⟩ := at_lt (l := l) (k := k) hk
    have hlen : s.length = l.length := by rw [hI]; simp; omega
    obtain ⟨z, hz, hj⟩ := at_lt (l := s) (k := k) (by omega)
    simp only [GlToRateS.l0, hi, hj, toOne, Option.bind_some, unRate, letK, appK]
    refine hn _ ?_
    rw [hI, take_next hx, List.set_append_right _ _ (by simp; omega)]
    have hr : l.length - k = (l.length - (k + 1)) + 1 := by omega
    rw [hr, List.replicate_succ, List.append_assoc]
    simp [show k - min k l.length = 0 by omega]
  · intro s hI
    rw [hI]; simp [GlToRateS.e0, letK]
theorem eqS (l : List Rate) : GlEqRateS.P l l = some true := by
  simp only [GlEqRateS.P, letK, iteK_if]
  rw [if_neg (by simp)]
  refine cnt_is true (fun _ _ => True) ?_ (fun s _ => rfl) () trivial
  intro k s nx hk _ hn
  obtain ⟨x, hx, hi⟩ := at_lt (l := l) (k := k) hk
  simp only [GlEqRateS.l0, hi, Option.bind_some, unRate, eqOne, letK, appK, iteK_if]
  exact hn () trivial
theorem szS (l : List Rate) (hl : l.length ≤ 9223372036854775807) : GlSzRateS.P l 1048576 = some (if l.length ≤ 1048576 then 1048576 - (l.length : Int) else -1) := by
  simp only [GlSzRateS.P, letK, iteK_if]
  rw [wrap_in (by omega) (by omega)]
  by_cases h : l.length ≤ 1048576
  · rw [if_neg (by simp; omega), if_pos h]
  · rw [if_pos (by simp; omega), if_neg h]
end Go.Proofs.Ytihibckijdfidaa.QHRateE

namespace Go.Proofs.Ytihibckijdfidaa.OCover
set_option maxRecDepth 100000
open Go.Joins Go.ChangeShapes Go.WideShapes Go.RowKit Go.Deep
open Go.Proofs.Ytihibckijdfidaa.Rowed Go.Proofs.Ytihibckijdfidaa.OpenAny Go.Proofs.Ytihibckijdfidaa.PCover

/-- the slice 'A, n' reads as the records l -/
abbrev Covers (w : World) (A : Option Addr) (n : Nat) (l : List Cover) : Prop := Cells w 9 A n (flat l)
theorem at_ {w : World} {A : Option Addr} {n k : Nat} {l : List Cover} (h : Covers w A n l) (hk : k < n) :
    ∃ (b o : Nat) (s : Cover), A = some ⟨b, o, none⟩ ∧ l[k]? = some s ∧ w.cell? ⟨b, o + k * 9, none⟩ = some (.int .i64 s.id) ∧ w.cell? ⟨b, o + k * 9 + 1, none⟩ = some (.int .i64 s.day) ∧ w.cell? ⟨b, o + k * 9 + 2, none⟩ = some (.int .i64 s.zone) ∧ w.cell? ⟨b, o + k * 9 + 3, none⟩ = some (.int .i64 s.grams) ∧ w.cell? ⟨b, o + k * 9 + 4, none⟩ = some (.int .i64 s.paid) ∧ w.cell? ⟨b, o + k * 9 + 5, none⟩ = some (.int .i64 s.from_) ∧ w.cell? ⟨b, o + k * 9 + 6, none⟩ = some (.int .i64 s.to_) ∧ w.cell? ⟨b, o + k * 9 + 7, none⟩ = some (.int .i64 s.leave) ∧ w.cell? ⟨b, o + k * 9 + 8, none⟩ = some (.int .i64 s.arrive) := by
  have hl : k < l.length := by have := h.1; rw [flat_len] at this; omega
  obtain ⟨⟨b, o, sp⟩, e, hc⟩ := h.2 (by rw [flat_len]; omega)
  have h0 := hc 0 _ (flat_at l 0 l[0] (List.getElem?_eq_getElem (by omega)) 0 (by omega))
  obtain rfl : sp = none := cell_spot (b := b) (o := o) h0
  have hs := List.getElem?_eq_getElem hl
  have f := flat_at l k _ hs
  have g := fun j u hu => add_none b o j ▸ hc j u hu
  exact ⟨b, o, l[k], e, hs, g _ _ (f 0 (by omega)), g _ _ (f 1 (by omega)), g _ _ (f 2 (by omega)), g _ _ (f 3 (by omega)), g _ _ (f 4 (by omega)), g _ _ (f 5 (by omega)), g _ _ (f 6 (by omega)), g _ _ (f 7 (by omega)), g _ _ (f 8 (by omega))⟩
theorem len_of {w : World} {A : Option Addr} {n : Nat} {l : List Cover} (h : Covers w A n l) : l.length = n := by
  have := h.1
  rw [flat_len] at this; omega

/-- a slice of records that came in: the list that it reads as -/
structure Came (w : World) (A : Option Addr) (len cap : Nat) (l : List Cover) : Prop where
  cells : Covers w A len l
  small : len ≤ maxLen
  fits : ∀ s ∈ l, s.fits
theorem Came.len {w : World} {A : Option Addr} {len cap : Nat} {l : List Cover} (h : Came w A len cap l) : l.length = len := len_of h.cells

section
variable {H : Type} {enc : TypeId × Value → H} {w : World} {base : Nat} {spare : Nat → Bool} {held : Bool}
theorem read_one {n : Nat} {cs : List Value} {x : DataW H × List MemPlace} (h : DataW.trod enc Try.prog w base spare held n 24 cs = some x) : ∃ s : Cover, cs = s.cells ∧ s.fits := by
  have hc : Try.prog.cellsOf 24 = 9 := by kernel_rfl
  obtain ⟨hl, hf⟩ := read_fields Try.underlying24 (by kernel_rfl) hc h
  rw [hc] at hl
  match cs, hl with
  | [v0, v1, v2, v3, v4, v5, v6, v7, v8], _ =>
    obtain ⟨u0, n0, y0, eu0, t0⟩ := hf 0 _ rfl
    obtain ⟨x0, e0, _, f0⟩ := DataW.trod_int Try.underlying3 t0
    obtain rfl : v0 = u0 := by simpa using eu0
    obtain rfl : v0 = .int .i64 x0 := by simpa using e0
    obtain ⟨u1, n1, y1, eu1, t1⟩ := hf 1 _ rfl
    obtain ⟨x1, e1, _, f1⟩ := DataW.trod_int Try.underlying3 t1
    obtain rfl : v1 = u1 := by simpa using eu1
    obtain rfl : v1 = .int .i64 x1 := by simpa using e1
    obtain ⟨u2, n2, y2, eu2, t2⟩ := hf 2 _ rfl
    obtain ⟨x2, e2, _, f2⟩ := DataW.trod_int Try.underlying3 t2
    obtain rfl : v2 = u2 := by simpa using eu2
    obtain rfl : v2 = .int .i64 x2 := by simpa using e2
    obtain ⟨u3, n3, y3, eu3, t3⟩ := hf 3 _ rfl
    obtain ⟨x3, e3, _, f3⟩ := DataW.trod_int Try.underlying3 t3
    obtain rfl : v3 = u3 := by simpa using eu3
    obtain rfl : v3 = .int .i64 x3 := by simpa using e3
    obtain ⟨u4, n4, y4, eu4, t4⟩ := hf 4 _ rfl
    obtain ⟨x4, e4, _, f4⟩ := DataW.trod_int Try.underlying3 t4
    obtain rfl : v4 = u4 := by simpa using eu4
    obtain rfl : v4 = .int .i64 x4 := by simpa using e4
    obtain ⟨u5, n5, y5, eu5, t5⟩ := hf 5 _ rfl
    obtain ⟨x5, e5, _, f5⟩ := DataW.trod_int Try.underlying3 t5
    obtain rfl : v5 = u5 := by simpa using eu5
    obtain rfl : v5 = .int .i64 x5 := by simpa using e5
    obtain ⟨u6, n6, y6, eu6, t6⟩ := hf 6 _ rfl
    obtain ⟨x6, e6, _, f6⟩ := DataW.trod_int Try.underlying3 t6
    obtain rfl : v6 = u6 := by simpa using eu6
    obtain rfl : v6 = .int .i64 x6 := by simpa using e6
    obtain ⟨u7, n7, y7, eu7, t7⟩ := hf 7 _ rfl
    obtain ⟨x7, e7, _, f7⟩ := DataW.trod_int Try.underlying3 t7
    obtain rfl : v7 = u7 := by simpa using eu7
    obtain rfl : v7 = .int .i64 x7 := by simpa using e7
    obtain ⟨u8, n8, y8, eu8, t8⟩ := hf 8 _ rfl
    obtain ⟨x8, e8, _, f8⟩ := DataW.trod_int Try.underlying3 t8
    obtain rfl : v8 = u8 := by simpa using eu8
    obtain rfl : v8 = .int .i64 x8 := by simpa using e8
    exact ⟨⟨x0, x1, x2, x3, x4, x5, x6, x7, x8⟩, rfl, f0, f1, f2, f3, f4, f5, f6, f7, f8⟩
theorem open_one {r : Reach} {b0 : Nat} {v : Value} {d : DataW H} {p : List MemPlace} (hv : Value.okWide Try.prog w r b0 24 v) (h : DataW.Trod enc Try.prog w base spare held 24 v d p) :
    ∃ s : Cover, v = s.val ∧ s.fits := by
  obtain ⟨cs, n, x, rfl, ht⟩ := agg_any Try.underlying24 hv h
  obtain ⟨s, e, hs⟩ := read_one ht
  refine ⟨s, ?_, hs⟩
  obtain ⟨l⟩ := cs
  obtain rfl : l = s.cells := by simpa using e
  rfl
end

/-- a record that was boxed -/
theorem box_ {w : World} {s : Cover} {g : Nat} (h : Cells w 9 (some ⟨g, 0, none⟩) 1 s.cells) : w.cell? ⟨g, 0, none⟩ = some (.int .i64 s.id) ∧ w.cell? ⟨g, 1, none⟩ = some (.int .i64 s.day) ∧ w.cell? ⟨g, 2, none⟩ = some (.int .i64 s.zone) ∧ w.cell? ⟨g, 3, none⟩ = some (.int .i64 s.grams) ∧ w.cell? ⟨g, 4, none⟩ = some (.int .i64 s.paid) ∧ w.cell? ⟨g, 5, none⟩ = some (.int .i64 s.from_) ∧ w.cell? ⟨g, 6, none⟩ = some (.int .i64 s.to_) ∧ w.cell? ⟨g, 7, none⟩ = some (.int .i64 s.leave) ∧ w.cell? ⟨g, 8, none⟩ = some (.int .i64 s.arrive) := by
  obtain ⟨ad, e, hc⟩ := h.2 (by simp [Cover.cells])
  obtain rfl := Option.some.inj e
  have gg := fun j u hu => add_none g 0 j ▸ hc j u hu
  exact ⟨by simpa using gg 0 _ rfl, by simpa using gg 1 _ rfl, by simpa using gg 2 _ rfl, by simpa using gg 3 _ rfl, by simpa using gg 4 _ rfl, by simpa using gg 5 _ rfl, by simpa using gg 6 _ rfl, by simpa using gg 7 _ rfl, by simpa using gg 8 _ rfl⟩
theorem box_new (w : World) (s : Cover) (T : TypeId) : Cells (w.alloc (.cells #[.int .i64 s.id, .int .i64 s.day, .int .i64 s.zone, .int .i64 s.grams, .int .i64 s.paid, .int .i64 s.from_, .int .i64 s.to_, .int .i64 s.leave, .int .i64 s.arrive] T)) 9 (some ⟨w.heap.size, 0, none⟩) 1 s.cells :=
  ⟨by simp [Cover.cells], fun _ => ⟨_, rfl, fun j u hu => by
    have hj : j < 9 := by have := (List.getElem?_eq_some_iff.1 hu).1; simpa [Cover.cells] using this
    rw [add_none, World.cell?_alloc_new]
    match j, hj with
    | 0, _ => simpa [Cover.cells] using hu
    | 1, _ => simpa [Cover.cells] using hu
    | 2, _ => simpa [Cover.cells] using hu
    | 3, _ => simpa [Cover.cells] using hu
    | 4, _ => simpa [Cover.cells] using hu
    | 5, _ => simpa [Cover.cells] using hu
    | 6, _ => simpa [Cover.cells] using hu
    | 7, _ => simpa [Cover.cells] using hu
    | 8, _ => simpa [Cover.cells] using hu
⟩⟩
end Go.Proofs.Ytihibckijdfidaa.OCover

namespace Go.Proofs.Ytihibckijdfidaa.GsL12Cost
open Go.RowKit
open Go.Proofs.Ytihibckijdfidaa.Rowed Go.Proofs.Ytihibckijdfidaa.Turn Go.Proofs.Ytihibckijdfidaa.Aid Go.Proofs.Ytihibckijdfidaa.GoP Go.Proofs.Ytihibckijdfidaa.GoM

def l0 (change : Int) (costs_x0 : Int) (costs_x1 : Int) (costs_x2 : Int) (costs_x3 : Int) (k0 : Nat) (s : Int) (nx0 bk0 : Int → Option (Int)) : Option (Int) :=
 letK s fun sum_5l0 =>
 letK ([1, 2, 4, 8]) fun (t_7 : (List Int)) =>
 Option.bind (idx t_7 (k0 : Int)) fun (yt_9 : Int) =>
 Option.bind (GsL12Has.P change yt_9) fun (t_11 : Bool) =>
 iteK t_11
 (Option.bind (idx [costs_x0, costs_x1, costs_x2, costs_x3] (k0 : Int)) fun (yt_14 : Int) =>
 letK (IntKind.i64.wrap (sum_5l0 + yt_14)) fun (t_16 : Int) =>
 appK nx0 (t_16))
 (appK nx0 (sum_5l0))

def e0  (s : Int) : Option (Int) :=
 letK s fun sum_5l0 =>
 some sum_5l0

def P (change : Int) (costs : PIntA4.IntA4) : Option (Int) :=
 unIntA4 costs fun (costs_x0 : Int) (costs_x1 : Int) (costs_x2 : Int) (costs_x3 : Int) =>
 cntK (l0 change costs_x0 costs_x1 costs_x2 costs_x3) (4) 0 (0) (e0 )

set_option maxRecDepth 100000 in
set_option maxHeartbeats 2000000 in
theorem C (change : Int) (costs : PIntA4.IntA4)   (w : World)   {r : Int} (H : Hid (P change costs = some r)) :
  Calls Try.prog 96 #[.int .i64 change, costs.val] w (Gives (.int .i64 r) w) := by
 have HB := Lib.hid (Below.refl w.heap.size w); unfold P at H; obtain ⟨n10, o10, j10, k10⟩ := costs; replace H := unIntA4_hid H; unfold PIntA4.IntA4.val
 go_enter Try.func96, Try.ntmps96
 obtain ⟨d10, e10⟩ : ∃ x, w.alloc (.cells #[.int .i64 n10, .int .i64 o10, .int .i64 j10, .int .i64 k10] 46) = x := ⟨_, rfl⟩; have x10 : Below w.heap.size w d10 := (by rw [← e10]; exact (Below.refl _ _).alloc (Nat.le_refl _) _); have g11 := Lib.hid (Below.step HB.out x10); clear x10; have h10 : d10.cell? ⟨w.heap.size, 0, none⟩ = some (.int .i64 n10) := (by rw [← e10]; exact box_new _ _ _ 0 _ rfl); have m10 : d10.cell? ⟨w.heap.size, 1, none⟩ = some (.int .i64 o10) := (by rw [← e10]; exact box_new _ _ _ 1 _ rfl); have p10 : d10.cell? ⟨w.heap.size, 2, none⟩ = some (.int .i64 j10) := (by rw [← e10]; exact box_new _ _ _ 2 _ rfl); have l10 : d10.cell? ⟨w.heap.size, 3, none⟩ = some (.int .i64 k10) := (by rw [← e10]; exact box_new _ _ _ 3 _ rfl); go_wp2_with fail; go_loopg [6, 5] (4) (fun m_ v6_ v5_ wr => ∃ (k0 : Nat) (s10 : Int), k0 + m_ = 4 ∧ v6_ = .int .i64 (k0 : Int) ∧ v5_ = .int .i64 s10 ∧ Hid (cntK (l0 change n10 o10 j10 k10) m_ k0 (s10) (e0 ) = some r) ∧ Hid (Below w.heap.size w wr) ∧ wr.cell? ⟨w.heap.size, 0, none⟩ = some (.int .i64 n10) ∧ wr.cell? ⟨w.heap.size, 1, none⟩ = some (.int .i64 o10) ∧ wr.cell? ⟨w.heap.size, 2, none⟩ = some (.int .i64 j10) ∧ wr.cell? ⟨w.heap.size, 3, none⟩ = some (.int .i64 k10))
 case atStart => exact ⟨0, _, by omega, rfl, rfl, H, g11, h10, m10, p10, l10⟩
 case round =>
  obtain ⟨k0, s10, hkm0, rfl, rfl, H, r10, h10, m10, p10, l10⟩ := hrel; rename World => wr0
  cases gk with
  | zero =>
   obtain rfl : k0 = 4 := (by omega); have hc0 : decide (((4 : Nat) : Int) < ((4 : Nat) : Int)) = false := (by simp); replace H := cnt_zero H; unfold e0 at H; replace H := let_hid H; obtain ⟨_, rfl, H⟩ := H; obtain rfl := ret_hid H; go_wp2_with fail; go_ret; exact ⟨rfl, r10.out⟩
  | succ m0 =>
   have hlt0 : k0 < 4 := (by omega); have hc0 : decide ((k0 : Int) < ((4 : Nat) : Int)) = true := (by simp; omega); replace H := cnt_succ H; have hd0 : decide ((k0 : Int) < 4) = true := (by simp; omega); unfold l0 at H; replace H := let_hid H; obtain ⟨_, rfl, H⟩ := H; replace H := let_hid H; obtain ⟨t_7, ht_7, H⟩ := H; obtain ⟨a11, v10⟩ : ∃ x, wr0.alloc (.cells #[.int .i64 1, .int .i64 2, .int .i64 4, .int .i64 8] 3) = x := ⟨_, rfl⟩; have b10 : Below wr0.heap.size wr0 a11 := (by rw [← v10]; exact (Below.refl _ _).alloc (Nat.le_refl _) _); have y10 := r10.out.size; have nt_7 : t_7.length = 4 := (by rw [← ht_7]; rfl)
   have Ot_7 : Hid (a11.ownsRow w.heap.size 3 1 (.slice (some ⟨wr0.heap.size, 0, none⟩) 4 4) 4 (HelpInt.iv t_7)) := by
    rw [← v10, ← ht_7]; have e_ : ([.int .i64 1, .int .i64 2, .int .i64 4, .int .i64 8] : List Value) = (HelpInt.iv ([1, 2, 4, 8] : List Int)) := rfl; exact Lib.hid (own_laid (n := 4) y10 e_ rfl (by unfold maxLen; omega))
   clear y10; have m11 := Lib.hid ht_7; clear ht_7; replace nt_7 := Lib.hid nt_7; have z11 := Lib.hid (apart_box h10); have i11 := Lib.hid (Below.step r10.out b10); have c10 := cell_below b10 h10; have i10 := cell_below b10 m10; have f10 := cell_below b10 p10; have g10 := cell_below b10 l10; clear b10; replace H := idx_hid H; obtain ⟨nt_9, yt_9, et_9, lt_9, gt_9, H⟩ := H; obtain rfl : k0 = nt_9 := (by omega); clear et_9; have c11 := nt_7.out; obtain ⟨x11, s11, zt_9, At_9, z10, q10⟩ := HelpInt.Ints.at_ (own_cells Ot_7.out) (k := k0) (by omega); obtain rfl := Option.some.inj (gt_9.out.symm.trans z10); simp only [Option.some.injEq, Addr.mk.injEq] at At_9; obtain ⟨rfl, rfl, _⟩ := At_9; clear z10; simp only [Nat.zero_add] at q10; have t11 : (0 : Int) ≤ (k0 : Int) := (by omega); have q11 : (k0 : Int) < ((4 : Nat) : Int) := (by omega); have o11 : ((k0 : Int)).toNat = k0 := (by omega); clear c11; replace H := bind_hid H; obtain ⟨t_11, e11, H⟩ := H; go_wp2_with fail; clear h10 m10 p10 l10; go_at_call 102; refine (GsL12Has.C (change) (yt_9)  _    e11).mono ?_; rintro j11 l11 ⟨rfl, a10⟩; have w10 := Lib.hid (Below.step i11.out a10); replace c10 := cell_below a10 c10; replace i10 := cell_below a10 i10; replace f10 := cell_below a10 f10; replace g10 := cell_below a10 g10; replace q10 := cell_below a10 q10; replace Ot_7 := Lib.hid (own_below Ot_7.out a10); clear a10
   cases t_11 with
   | false =>
    replace H := ite_f H; replace H := app_hid H; go_wp2_with fail
    go_roundg m0
    case measure => omega
    case rel => exact ⟨k0 + 1, _, by omega, by go_num, rfl, H, w10, c10, i10, f10, g10⟩
   | true =>
    replace H := ite_t H; replace H := idx_hid H; obtain ⟨h11, w11, f11, t10, b11, H⟩ := H; obtain rfl : k0 = h11 := (by omega); clear f11; have y11 : (0 : Int) ≤ (k0 : Int) := (by omega); have k11 : (k0 : Int) < (((4 : Nat) : Nat) : Int) := (by have h_ : k0 < 4 := t10; omega); have p11 : k0 < 4 := t10; have v11 : (k0 : Int) < (4 : Int) := (by omega); have r11 : ((k0 : Int)).toNat = k0 := (by omega); have d11 := PIntA4.cell_at c10 i10 f10 g10 b11.out; rw [Nat.zero_add] at d11; replace H := let_hid H; obtain ⟨t_16, n11, H⟩ := H; replace H := app_hid H; go_wp2_with fail
    go_roundg m0
    case measure => omega
    case rel => exact ⟨k0 + 1, _, by omega, by go_num, rfl, H, w10, c10, i10, f10, g10⟩
end Go.Proofs.Ytihibckijdfidaa.GsL12Cost

namespace Go.Proofs.Ytihibckijdfidaa.GsL12Smaller
open Go.RowKit
open Go.Proofs.Ytihibckijdfidaa.Rowed Go.Proofs.Ytihibckijdfidaa.Turn Go.Proofs.Ytihibckijdfidaa.Aid Go.Proofs.Ytihibckijdfidaa.GoP Go.Proofs.Ytihibckijdfidaa.GoM

def P (a : Int) (b : Int) : Option (Bool) :=
 Option.bind (GsL12Cost.P a (PIntA4.IntA4.mk 1 1 1 1)) fun (t_3 : Int) =>
 Option.bind (GsL12Cost.P b (PIntA4.IntA4.mk 1 1 1 1)) fun (t_6 : Int) =>
 letK (decide (t_3 < t_6)) fun (t_11 : Bool) =>
 joinK (fun (t_21 : Bool) =>
 some t_21) fun jt_21 => iteK t_11 (appK jt_21 true) (letK (t_3 == t_6) fun (t_15 : Bool) =>
 joinK (fun (t_20 : Bool) =>
 appK jt_21 t_20) fun jt_20 => iteK t_15 (letK (decide (a < b)) fun (t_19 : Bool) =>
 appK jt_20 t_19) (appK jt_20 false))

set_option maxRecDepth 100000 in
set_option maxHeartbeats 2000000 in
theorem C (a : Int) (b : Int)   (w : World)   {r : Bool} (H : Hid (P a b = some r)) :
  Calls Try.prog 169 #[.int .i64 a, .int .i64 b] w (Gives (.bool r) w) := by
 have HB := Lib.hid (Below.refl w.heap.size w); unfold P at H
 go_enter Try.func169, Try.ntmps169
 replace H := bind_hid H; obtain ⟨t_3, qt_3, H⟩ := H; go_wp2_with fail; go_at_call 96; refine (GsL12Cost.C (a) ((PIntA4.IntA4.mk 1 1 1 1))  _    qt_3).mono ?_; rintro c10 wt_3 ⟨rfl, bt_3⟩; have b10 := Lib.hid (Below.step HB.out bt_3); clear bt_3; replace H := bind_hid H; obtain ⟨t_6, qt_6, H⟩ := H; go_wp2_with fail; go_at_call 96; refine (GsL12Cost.C (b) ((PIntA4.IntA4.mk 1 1 1 1))  _    qt_6).mono ?_; rintro d10 wt_6 ⟨rfl, bt_6⟩; have a10 := Lib.hid (Below.step b10.out bt_6); clear bt_6; replace H := let_hid H; obtain ⟨t_11, e10, H⟩ := H; replace H := join_hid H
 cases t_11 with
 | false =>
  replace H := ite_f H; replace H := let_hid H; obtain ⟨t_15, g10, H⟩ := H; replace H := join_hid H
  cases t_15 with
  | false =>
   replace H := ite_f H; replace H := app_hid H; replace H := app_hid H; obtain rfl := ret_hid H; go_wp2_with fail; go_ret; exact ⟨rfl, a10.out⟩
  | true =>
   replace H := ite_t H; replace H := let_hid H; obtain ⟨t_19, f10, H⟩ := H; replace H := app_hid H; replace H := app_hid H; obtain rfl := ret_hid H; go_wp2_with fail; go_ret; exact ⟨rfl, a10.out⟩
 | true =>
  replace H := ite_t H; replace H := app_hid H; obtain rfl := ret_hid H; go_wp2_with fail; go_ret; exact ⟨rfl, a10.out⟩
end Go.Proofs.Ytihibckijdfidaa.GsL12Smaller

namespace Go.Proofs.Ytihibckijdfidaa.GsL12Best
open Go.RowKit
open Go.Proofs.Ytihibckijdfidaa.Rowed Go.Proofs.Ytihibckijdfidaa.Turn Go.Proofs.Ytihibckijdfidaa.Aid Go.Proofs.Ytihibckijdfidaa.GoP Go.Proofs.Ytihibckijdfidaa.GoM

def l0 (costs_x0 : Int) (costs_x1 : Int) (costs_x2 : Int) (costs_x3 : Int) (t_6 : (List Int)) (s : Int × Int) (nx0 bk0 : Int × Int → Option (Int × Bool)) : Option (Int × Bool) :=
 unp2 s fun best_9l0 i_10l0 =>
 letK (decide (i_10l0 < (t_6.length : Int))) fun (t_21 : Bool) =>
 iteK t_21
 (Option.bind (idx t_6 i_10l0) fun (yt_24 : Int) =>
 Option.bind (GsL12Cost.P yt_24 (PIntA4.IntA4.mk costs_x0 costs_x1 costs_x2 costs_x3)) fun (t_27 : Int) =>
 Option.bind (GsL12Cost.P best_9l0 (PIntA4.IntA4.mk costs_x0 costs_x1 costs_x2 costs_x3)) fun (t_30 : Int) =>
 letK (decide (t_27 < t_30)) fun (t_35 : Bool) =>
 joinK (fun (t_48 : Bool) =>
 iteK t_48
 (Option.bind (idx t_6 i_10l0) fun (yt_51 : Int) =>
 letK (IntKind.i64.wrap (i_10l0 + 1)) fun (t_55 : Int) =>
 appK nx0 (yt_51, t_55))
 (letK (IntKind.i64.wrap (i_10l0 + 1)) fun (t_55 : Int) =>
 appK nx0 (best_9l0, t_55))) fun jt_48 => iteK t_35 (appK jt_48 true) (letK (t_27 == t_30) fun (t_39 : Bool) =>
 joinK (fun (t_47 : Bool) =>
 appK jt_48 t_47) fun jt_47 => iteK t_39 (Option.bind (idx t_6 i_10l0) fun (yt_43 : Int) =>
 Option.bind (GsL12Smaller.P yt_43 best_9l0) fun (t_46 : Bool) =>
 appK jt_47 t_46) (appK jt_47 false)))
 (appK bk0 (best_9l0, i_10l0))

def e0  (s : Int × Int) : Option (Int × Bool) :=
 unp2 s fun best_9l0 i_10l0 =>
 some (best_9l0, true)

def P (fuel : Nat) (rates : (List PRate.Rate)) (x : PCover.Cover) (costs : PIntA4.IntA4) : Option (Int × Bool) :=
 unCover x fun (x_id : Int) (x_day : Int) (x_zone : Int) (x_grams : Int) (x_paid : Int) (x_from_ : Int) (x_to_ : Int) (x_leave : Int) (x_arrive : Int) =>
 unIntA4 costs fun (costs_x0 : Int) (costs_x1 : Int) (costs_x2 : Int) (costs_x3 : Int) =>
 Option.bind (GsL12All.P fuel rates (PCover.Cover.mk x_id x_day x_zone x_grams x_paid x_from_ x_to_ x_leave x_arrive)) fun (t_6 : (List Int)) =>
 letK ((t_6.length : Int) == 0) fun (t_10 : Bool) =>
 iteK t_10
 (some (0, false))
 (Option.bind (idx t_6 0) fun (yt_14 : Int) =>
 loopK (l0 costs_x0 costs_x1 costs_x2 costs_x3 t_6) fuel (yt_14, 1) (e0 ))

set_option maxRecDepth 100000 in
set_option maxHeartbeats 2000000 in
theorem C (fuel : Nat) (rates : (List PRate.Rate)) (x : PCover.Cover) (costs : PIntA4.IntA4) (A0 : Option Addr) (c0 : Nat)  (w : World) (M0 : Hid (Cells w 5 A0 rates.length (PRate.flat rates))) (N0 : Hid (rates.length ≤ 9223372036854775807))  {r0 : Int} {r1 : Bool} (H : Hid (P fuel rates x costs = some (r0, r1))) :
  Calls Try.prog 93 #[.slice A0 rates.length c0, x.val, costs.val] w (Gives (.tuple #[.int .i64 r0, .bool r1]) w) := by
 have HB := Lib.hid (Below.refl w.heap.size w); unfold P at H; obtain ⟨x_id, x_day, x_zone, x_grams, x_paid, x_from_, x_to_, x_leave, x_arrive⟩ := x; replace H := unCover_hid H; obtain ⟨v10, t10, w10, x10⟩ := costs; replace H := unIntA4_hid H; unfold PCover.Cover.val; unfold PIntA4.IntA4.val; have N0o := N0.out
 go_enter Try.func93, Try.ntmps93
 obtain ⟨a10, q10⟩ : ∃ x, w.alloc (.cells #[.int .i64 x_id, .int .i64 x_day, .int .i64 x_zone, .int .i64 x_grams, .int .i64 x_paid, .int .i64 x_from_, .int .i64 x_to_, .int .i64 x_leave, .int .i64 x_arrive] 30) = x := ⟨_, rfl⟩; have n11 : Below w.heap.size w a10 := (by rw [← q10]; exact (Below.refl _ _).alloc (Nat.le_refl _) _); have b13 := Lib.hid (Below.step HB.out n11); clear n11; have r11 : a10.cell? ⟨w.heap.size, 0, none⟩ = some (.int .i64 x_id) := (by rw [← q10]; exact box_new _ _ _ 0 _ rfl); have b12 : a10.cell? ⟨w.heap.size, 1, none⟩ = some (.int .i64 x_day) := (by rw [← q10]; exact box_new _ _ _ 1 _ rfl); have m12 : a10.cell? ⟨w.heap.size, 2, none⟩ = some (.int .i64 x_zone) := (by rw [← q10]; exact box_new _ _ _ 2 _ rfl); have f12 : a10.cell? ⟨w.heap.size, 3, none⟩ = some (.int .i64 x_grams) := (by rw [← q10]; exact box_new _ _ _ 3 _ rfl); have q12 : a10.cell? ⟨w.heap.size, 4, none⟩ = some (.int .i64 x_paid) := (by rw [← q10]; exact box_new _ _ _ 4 _ rfl); have q11 : a10.cell? ⟨w.heap.size, 5, none⟩ = some (.int .i64 x_from_) := (by rw [← q10]; exact box_new _ _ _ 5 _ rfl); have r12 : a10.cell? ⟨w.heap.size, 6, none⟩ = some (.int .i64 x_to_) := (by rw [← q10]; exact box_new _ _ _ 6 _ rfl); have g12 : a10.cell? ⟨w.heap.size, 7, none⟩ = some (.int .i64 x_leave) := (by rw [← q10]; exact box_new _ _ _ 7 _ rfl); have e12 : a10.cell? ⟨w.heap.size, 8, none⟩ = some (.int .i64 x_arrive) := (by rw [← q10]; exact box_new _ _ _ 8 _ rfl); obtain ⟨b11, a11⟩ : ∃ x, a10.alloc (.cells #[.int .i64 v10, .int .i64 t10, .int .i64 w10, .int .i64 x10] 46) = x := ⟨_, rfl⟩; have p10 : Below a10.heap.size a10 b11 := (by rw [← a11]; exact (Below.refl _ _).alloc (Nat.le_refl _) _); have h11 := Lib.hid (Below.step b13.out p10); have d10 := cell_below p10 r11; have h10 := cell_below p10 b12; have n10 := cell_below p10 m12; have i10 := cell_below p10 f12; have j10 := cell_below p10 q12; have k10 := cell_below p10 q11; have l10 := cell_below p10 r12; have o10 := cell_below p10 g12; have m10 := cell_below p10 e12; clear p10; have b10 : b11.cell? ⟨a10.heap.size, 0, none⟩ = some (.int .i64 v10) := (by rw [← a11]; exact box_new _ _ _ 0 _ rfl); have f10 : b11.cell? ⟨a10.heap.size, 1, none⟩ = some (.int .i64 t10) := (by rw [← a11]; exact box_new _ _ _ 1 _ rfl); have g10 : b11.cell? ⟨a10.heap.size, 2, none⟩ = some (.int .i64 w10) := (by rw [← a11]; exact box_new _ _ _ 2 _ rfl); have e10 : b11.cell? ⟨a10.heap.size, 3, none⟩ = some (.int .i64 x10) := (by rw [← a11]; exact box_new _ _ _ 3 _ rfl); replace H := bind_hid H; obtain ⟨t_6, qt_6, H⟩ := H; go_wp2_with fail; clear r11 b12 m12 f12 q12 q11 r12 g12 e12; go_at_call 91; refine (GsL12All.C fuel (rates) ((PCover.Cover.mk x_id x_day x_zone x_grams x_paid x_from_ x_to_ x_leave x_arrive)) A0 c0 _   (Lib.hid (Cells.below M0.out h11.out)) N0 qt_6).mono ?_; rintro o13 wt_6 ⟨At_6, ct_6, rfl, ot_6, bt_6⟩; have j14 := Lib.hid (apart_callbox ot_6 d10); have r13 := Lib.hid (apart_callbox ot_6 b10); have Ot_6 := Lib.hid (own_lower ot_6 h11.out.size); clear ot_6; have h12 := Lib.hid (Below.step h11.out bt_6); replace d10 := cell_below bt_6 d10; replace h10 := cell_below bt_6 h10; replace n10 := cell_below bt_6 n10; replace i10 := cell_below bt_6 i10; replace j10 := cell_below bt_6 j10; replace k10 := cell_below bt_6 k10; replace l10 := cell_below bt_6 l10; replace o10 := cell_below bt_6 o10; replace m10 := cell_below bt_6 m10; replace b10 := cell_below bt_6 b10; replace f10 := cell_below bt_6 f10; replace g10 := cell_below bt_6 g10; replace e10 := cell_below bt_6 e10; clear bt_6; replace H := let_hid H; obtain ⟨t_10, c12, H⟩ := H
 cases t_10 with
 | false =>
  have j13 : ¬ (t_6.length = 0) := (by have := ne_of_beq_false c12; omega); replace H := ite_f H; replace H := idx_hid H; obtain ⟨e13, p13, k13, x13, m13, H⟩ := H; obtain rfl : 0 = e13 := (by omega); clear k13; obtain ⟨i13, y12⟩ := own_some Ot_6.out (by omega); subst y12; obtain ⟨y13, a14, k14, t11, i12, w12⟩ := HelpInt.Ints.at_ (own_cells Ot_6.out) (k := 0) (by omega); obtain rfl := Option.some.inj (m13.out.symm.trans i12); simp only [Option.some.injEq, Addr.mk.injEq] at t11; obtain ⟨rfl, rfl, _⟩ := t11; clear i12; have z13 : (0 : Int) < ((t_6.length : Nat) : Int) := (by omega); have i14 : 0 < t_6.length := (by omega)
  try simp only [Nat.zero_mul, Nat.add_zero, Nat.zero_add, Nat.reduceMul] at w12
  go_wp2_with fail; go_loopg [9, 10] (fuel) (fun m_ v9_ v10_ wr => ∃ (y10 : Int) (d11 : Int), v9_ = .int .i64 y10 ∧ v10_ = .int .i64 d11 ∧ Hid (loopK (l0 v10 t10 w10 x10 t_6) m_ (y10, d11) (e0 ) = some (r0, r1)) ∧ Hid (Below w.heap.size w wr) ∧ wr.cell? ⟨w.heap.size, 0, none⟩ = some (.int .i64 x_id) ∧ wr.cell? ⟨w.heap.size, 1, none⟩ = some (.int .i64 x_day) ∧ wr.cell? ⟨w.heap.size, 2, none⟩ = some (.int .i64 x_zone) ∧ wr.cell? ⟨w.heap.size, 3, none⟩ = some (.int .i64 x_grams) ∧ wr.cell? ⟨w.heap.size, 4, none⟩ = some (.int .i64 x_paid) ∧ wr.cell? ⟨w.heap.size, 5, none⟩ = some (.int .i64 x_from_) ∧ wr.cell? ⟨w.heap.size, 6, none⟩ = some (.int .i64 x_to_) ∧ wr.cell? ⟨w.heap.size, 7, none⟩ = some (.int .i64 x_leave) ∧ wr.cell? ⟨w.heap.size, 8, none⟩ = some (.int .i64 x_arrive) ∧ wr.cell? ⟨a10.heap.size, 0, none⟩ = some (.int .i64 v10) ∧ wr.cell? ⟨a10.heap.size, 1, none⟩ = some (.int .i64 t10) ∧ wr.cell? ⟨a10.heap.size, 2, none⟩ = some (.int .i64 w10) ∧ wr.cell? ⟨a10.heap.size, 3, none⟩ = some (.int .i64 x10) ∧ Hid (wr.ownsRow w.heap.size 3 1 (.slice (some ⟨i13, 0, none⟩) t_6.length ct_6) t_6.length (HelpInt.iv t_6)))
  case atStart => exact ⟨_, _, rfl, rfl, H, h12, d10, h10, n10, i10, j10, k10, l10, o10, m10, b10, f10, g10, e10, Ot_6⟩
  case round =>
   obtain ⟨y10, d11, rfl, rfl, H, z11, d10, h10, n10, i10, j10, k10, l10, o10, m10, b10, f10, g10, e10, Ot_6⟩ := hrel; rename World => wr0
   cases gk with
   | zero => exact (loop_zero H).elim
   | succ m0 =>
    replace H := loop_succ H; unfold l0 at H; replace H := unp2_hid H; replace H := let_hid H; obtain ⟨t_21, d13, H⟩ := H
    cases t_21 with
    | false =>
     replace H := ite_f H; replace H := app_hid H; unfold e0 at H; replace H := unp2_hid H; cases ret_hid H; go_wp2_with fail; go_ret2; exact ⟨rfl, z11.out⟩
    | true =>
     replace H := ite_t H; go_wp2_with fail; have d12 := Lib.hid d10; replace d10 := cell_regrown d10; have x11 := Lib.hid h10; replace h10 := cell_regrown h10; have w11 := Lib.hid n10; replace n10 := cell_regrown n10; have k12 := Lib.hid i10; replace i10 := cell_regrown i10; have y11 := Lib.hid j10; replace j10 := cell_regrown j10; have t12 := Lib.hid k10; replace k10 := cell_regrown k10; have l12 := Lib.hid l10; replace l10 := cell_regrown l10; have v11 := Lib.hid o10; replace o10 := cell_regrown o10; have s12 := Lib.hid m10; replace m10 := cell_regrown m10; have s11 := Lib.hid b10; replace b10 := cell_regrown b10; have m11 := Lib.hid f10; replace f10 := cell_regrown f10; have p11 := Lib.hid g10; replace g10 := cell_regrown g10; have n12 := Lib.hid e10; replace e10 := cell_regrown e10; replace H := idx_hid H; obtain ⟨r10, f11, f13, b14, c11, H⟩ := H; subst f13; have v13 : r10 < t_6.length := (by have := of_decide_eq_true d13; omega); obtain ⟨q13, e14, h14, o12, a12, s10⟩ := HelpInt.Ints.at_ (own_cells Ot_6.out) (k := r10) (by omega); obtain rfl := Option.some.inj (c11.out.symm.trans a12); simp only [Option.some.injEq, Addr.mk.injEq] at o12; obtain ⟨rfl, rfl, _⟩ := o12; clear a12; simp only [Nat.zero_add] at s10; have n13 : (0 : Int) ≤ (r10 : Int) := (by omega); have t13 : (r10 : Int) < ((t_6.length : Nat) : Int) := (by omega); have f14 : ((r10 : Int)).toNat = r10 := (by omega); have p12 := Lib.hid s10; replace s10 := cell_regrown s10; replace H := bind_hid H; obtain ⟨t_27, g13, H⟩ := H; have l11 : ∀ d os, Calls Try.prog 96 #[.int .i64 f11, .agg #[.int .i64 v10, .int .i64 t10, .int .i64 w10, .int .i64 x10]] (Go.Sort.grow (redrawn wr0 d) os) fun e w'' => e = .returned (.int .i64 t_27) ∧ ∃ p : Regrown, w'' = Go.Sort.grow (redrawn wr0 p.d) p.os := fun d os => Calls.regrown_of (GsL12Cost.C (f11) ((PIntA4.IntA4.mk v10 t10 w10 x10))  _    g13); replace H := bind_hid H; obtain ⟨t_30, x12, H⟩ := H; have i11 : ∀ d os, Calls Try.prog 96 #[.int .i64 y10, .agg #[.int .i64 v10, .int .i64 t10, .int .i64 w10, .int .i64 x10]] (Go.Sort.grow (redrawn wr0 d) os) fun e w'' => e = .returned (.int .i64 t_30) ∧ ∃ p : Regrown, w'' = Go.Sort.grow (redrawn wr0 p.d) p.os := fun d os => Calls.regrown_of (GsL12Cost.C (y10) ((PIntA4.IntA4.mk v10 t10 w10 x10))  _    x12); refine wp_region_quiet_below (by kernel_rfl) (by kernel_rfl) ?_
     repeat (go_big_quiet_step (first | (go_at_call 96; with_reducible exact l11 _ _) | (go_at_call 96; with_reducible exact i11 _ _) | (go_at_call 96; exact l11 _ _) | (go_at_call 96; exact i11 _ _)))
     refine wpQuiet_nil ?_; intro Y8 hY8; replace hY8 := below_class hY8; clear l11 i11; replace d10 := d12.out; clear d12; replace h10 := x11.out; clear x11; replace n10 := w11.out; clear w11; replace i10 := k12.out; clear k12; replace j10 := y11.out; clear y11; replace k10 := t12.out; clear t12; replace l10 := l12.out; clear l12; replace o10 := v11.out; clear v11; replace m10 := s12.out; clear s12; replace b10 := s11.out; clear s11; replace f10 := m11.out; clear m11; replace g10 := p11.out; clear p11; replace e10 := n12.out; clear n12; replace s10 := p12.out; clear p12; have HBY8 := Lib.hid (Below.step z11.out hY8); replace d10 := cell_below hY8 d10; replace h10 := cell_below hY8 h10; replace n10 := cell_below hY8 n10; replace i10 := cell_below hY8 i10; replace j10 := cell_below hY8 j10; replace k10 := cell_below hY8 k10; replace l10 := cell_below hY8 l10; replace o10 := cell_below hY8 o10; replace m10 := cell_below hY8 m10; replace b10 := cell_below hY8 b10; replace f10 := cell_below hY8 f10; replace g10 := cell_below hY8 g10; replace e10 := cell_below hY8 e10; replace s10 := cell_below hY8 s10; replace Ot_6 := Lib.hid (own_below Ot_6.out hY8); clear hY8; replace H := let_hid H; obtain ⟨t_35, c14, H⟩ := H; replace H := join_hid H
     cases t_35 with
     | false =>
      replace H := ite_f H; replace H := let_hid H; obtain ⟨t_39, d14, H⟩ := H; replace H := join_hid H
      cases t_39 with
      | false =>
       replace H := ite_f H; replace H := app_hid H; replace H := app_hid H; replace H := ite_f H; replace H := let_hid H; obtain ⟨t_55, e11, H⟩ := H; replace H := app_hid H; go_wp2_with fail
       go_roundg m0
       case measure => omega
       case rel => exact ⟨_, _, rfl, rfl, H, HBY8, d10, h10, n10, i10, j10, k10, l10, o10, m10, b10, f10, g10, e10, Ot_6⟩
      | true =>
       replace H := ite_t H; replace H := idx_hid H; obtain ⟨z12, w13, h13, l13, j12, H⟩ := H; obtain rfl : r10 = z12 := (by omega); clear h13; obtain rfl := Option.some.inj (c11.out.symm.trans j12.out); clear j12 l13; replace H := bind_hid H; obtain ⟨t_46, v12, H⟩ := H; go_wp2_with fail; go_at_call 169; refine (GsL12Smaller.C (f11) (y10)  _    v12).mono ?_; rintro s13 g14 ⟨rfl, c10⟩; have o11 := Lib.hid (Below.step HBY8.out c10); replace d10 := cell_below c10 d10; replace h10 := cell_below c10 h10; replace n10 := cell_below c10 n10; replace i10 := cell_below c10 i10; replace j10 := cell_below c10 j10; replace k10 := cell_below c10 k10; replace l10 := cell_below c10 l10; replace o10 := cell_below c10 o10; replace m10 := cell_below c10 m10; replace b10 := cell_below c10 b10; replace f10 := cell_below c10 f10; replace g10 := cell_below c10 g10; replace e10 := cell_below c10 e10; replace s10 := cell_below c10 s10; replace Ot_6 := Lib.hid (own_below Ot_6.out c10); clear c10; replace H := app_hid H; replace H := app_hid H
       cases t_46 with
       | false =>
        replace H := ite_f H; replace H := let_hid H; obtain ⟨t_55, e11, H⟩ := H; replace H := app_hid H; go_wp2_with fail
        go_roundg m0
        case measure => omega
        case rel => exact ⟨_, _, rfl, rfl, H, o11, d10, h10, n10, i10, j10, k10, l10, o10, m10, b10, f10, g10, e10, Ot_6⟩
       | true =>
        replace H := ite_t H; replace H := idx_hid H; obtain ⟨j11, a13, g11, k11, z10, H⟩ := H; obtain rfl : r10 = j11 := (by omega); clear g11; obtain rfl := Option.some.inj (c11.out.symm.trans z10.out); clear z10 k11; replace H := let_hid H; obtain ⟨t_55, e11, H⟩ := H; replace H := app_hid H; go_wp2_with fail
        go_roundg m0
        case measure => omega
        case rel => exact ⟨_, _, rfl, rfl, H, o11, d10, h10, n10, i10, j10, k10, l10, o10, m10, b10, f10, g10, e10, Ot_6⟩
     | true =>
      replace H := ite_t H; replace H := app_hid H; replace H := ite_t H; replace H := idx_hid H; obtain ⟨j11, a13, g11, k11, z10, H⟩ := H; obtain rfl : r10 = j11 := (by omega); clear g11; obtain rfl := Option.some.inj (c11.out.symm.trans z10.out); clear z10 k11; replace H := let_hid H; obtain ⟨t_55, e11, H⟩ := H; replace H := app_hid H; go_wp2_with fail
      go_roundg m0
      case measure => omega
      case rel => exact ⟨_, _, rfl, rfl, H, HBY8, d10, h10, n10, i10, j10, k10, l10, o10, m10, b10, f10, g10, e10, Ot_6⟩
 | true =>
  have c13 : Hid (t_6.length = 0) := Lib.hid (by have := eq_of_beq c12; omega); have j13 : (t_6.length == 0) = true := beq_iff_eq.2 c13.out; replace H := ite_t H; cases ret_hid H; go_wp2_with fail; go_ret2; exact ⟨rfl, h12.out⟩
end Go.Proofs.Ytihibckijdfidaa.GsL12Best

