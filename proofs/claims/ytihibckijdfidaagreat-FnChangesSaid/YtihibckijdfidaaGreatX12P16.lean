/- Texts on which the proofs of several laws stand, one behind the other (16 of 17). No condition of their own. -/
import Derived.Test.YtihibckijdfidaaGreatChecked
import Derived.Test.YtihibckijdfidaaGreatX12P1
import Derived.Test.YtihibckijdfidaaGreatX12P9
import Derived.Test.YtihibckijdfidaaGreatX12P5
import Derived.Test.YtihibckijdfidaaGreatX12P11
import Derived.WalkKit
import Derived.WalkSpells
import Derived.WalkLawsBesides
import Derived.BigQuiet
import Derived.OwnWalk
import Derived.Deep.LoopGhost
import Derived.Deep.QuietTactic
import Derived.IntWalk
import Derived.Lib.QuietBelow
import Derived.Test.YtihibckijdfidaaGreatX12P15
import Derived.Test.YtihibckijdfidaaGreatX12P12
import Derived.Test.YtihibckijdfidaaGreatX12P13
import Derived.Test.YtihibckijdfidaaGreatX12P2
import Derived.Test.YtihibckijdfidaaGreatX12P3
import Derived.Test.YtihibckijdfidaaGreatX12P4
set_option linter.unusedVariables false
set_option linter.unusedSimpArgs false
namespace Go.Proofs.YtihibckijdfidaaGreat.GsMakeCover
open Go.RowKit
open Go.Proofs.YtihibckijdfidaaGreat.Rowed Go.Proofs.YtihibckijdfidaaGreat.Turn Go.Proofs.YtihibckijdfidaaGreat.Aid Go.Proofs.YtihibckijdfidaaGreat.GoP Go.Proofs.YtihibckijdfidaaGreat.GoM

def P (fuel : Nat) (rates : (List PRate.Rate)) (x : PCover.Cover) (change : Int) : Option (PCover.Cover × Bool) :=
 unCover x fun (x_id : Int) (x_day : Int) (x_zone : Int) (x_grams : Int) (x_paid : Int) (x_from_ : Int) (x_to_ : Int) (x_leave : Int) (x_arrive : Int) =>
 Option.bind (GsL8Good.P fuel rates) fun (t_4 : Bool) =>
 letK (!t_4) fun (t_5 : Bool) =>
 joinK (fun (t_10 : Bool) =>
 joinK (fun (t_15 : Bool) =>
 iteK t_15
 (some ((PCover.Cover.mk 0 0 0 0 0 0 0 0 0), false))
 (bind2 (GsL12Make.P fuel rates (PCover.Cover.mk x_id x_day x_zone x_grams x_paid x_from_ x_to_ x_leave x_arrive) change) fun (t_22a : PCover.Cover) (t_22b : Bool) =>
 unCover t_22a fun (t_22a_id : Int) (t_22a_day : Int) (t_22a_zone : Int) (t_22a_grams : Int) (t_22a_paid : Int) (t_22a_from_ : Int) (t_22a_to_ : Int) (t_22a_leave : Int) (t_22a_arrive : Int) =>
 some ((PCover.Cover.mk t_22a_id t_22a_day t_22a_zone t_22a_grams t_22a_paid t_22a_from_ t_22a_to_ t_22a_leave t_22a_arrive), t_22b))) fun jt_15 => iteK t_10 (appK jt_15 true) (Option.bind (GsL1In.P change 0 15) fun (t_13 : Bool) =>
 letK (!t_13) fun (t_14 : Bool) =>
 appK jt_15 t_14)) fun jt_10 => iteK t_5 (appK jt_10 true) (Option.bind (GsL10One.P (PCover.Cover.mk x_id x_day x_zone x_grams x_paid x_from_ x_to_ x_leave x_arrive)) fun (t_8 : Bool) =>
 letK (!t_8) fun (t_9 : Bool) =>
 appK jt_10 t_9)

set_option maxRecDepth 100000 in
set_option maxHeartbeats 2000000 in
theorem C (fuel : Nat) (rates : (List PRate.Rate)) (x : PCover.Cover) (change : Int) (A0 : Option Addr) (c0 : Nat)  (w : World) (M0 : Hid (Cells w 5 A0 rates.length (PRate.flat rates))) (N0 : Hid (rates.length ≤ 9223372036854775807))  {r0 : PCover.Cover} {r1 : Bool} (H : Hid (P fuel rates x change = some (r0, r1))) :
  Calls Tryz.prog 20 #[.slice A0 rates.length c0, x.val, .int .i64 change] w (Gives (.tuple #[(PCover.Cover.val r0), .bool r1]) w) := by
 have HB := Lib.hid (Below.refl w.heap.size w); unfold P at H; obtain ⟨x_id, x_day, x_zone, x_grams, x_paid, x_from_, x_to_, x_leave, x_arrive⟩ := x; replace H := unCover_hid H; unfold PCover.Cover.val; have N0o := N0.out
 go_enter Tryz.func20, Tryz.ntmps20
 obtain ⟨a10, c11⟩ : ∃ x, w.alloc (.cells #[.int .i64 x_id, .int .i64 x_day, .int .i64 x_zone, .int .i64 x_grams, .int .i64 x_paid, .int .i64 x_from_, .int .i64 x_to_, .int .i64 x_leave, .int .i64 x_arrive] 26) = x := ⟨_, rfl⟩; have x12 : Below w.heap.size w a10 := (by rw [← c11]; exact (Below.refl _ _).alloc (Nat.le_refl _) _); have g12 := Lib.hid (Below.step HB.out x12); clear x12; have b12 : a10.cell? ⟨w.heap.size, 0, none⟩ = some (.int .i64 x_id) := (by rw [← c11]; exact box_new _ _ _ 0 _ rfl); have h12 : a10.cell? ⟨w.heap.size, 1, none⟩ = some (.int .i64 x_day) := (by rw [← c11]; exact box_new _ _ _ 1 _ rfl); have f12 : a10.cell? ⟨w.heap.size, 2, none⟩ = some (.int .i64 x_zone) := (by rw [← c11]; exact box_new _ _ _ 2 _ rfl); have y12 : a10.cell? ⟨w.heap.size, 3, none⟩ = some (.int .i64 x_grams) := (by rw [← c11]; exact box_new _ _ _ 3 _ rfl); have j12 : a10.cell? ⟨w.heap.size, 4, none⟩ = some (.int .i64 x_paid) := (by rw [← c11]; exact box_new _ _ _ 4 _ rfl); have n12 : a10.cell? ⟨w.heap.size, 5, none⟩ = some (.int .i64 x_from_) := (by rw [← c11]; exact box_new _ _ _ 5 _ rfl); have p12 : a10.cell? ⟨w.heap.size, 6, none⟩ = some (.int .i64 x_to_) := (by rw [← c11]; exact box_new _ _ _ 6 _ rfl); have w12 : a10.cell? ⟨w.heap.size, 7, none⟩ = some (.int .i64 x_leave) := (by rw [← c11]; exact box_new _ _ _ 7 _ rfl); have b13 : a10.cell? ⟨w.heap.size, 8, none⟩ = some (.int .i64 x_arrive) := (by rw [← c11]; exact box_new _ _ _ 8 _ rfl); obtain ⟨z10, y10⟩ : ∃ x, a10.alloc (.cells #[.int .i64 0, .int .i64 0, .int .i64 0, .int .i64 0, .int .i64 0, .int .i64 0, .int .i64 0, .int .i64 0, .int .i64 0] 26) = x := ⟨_, rfl⟩; have w10 : Below a10.heap.size a10 z10 := (by rw [← y10]; exact (Below.refl _ _).alloc (Nat.le_refl _) _); have b10 := Lib.hid (apart_box b12); have t12 := Lib.hid (Below.step g12.out w10); have m10 := cell_below w10 b12; have t10 := cell_below w10 h12; have k10 := cell_below w10 f12; have r10 := cell_below w10 y12; have n10 := cell_below w10 j12; have o10 := cell_below w10 n12; have l10 := cell_below w10 p12; have s10 := cell_below w10 w12; have p10 := cell_below w10 b13; clear w10; have b11 : z10.cell? ⟨a10.heap.size, 0, none⟩ = some (.int .i64 0) := (by rw [← y10]; exact box_new _ _ _ 0 _ rfl); have m11 : z10.cell? ⟨a10.heap.size, 1, none⟩ = some (.int .i64 0) := (by rw [← y10]; exact box_new _ _ _ 1 _ rfl); have l11 : z10.cell? ⟨a10.heap.size, 2, none⟩ = some (.int .i64 0) := (by rw [← y10]; exact box_new _ _ _ 2 _ rfl); have h11 : z10.cell? ⟨a10.heap.size, 3, none⟩ = some (.int .i64 0) := (by rw [← y10]; exact box_new _ _ _ 3 _ rfl); have f11 : z10.cell? ⟨a10.heap.size, 4, none⟩ = some (.int .i64 0) := (by rw [← y10]; exact box_new _ _ _ 4 _ rfl); have k11 : z10.cell? ⟨a10.heap.size, 5, none⟩ = some (.int .i64 0) := (by rw [← y10]; exact box_new _ _ _ 5 _ rfl); have e11 : z10.cell? ⟨a10.heap.size, 6, none⟩ = some (.int .i64 0) := (by rw [← y10]; exact box_new _ _ _ 6 _ rfl); have i11 : z10.cell? ⟨a10.heap.size, 7, none⟩ = some (.int .i64 0) := (by rw [← y10]; exact box_new _ _ _ 7 _ rfl); have d11 : z10.cell? ⟨a10.heap.size, 8, none⟩ = some (.int .i64 0) := (by rw [← y10]; exact box_new _ _ _ 8 _ rfl); have Ot_1 : Hid (z10.ownsRow w.heap.size 26 9 (.slice (some ⟨a10.heap.size, 0, none⟩) 1 1) 1 [.int .i64 0, .int .i64 0, .int .i64 0, .int .i64 0, .int .i64 0, .int .i64 0, .int .i64 0, .int .i64 0, .int .i64 0]) := Lib.hid (by rw [← y10]; exact own_laid (n := 1) g12.out.size rfl rfl (by unfold maxLen; omega)); replace H := bind_hid H; obtain ⟨t_4, qt_4, H⟩ := H; go_wp2_with fail; clear b12 h12 f12 y12 j12 n12 p12 w12 b13; go_at_call 34; refine (GsL8Good.C fuel (rates) A0 c0 _   (Lib.hid (Cells.below M0.out t12.out)) N0 qt_4).mono ?_; rintro r16 wt_4 ⟨rfl, bt_4⟩; have e12 := Lib.hid (Below.step t12.out bt_4); replace m10 := cell_below bt_4 m10; replace t10 := cell_below bt_4 t10
 replace k10 := cell_below bt_4 k10; replace r10 := cell_below bt_4 r10; replace n10 := cell_below bt_4 n10; replace o10 := cell_below bt_4 o10; replace l10 := cell_below bt_4 l10; replace s10 := cell_below bt_4 s10; replace p10 := cell_below bt_4 p10; replace b11 := cell_below bt_4 b11; replace m11 := cell_below bt_4 m11; replace l11 := cell_below bt_4 l11; replace h11 := cell_below bt_4 h11; replace f11 := cell_below bt_4 f11; replace k11 := cell_below bt_4 k11; replace e11 := cell_below bt_4 e11; replace i11 := cell_below bt_4 i11; replace d11 := cell_below bt_4 d11; replace Ot_1 := Lib.hid (own_below Ot_1.out bt_4); clear bt_4
 cases t_4 with
 | false =>
  replace H := let_hid H; obtain ⟨t_5, ht_5, H⟩ := H; obtain rfl : t_5 = true := ht_5.symm; replace H := join_hid H; replace H := ite_t H; replace H := app_hid H; replace H := join_hid H; replace H := ite_t H; replace H := app_hid H; replace H := ite_t H; obtain ⟨d10, n11⟩ : ∃ x, (((((((((wt_4).setCell ⟨a10.heap.size, 0, none⟩ (.int .i64 0)).setCell ⟨a10.heap.size, 1, none⟩ (.int .i64 0)).setCell ⟨a10.heap.size, 2, none⟩ (.int .i64 0)).setCell ⟨a10.heap.size, 3, none⟩ (.int .i64 0)).setCell ⟨a10.heap.size, 4, none⟩ (.int .i64 0)).setCell ⟨a10.heap.size, 5, none⟩ (.int .i64 0)).setCell ⟨a10.heap.size, 6, none⟩ (.int .i64 0)).setCell ⟨a10.heap.size, 7, none⟩ (.int .i64 0)).setCell ⟨a10.heap.size, 8, none⟩ (.int .i64 0) = x := ⟨_, rfl⟩; have m12 := Ot_1.out.frozenAt 0; have v12 := Ot_1.out.frozenAt 1; have s12 := Ot_1.out.frozenAt 2; have z12 := Ot_1.out.frozenAt 3; have i12 := Ot_1.out.frozenAt 4; have a13 := Ot_1.out.frozenAt 5; have o12 := Ot_1.out.frozenAt 6; have c13 := Ot_1.out.frozenAt 7; have k12 := Ot_1.out.frozenAt 8; have v10 := Lib.hid (own_stores [(0, .int .i64 0), (1, .int .i64 0), (2, .int .i64 0), (3, .int .i64 0), (4, .int .i64 0), (5, .int .i64 0), (6, .int .i64 0), (7, .int .i64 0), (8, .int .i64 0)] Ot_1.out); have e10 : Hid (d10.ownsRow w.heap.size 26 9 (.slice (some ⟨a10.heap.size, 0, none⟩) 1 1) 1 [.int .i64 0, .int .i64 0, .int .i64 0, .int .i64 0, .int .i64 0, .int .i64 0, .int .i64 0, .int .i64 0, .int .i64 0]) := Lib.hid (by rw [← n11]; exact v10.out.1); have c10 : Hid (wt_4.grownBy d10 (Value.slice (some ⟨a10.heap.size, 0, none⟩) 1 1).ownBlock) := Lib.hid (by rw [← n11]; exact v10.out.2); have y11 := Lib.hid (e12.out.grown c10.out e12.out.size (fun q hq => (Ot_1.out.lt q hq).1)); clear v10; have x16 := cell_other m10 c10.out b10.out; have s16 := cell_other t10 c10.out b10.out; have h17 := cell_other k10 c10.out b10.out; have z15 := cell_other r10 c10.out b10.out; have t16 := cell_other n10 c10.out b10.out; have n16 := cell_other o10 c10.out b10.out; have h16 := cell_other l10 c10.out b10.out; have c18 := cell_other s10 c10.out b10.out; have e17 := cell_other p10 c10.out b10.out; clear Ot_1 c10; have j13 : d10.cell? ⟨a10.heap.size, 0, none⟩ = some (.int .i64 0) := e10.out.cells rfl 0 _ rfl; have h15 : d10.cell? ⟨a10.heap.size, 1, none⟩ = some (.int .i64 0) := e10.out.cells rfl 1 _ rfl; have d14 : d10.cell? ⟨a10.heap.size, 2, none⟩ = some (.int .i64 0) := e10.out.cells rfl 2 _ rfl; have x14 : d10.cell? ⟨a10.heap.size, 3, none⟩ = some (.int .i64 0) := e10.out.cells rfl 3 _ rfl; have g13 : d10.cell? ⟨a10.heap.size, 4, none⟩ = some (.int .i64 0) := e10.out.cells rfl 4 _ rfl; have i13 : d10.cell? ⟨a10.heap.size, 5, none⟩ = some (.int .i64 0) := e10.out.cells rfl 5 _ rfl; have q14 : d10.cell? ⟨a10.heap.size, 6, none⟩ = some (.int .i64 0) := e10.out.cells rfl 6 _ rfl; have l15 : d10.cell? ⟨a10.heap.size, 7, none⟩ = some (.int .i64 0) := e10.out.cells rfl 7 _ rfl; have g15 : d10.cell? ⟨a10.heap.size, 8, none⟩ = some (.int .i64 0) := e10.out.cells rfl 8 _ rfl; have hR_ := ret_hid H; simp only [Prod.mk.injEq] at hR_; obtain ⟨rfl, rfl⟩ := hR_; go_wp2_with fail
  (try simp only [Exit.inBlock, Exit.then])
  refine bodyPost_ret (v := .tuple #[.agg #[.int .i64 0, .int .i64 0, .int .i64 0, .int .i64 0, .int .i64 0, .int .i64 0, .int .i64 0, .int .i64 0, .int .i64 0], .bool false]) ?hr_ ?hd_ ?_
  case hd_ => rfl
  case hr_ => simp [results, Tryz.results20, j13, h15, d14, x14, g13, i13, q14, l15, g15, go_sem]
  exact ⟨rfl, y11.out⟩
 | true =>
  replace H := let_hid H; obtain ⟨t_5, ht_5, H⟩ := H; obtain rfl : t_5 = false := ht_5.symm; replace H := join_hid H; replace H := ite_f H; replace H := bind_hid H; obtain ⟨t_8, qt_8, H⟩ := H; go_wp2_with fail; go_at_call 35; refine (GsL10One.C ((PCover.Cover.mk x_id x_day x_zone x_grams x_paid x_from_ x_to_ x_leave x_arrive))  _    qt_8).mono ?_; rintro r15 wt_8 ⟨rfl, bt_8⟩; have a12 := Lib.hid (Below.step e12.out bt_8); replace m10 := cell_below bt_8 m10; replace t10 := cell_below bt_8 t10; replace k10 := cell_below bt_8 k10; replace r10 := cell_below bt_8 r10; replace n10 := cell_below bt_8 n10; replace o10 := cell_below bt_8 o10; replace l10 := cell_below bt_8 l10; replace s10 := cell_below bt_8 s10; replace p10 := cell_below bt_8 p10; replace b11 := cell_below bt_8 b11; replace m11 := cell_below bt_8 m11; replace l11 := cell_below bt_8 l11; replace h11 := cell_below bt_8 h11; replace f11 := cell_below bt_8 f11; replace k11 := cell_below bt_8 k11; replace e11 := cell_below bt_8 e11; replace i11 := cell_below bt_8 i11; replace d11 := cell_below bt_8 d11; replace Ot_1 := Lib.hid (own_below Ot_1.out bt_8); clear bt_8
  cases t_8 with
  | false =>
   replace H := let_hid H; obtain ⟨t_9, ht_9, H⟩ := H; obtain rfl : t_9 = true := ht_9.symm; replace H := app_hid H; replace H := join_hid H; replace H := ite_t H; replace H := app_hid H; replace H := ite_t H; obtain ⟨d10, n11⟩ : ∃ x, (((((((((wt_8).setCell ⟨a10.heap.size, 0, none⟩ (.int .i64 0)).setCell ⟨a10.heap.size, 1, none⟩ (.int .i64 0)).setCell ⟨a10.heap.size, 2, none⟩ (.int .i64 0)).setCell ⟨a10.heap.size, 3, none⟩ (.int .i64 0)).setCell ⟨a10.heap.size, 4, none⟩ (.int .i64 0)).setCell ⟨a10.heap.size, 5, none⟩ (.int .i64 0)).setCell ⟨a10.heap.size, 6, none⟩ (.int .i64 0)).setCell ⟨a10.heap.size, 7, none⟩ (.int .i64 0)).setCell ⟨a10.heap.size, 8, none⟩ (.int .i64 0) = x := ⟨_, rfl⟩; have m12 := Ot_1.out.frozenAt 0; have v12 := Ot_1.out.frozenAt 1; have s12 := Ot_1.out.frozenAt 2; have z12 := Ot_1.out.frozenAt 3; have i12 := Ot_1.out.frozenAt 4; have a13 := Ot_1.out.frozenAt 5; have o12 := Ot_1.out.frozenAt 6; have c13 := Ot_1.out.frozenAt 7; have k12 := Ot_1.out.frozenAt 8; have v10 := Lib.hid (own_stores [(0, .int .i64 0), (1, .int .i64 0), (2, .int .i64 0), (3, .int .i64 0), (4, .int .i64 0), (5, .int .i64 0), (6, .int .i64 0), (7, .int .i64 0), (8, .int .i64 0)] Ot_1.out); have e10 : Hid (d10.ownsRow w.heap.size 26 9 (.slice (some ⟨a10.heap.size, 0, none⟩) 1 1) 1 [.int .i64 0, .int .i64 0, .int .i64 0, .int .i64 0, .int .i64 0, .int .i64 0, .int .i64 0, .int .i64 0, .int .i64 0]) := Lib.hid (by rw [← n11]; exact v10.out.1); have c10 : Hid (wt_8.grownBy d10 (Value.slice (some ⟨a10.heap.size, 0, none⟩) 1 1).ownBlock) := Lib.hid (by rw [← n11]; exact v10.out.2); have y11 := Lib.hid (a12.out.grown c10.out a12.out.size (fun q hq => (Ot_1.out.lt q hq).1)); clear v10; have m17 := cell_other m10 c10.out b10.out; have n15 := cell_other t10 c10.out b10.out; have c17 := cell_other k10 c10.out b10.out; have g16 := cell_other r10 c10.out b10.out; have e18 := cell_other n10 c10.out b10.out; have y15 := cell_other o10 c10.out b10.out; have n17 := cell_other l10 c10.out b10.out; have i16 := cell_other s10 c10.out b10.out; have g17 := cell_other p10 c10.out b10.out; clear Ot_1 c10; have r14 : d10.cell? ⟨a10.heap.size, 0, none⟩ = some (.int .i64 0) := e10.out.cells rfl 0 _ rfl; have c15 : d10.cell? ⟨a10.heap.size, 1, none⟩ = some (.int .i64 0) := e10.out.cells rfl 1 _ rfl; have w14 : d10.cell? ⟨a10.heap.size, 2, none⟩ = some (.int .i64 0) := e10.out.cells rfl 2 _ rfl; have k13 : d10.cell? ⟨a10.heap.size, 3, none⟩ = some (.int .i64 0) := e10.out.cells rfl 3 _ rfl; have w13 : d10.cell? ⟨a10.heap.size, 4, none⟩ = some (.int .i64 0) := e10.out.cells rfl 4 _ rfl; have d13 : d10.cell? ⟨a10.heap.size, 5, none⟩ = some (.int .i64 0) := e10.out.cells rfl 5 _ rfl; have j14 : d10.cell? ⟨a10.heap.size, 6, none⟩ = some (.int .i64 0) := e10.out.cells rfl 6 _ rfl; have c14 : d10.cell? ⟨a10.heap.size, 7, none⟩ = some (.int .i64 0) := e10.out.cells rfl 7 _ rfl; have n14 : d10.cell? ⟨a10.heap.size, 8, none⟩ = some (.int .i64 0) := e10.out.cells rfl 8 _ rfl; have hR_ := ret_hid H; simp only [Prod.mk.injEq] at hR_; obtain ⟨rfl, rfl⟩ := hR_; go_wp2_with fail
   (try simp only [Exit.inBlock, Exit.then])
   refine bodyPost_ret (v := .tuple #[.agg #[.int .i64 0, .int .i64 0, .int .i64 0, .int .i64 0, .int .i64 0, .int .i64 0, .int .i64 0, .int .i64 0, .int .i64 0], .bool false]) ?hr_ ?hd_ ?_
   case hd_ => rfl
   case hr_ => simp [results, Tryz.results20, r14, c15, w14, k13, w13, d13, j14, c14, n14, go_sem]
   exact ⟨rfl, y11.out⟩
  | true =>
   replace H := let_hid H; obtain ⟨t_9, ht_9, H⟩ := H; obtain rfl : t_9 = false := ht_9.symm; replace H := app_hid H; replace H := join_hid H; replace H := ite_f H; replace H := bind_hid H; obtain ⟨t_13, l13, H⟩ := H; go_wp2_with fail; go_at_call 52; refine (GsL1In.C (change) (0) (15)  _    l13).mono ?_; rintro l17 q12 ⟨rfl, f10⟩; have z11 := Lib.hid (Below.step a12.out f10); replace m10 := cell_below f10 m10; replace t10 := cell_below f10 t10; replace k10 := cell_below f10 k10; replace r10 := cell_below f10 r10; replace n10 := cell_below f10 n10; replace o10 := cell_below f10 o10; replace l10 := cell_below f10 l10; replace s10 := cell_below f10 s10; replace p10 := cell_below f10 p10; replace b11 := cell_below f10 b11; replace m11 := cell_below f10 m11; replace l11 := cell_below f10 l11; replace h11 := cell_below f10 h11; replace f11 := cell_below f10 f11; replace k11 := cell_below f10 k11; replace e11 := cell_below f10 e11; replace i11 := cell_below f10 i11; replace d11 := cell_below f10 d11; replace Ot_1 := Lib.hid (own_below Ot_1.out f10); clear f10
   cases t_13 with
   | false =>
    replace H := let_hid H; obtain ⟨t_14, c12, H⟩ := H; obtain rfl : t_14 = true := c12.symm; replace H := app_hid H; replace H := ite_t H; obtain ⟨d10, n11⟩ : ∃ x, (((((((((q12).setCell ⟨a10.heap.size, 0, none⟩ (.int .i64 0)).setCell ⟨a10.heap.size, 1, none⟩ (.int .i64 0)).setCell ⟨a10.heap.size, 2, none⟩ (.int .i64 0)).setCell ⟨a10.heap.size, 3, none⟩ (.int .i64 0)).setCell ⟨a10.heap.size, 4, none⟩ (.int .i64 0)).setCell ⟨a10.heap.size, 5, none⟩ (.int .i64 0)).setCell ⟨a10.heap.size, 6, none⟩ (.int .i64 0)).setCell ⟨a10.heap.size, 7, none⟩ (.int .i64 0)).setCell ⟨a10.heap.size, 8, none⟩ (.int .i64 0) = x := ⟨_, rfl⟩; have m12 := Ot_1.out.frozenAt 0; have v12 := Ot_1.out.frozenAt 1; have s12 := Ot_1.out.frozenAt 2; have z12 := Ot_1.out.frozenAt 3; have i12 := Ot_1.out.frozenAt 4; have a13 := Ot_1.out.frozenAt 5; have o12 := Ot_1.out.frozenAt 6; have c13 := Ot_1.out.frozenAt 7; have k12 := Ot_1.out.frozenAt 8; have v10 := Lib.hid (own_stores [(0, .int .i64 0), (1, .int .i64 0), (2, .int .i64 0), (3, .int .i64 0), (4, .int .i64 0), (5, .int .i64 0), (6, .int .i64 0), (7, .int .i64 0), (8, .int .i64 0)] Ot_1.out); have e10 : Hid (d10.ownsRow w.heap.size 26 9 (.slice (some ⟨a10.heap.size, 0, none⟩) 1 1) 1 [.int .i64 0, .int .i64 0, .int .i64 0, .int .i64 0, .int .i64 0, .int .i64 0, .int .i64 0, .int .i64 0, .int .i64 0]) := Lib.hid (by rw [← n11]; exact v10.out.1); have c10 : Hid (q12.grownBy d10 (Value.slice (some ⟨a10.heap.size, 0, none⟩) 1 1).ownBlock) := Lib.hid (by rw [← n11]; exact v10.out.2); have y11 := Lib.hid (z11.out.grown c10.out z11.out.size (fun q hq => (Ot_1.out.lt q hq).1)); clear v10; have j16 := cell_other m10 c10.out b10.out; have o16 := cell_other t10 c10.out b10.out; have m16 := cell_other k10 c10.out b10.out; have z16 := cell_other r10 c10.out b10.out; have f17 := cell_other n10 c10.out b10.out; have x17 := cell_other o10 c10.out b10.out; have j17 := cell_other l10 c10.out b10.out; have d16 := cell_other s10 c10.out b10.out; have w17 := cell_other p10 c10.out b10.out; clear Ot_1 c10; have p13 : d10.cell? ⟨a10.heap.size, 0, none⟩ = some (.int .i64 0) := e10.out.cells rfl 0 _ rfl; have r13 : d10.cell? ⟨a10.heap.size, 1, none⟩ = some (.int .i64 0) := e10.out.cells rfl 1 _ rfl; have k14 : d10.cell? ⟨a10.heap.size, 2, none⟩ = some (.int .i64 0) := e10.out.cells rfl 2 _ rfl; have f13 : d10.cell? ⟨a10.heap.size, 3, none⟩ = some (.int .i64 0) := e10.out.cells rfl 3 _ rfl; have o13 : d10.cell? ⟨a10.heap.size, 4, none⟩ = some (.int .i64 0) := e10.out.cells rfl 4 _ rfl; have k15 : d10.cell? ⟨a10.heap.size, 5, none⟩ = some (.int .i64 0) := e10.out.cells rfl 5 _ rfl; have l14 : d10.cell? ⟨a10.heap.size, 6, none⟩ = some (.int .i64 0) := e10.out.cells rfl 6 _ rfl; have h14 : d10.cell? ⟨a10.heap.size, 7, none⟩ = some (.int .i64 0) := e10.out.cells rfl 7 _ rfl; have s14 : d10.cell? ⟨a10.heap.size, 8, none⟩ = some (.int .i64 0) := e10.out.cells rfl 8 _ rfl; have hR_ := ret_hid H; simp only [Prod.mk.injEq] at hR_; obtain ⟨rfl, rfl⟩ := hR_; go_wp2_with fail
    (try simp only [Exit.inBlock, Exit.then])
    refine bodyPost_ret (v := .tuple #[.agg #[.int .i64 0, .int .i64 0, .int .i64 0, .int .i64 0, .int .i64 0, .int .i64 0, .int .i64 0, .int .i64 0, .int .i64 0], .bool false]) ?hr_ ?hd_ ?_
    case hd_ => rfl
    case hr_ => simp [results, Tryz.results20, p13, r13, k14, f13, o13, k15, l14, h14, s14, go_sem]
    exact ⟨rfl, y11.out⟩
   | true =>
    replace H := let_hid H; obtain ⟨t_14, c12, H⟩ := H; obtain rfl : t_14 = false := c12.symm; replace H := app_hid H; replace H := ite_f H; replace H := bind2_hid H; obtain ⟨o14, t14, m15, H⟩ := H; obtain ⟨p11, s11, r11, o11, t11, q11, w11, x11, v11⟩ := o14; replace H := unCover_hid H; go_wp2_with fail; go_at_call 37; refine (GsL12Make.C fuel (rates) ((PCover.Cover.mk x_id x_day x_zone x_grams x_paid x_from_ x_to_ x_leave x_arrive)) (change) A0 c0 _   (Lib.hid (Cells.below M0.out z11.out)) N0 m15).mono ?_; rintro c16 q10 ⟨rfl, g10⟩; unfold PCover.Cover.val; have n13 := Lib.hid (Below.step z11.out g10); replace m10 := cell_below g10 m10; replace t10 := cell_below g10 t10; replace k10 := cell_below g10 k10; replace r10 := cell_below g10 r10; replace n10 := cell_below g10 n10; replace o10 := cell_below g10 o10; replace l10 := cell_below g10 l10; replace s10 := cell_below g10 s10; replace p10 := cell_below g10 p10; replace b11 := cell_below g10 b11; replace m11 := cell_below g10 m11; replace l11 := cell_below g10 l11; replace h11 := cell_below g10 h11; replace f11 := cell_below g10 f11; replace k11 := cell_below g10 k11; replace e11 := cell_below g10 e11; replace i11 := cell_below g10 i11; replace d11 := cell_below g10 d11; replace Ot_1 := Lib.hid (own_below Ot_1.out g10); clear g10; obtain ⟨j10, a11⟩ : ∃ x, q10.alloc (.cells #[.int .i64 p11, .int .i64 s11, .int .i64 r11, .int .i64 o11, .int .i64 t11, .int .i64 q11, .int .i64 w11, .int .i64 x11, .int .i64 v11] 26) = x := ⟨_, rfl⟩; have h10 : Below q10.heap.size q10 j10 := (by rw [← a11]; exact (Below.refl _ _).alloc (Nat.le_refl _) _); have j11 := Lib.hid (apart_box b11); have l12 := Lib.hid (Below.step n13.out h10); have v13 := cell_below h10 m10; have p14 := cell_below h10 t10; have d15 := cell_below h10 k10; have x13 := cell_below h10 r10; have z14 := cell_below h10 n10; have y14 := cell_below h10 o10; have b15 := cell_below h10 l10; have y13 := cell_below h10 s10; have m14 := cell_below h10 p10; have d17 := cell_below h10 b11; have q17 := cell_below h10 m11; have r17 := cell_below h10 l11; have o17 := cell_below h10 h11; have s17 := cell_below h10 f11; have p17 := cell_below h10 k11; have a18 := cell_below h10 e11; have d18 := cell_below h10 i11; have k16 := cell_below h10 d11; replace Ot_1 := Lib.hid (own_below Ot_1.out h10); clear h10; have e15 : j10.cell? ⟨q10.heap.size, 0, none⟩ = some (.int .i64 p11) := (by rw [← a11]; exact box_new _ _ _ 0 _ rfl); have s13 : j10.cell? ⟨q10.heap.size, 1, none⟩ = some (.int .i64 s11) := (by rw [← a11]; exact box_new _ _ _ 1 _ rfl); have z13 : j10.cell? ⟨q10.heap.size, 2, none⟩ = some (.int .i64 r11) := (by rw [← a11]; exact box_new _ _ _ 2 _ rfl); have h13 : j10.cell? ⟨q10.heap.size, 3, none⟩ = some (.int .i64 o11) := (by rw [← a11]; exact box_new _ _ _ 3 _ rfl); have g14 : j10.cell? ⟨q10.heap.size, 4, none⟩ = some (.int .i64 t11) := (by rw [← a11]; exact box_new _ _ _ 4 _ rfl); have i14 : j10.cell? ⟨q10.heap.size, 5, none⟩ = some (.int .i64 q11) := (by rw [← a11]; exact box_new _ _ _ 5 _ rfl); have e14 : j10.cell? ⟨q10.heap.size, 6, none⟩ = some (.int .i64 w11) := (by rw [← a11]; exact box_new _ _ _ 6 _ rfl); have a15 : j10.cell? ⟨q10.heap.size, 7, none⟩ = some (.int .i64 x11) := (by rw [← a11]; exact box_new _ _ _ 7 _ rfl); have b14 : j10.cell? ⟨q10.heap.size, 8, none⟩ = some (.int .i64 v11) := (by rw [← a11]; exact box_new _ _ _ 8 _ rfl); obtain ⟨x10, r12⟩ : ∃ x, (((((((((j10).setCell ⟨a10.heap.size, 0, none⟩ (.int .i64 p11)).setCell ⟨a10.heap.size, 1, none⟩ (.int .i64 s11)).setCell ⟨a10.heap.size, 2, none⟩ (.int .i64 r11)).setCell ⟨a10.heap.size, 3, none⟩ (.int .i64 o11)).setCell ⟨a10.heap.size, 4, none⟩ (.int .i64 t11)).setCell ⟨a10.heap.size, 5, none⟩ (.int .i64 q11)).setCell ⟨a10.heap.size, 6, none⟩ (.int .i64 w11)).setCell ⟨a10.heap.size, 7, none⟩ (.int .i64 x11)).setCell ⟨a10.heap.size, 8, none⟩ (.int .i64 v11) = x := ⟨_, rfl⟩
    have x15 := Ot_1.out.frozenAt 0; have b17 := Ot_1.out.frozenAt 1; have y17 := Ot_1.out.frozenAt 2; have p16 := Ot_1.out.frozenAt 3; have q16 := Ot_1.out.frozenAt 4; have z17 := Ot_1.out.frozenAt 5; have q15 := Ot_1.out.frozenAt 6; have k17 := Ot_1.out.frozenAt 7; have e16 := Ot_1.out.frozenAt 8; have d12 := Lib.hid (own_stores [(0, .int .i64 p11), (1, .int .i64 s11), (2, .int .i64 r11), (3, .int .i64 o11), (4, .int .i64 t11), (5, .int .i64 q11), (6, .int .i64 w11), (7, .int .i64 x11), (8, .int .i64 v11)] Ot_1.out); have g11 : Hid (x10.ownsRow w.heap.size 26 9 (.slice (some ⟨a10.heap.size, 0, none⟩) 1 1) 1 [.int .i64 p11, .int .i64 s11, .int .i64 r11, .int .i64 o11, .int .i64 t11, .int .i64 q11, .int .i64 w11, .int .i64 x11, .int .i64 v11]) := Lib.hid (by rw [← r12]; exact d12.out.1); have i10 : Hid (j10.grownBy x10 (Value.slice (some ⟨a10.heap.size, 0, none⟩) 1 1).ownBlock) := Lib.hid (by rw [← r12]; exact d12.out.2); have f14 := Lib.hid (l12.out.grown i10.out l12.out.size (fun q hq => (Ot_1.out.lt q hq).1)); clear d12; have a17 := cell_other v13 i10.out b10.out; have o15 := cell_other p14 i10.out b10.out; have v16 := cell_other d15 i10.out b10.out; have y16 := cell_other x13 i10.out b10.out; have w16 := cell_other z14 i10.out b10.out; have a16 := cell_other y14 i10.out b10.out; have f16 := cell_other b15 i10.out b10.out; have t15 := cell_other y13 i10.out b10.out; have s15 := cell_other m14 i10.out b10.out; have l16 := cell_other e15 i10.out (Apart.symm j11.out); have v17 := cell_other s13 i10.out (Apart.symm j11.out); have v15 := cell_other z13 i10.out (Apart.symm j11.out); have b16 := cell_other h13 i10.out (Apart.symm j11.out); have p15 := cell_other g14 i10.out (Apart.symm j11.out); have i17 := cell_other i14 i10.out (Apart.symm j11.out); have t17 := cell_other e14 i10.out (Apart.symm j11.out); have b18 := cell_other a15 i10.out (Apart.symm j11.out); have w15 := cell_other b14 i10.out (Apart.symm j11.out); clear Ot_1 i10; have m13 : x10.cell? ⟨a10.heap.size, 0, none⟩ = some (.int .i64 p11) := g11.out.cells rfl 0 _ rfl; have j15 : x10.cell? ⟨a10.heap.size, 1, none⟩ = some (.int .i64 s11) := g11.out.cells rfl 1 _ rfl; have a14 : x10.cell? ⟨a10.heap.size, 2, none⟩ = some (.int .i64 r11) := g11.out.cells rfl 2 _ rfl; have q13 : x10.cell? ⟨a10.heap.size, 3, none⟩ = some (.int .i64 o11) := g11.out.cells rfl 3 _ rfl; have e13 : x10.cell? ⟨a10.heap.size, 4, none⟩ = some (.int .i64 t11) := g11.out.cells rfl 4 _ rfl; have v14 : x10.cell? ⟨a10.heap.size, 5, none⟩ = some (.int .i64 q11) := g11.out.cells rfl 5 _ rfl; have t13 : x10.cell? ⟨a10.heap.size, 6, none⟩ = some (.int .i64 w11) := g11.out.cells rfl 6 _ rfl; have f15 : x10.cell? ⟨a10.heap.size, 7, none⟩ = some (.int .i64 x11) := g11.out.cells rfl 7 _ rfl; have i15 : x10.cell? ⟨a10.heap.size, 8, none⟩ = some (.int .i64 v11) := g11.out.cells rfl 8 _ rfl; have hR_ := ret_hid H; simp only [Prod.mk.injEq] at hR_; obtain ⟨rfl, rfl⟩ := hR_; go_wp2_with fail
    (try simp only [Exit.inBlock, Exit.then])
    refine bodyPost_ret (v := .tuple #[.agg #[.int .i64 p11, .int .i64 s11, .int .i64 r11, .int .i64 o11, .int .i64 t11, .int .i64 q11, .int .i64 w11, .int .i64 x11, .int .i64 v11], .bool t14]) ?hr_ ?hd_ ?_
    case hd_ => rfl
    case hr_ => simp [results, Tryz.results20, m13, j15, a14, q13, e13, v14, t13, f15, i15, go_sem]
    exact ⟨rfl, f14.out⟩
end Go.Proofs.YtihibckijdfidaaGreat.GsMakeCover

namespace Go.Proofs.YtihibckijdfidaaGreat.Q12All
open Go.RowKit
open Go.Proofs.YtihibckijdfidaaGreat.GoP Go.Proofs.YtihibckijdfidaaGreat.PlainStamp Go.Proofs.YtihibckijdfidaaGreat.QBase Go.Proofs.YtihibckijdfidaaGreat.Q12Made Go.Proofs.YtihibckijdfidaaGreat.Q12Cover Go.Proofs.YtihibckijdfidaaGreat.Q12Bits Go.Proofs.YtihibckijdfidaaGreat.Q8For Go.Proofs.YtihibckijdfidaaGreat.Q8List Go.Proofs.YtihibckijdfidaaGreat.Q8Rate Go.Proofs.YtihibckijdfidaaGreat.QLoop Go.Proofs.YtihibckijdfidaaGreat.PRate Go.Proofs.YtihibckijdfidaaGreat.PCover

theorem gather_up {R : Type} {n : Nat} {p : Nat → Bool} {f : Nat → List Int → (List Int → Option R) → (List Int → Option R) → Option R} {fin : List Int → Option R}
    (step : ∀ k nx (s : List Int), k < n → s.length ≤ k → f k s nx fin = if p k = true then nx (s ++ [(k : Int)]) else nx s) : cntK f n 0 [] fin = fin (((List.range n).filter p).map fun k : Nat => (k : Int)) := by
  have key : ∀ m k, k + m = n → cntK f m k (((List.range k).filter p).map fun k : Nat => (k : Int)) fin = fin (((List.range n).filter p).map fun k : Nat => (k : Int)) := by
    intro m
    induction m with
    | zero => intro k hk; obtain rfl : k = n := by omega
              rfl
    | succ m ih =>
      intro k hk
      show f k _ _ fin = _
      have hlen : (((List.range k).filter p).map fun k : Nat => (k : Int)).length ≤ k := by
        rw [List.length_map]
        have := List.length_filter_le p (List.range k)
        rw [List.length_range] at this
        exact this
      rw [step k _ _ (by omega) hlen, ← ih (k + 1) (by omega), List.range_succ, List.filter_append, List.map_append]
      cases hp : p k <;> simp [List.filter, hp]
  exact key n 0 (by omega)
/-- all changes that make a cover -/
def possV (rs : List Rate) (x : Cover) : List Int := ((List.range 16).filter fun k : Nat => (madeV rs x (k : Int)).isSome).map fun k : Nat => (k : Int)
theorem mem_poss {rs : List Rate} {x : Cover} {c : Int} : c ∈ possV rs x ↔ (0 ≤ c ∧ c ≤ 15) ∧ (madeV rs x c).isSome = true := by
  unfold possV
  rw [List.mem_map]
  constructor
  · rintro ⟨k, hk, rfl⟩
    rw [List.mem_filter, List.mem_range] at hk
    exact ⟨by omega, hk.2⟩
  · rintro ⟨h1, h2⟩
    refine ⟨c.toNat, ?_, by omega⟩
    rw [List.mem_filter, List.mem_range, Int.toNat_of_nonneg h1.1]
    exact ⟨by omega, h2⟩
theorem poss_range {rs : List Rate} {x : Cover} : ∀ c ∈ possV rs x, 0 ≤ c ∧ c ≤ 15 := fun c h => (mem_poss.1 h).1
theorem poss_len (rs : List Rate) (x : Cover) : (possV rs x).length ≤ 16 := by
  unfold possV
  rw [List.length_map]
  exact Nat.le_trans (List.length_filter_le _ _) (by simp)
theorem poss_impl {rs : List Rate} (h : okRs rs = true) (x : Cover) : GiLoPossibleChanges.P rs x = some (possV rs x) := by
  have hm := fun k (hk : k < 16) => made_impl h x (c := ((k : Nat) : Int)) (by omega)
  unfold possV
  obtain ⟨a, b, e, f, g, i, j, k, l⟩ := x
  simp only [GiLoPossibleChanges.P, unCover]
  rw [gather_up (p := fun n_ : Nat => (madeV rs ⟨a, b, e, f, g, i, j, k, l⟩ (n_ : Int)).isSome)]
  · rfl
  · intro q nx s hq hs
    simp only [GiLoPossibleChanges.l0, hm q hq, letK]
    cases hv : madeV rs ⟨a, b, e, f, g, i, j, k, l⟩ (q : Int) with
    | none => simp [resC, bind2, unCover, iteK_if, appK]
    | some y =>
      simp only [resC, bind2, unCover, iteK_if, appK, Option.isSome_some, if_true]
      rw [guardK_pos (by omega)]
theorem poss_spec {fuel : Nat} {rs : List Rate} (h : okRs rs = true) (x : Cover) (hf : 100 < fuel) : GsL12All.P fuel rs x = some (possV rs x) := by
  have hm := fun k (hk : k < 16) => make_spec (fuel := fuel) h x (c := ((k : Nat) : Int)) (by omega) hf
  unfold possV
  obtain ⟨a, b, e, f, g, i, j, k, l⟩ := x
  simp only [GsL12All.P, unCover]
  rw [gather_up (p := fun n_ : Nat => (madeV rs ⟨a, b, e, f, g, i, j, k, l⟩ (n_ : Int)).isSome)]
  · rfl
  · intro q nx s hq hs
    simp only [GsL12All.l0, hm q hq, letK]
    cases hv : madeV rs ⟨a, b, e, f, g, i, j, k, l⟩ (q : Int) with
    | none => simp [resC, bind2, unCover, iteK_if, appK]
    | some y =>
      simp only [resC, bind2, unCover, iteK_if, appK, Option.isSome_some, if_true]
      rw [guardK_pos (by omega)]
theorem can_eq (rs : List Rate) (x : Cover) (hr : rs.length ≤ 9223372036854775807) : GiCanExplain.P rs x = some (okRs rs && okC x) := by
  have e1 := isCover_eq x
  obtain ⟨a, b, e, f, g, i, j, k, l⟩ := x
  simp only [GiCanExplain.P, unCover, areRates_eq rs hr, e1, Option.bind_some, joinK, appK, iteK_if]
  cases okRs rs <;> simp
def rateC (rs : List Rate) (x : Cover) : Int := rateV rs x.day x.zone x.grams
def explRes (rs : List Rate) (x : Cover) : Bool × Bool := if (okRs rs && okC x) = true then (x.paid == rateC rs x, true) else (false, false)
theorem expl_impl (rs : List Rate) (x : Cover) (hr : rs.length ≤ 9223372036854775807) : GiIsExplained.P rs x = some (explRes rs x) := by
  have e1 := can_eq rs x hr
  obtain ⟨a, b, e, f, g, i, j, k, l⟩ := x
  simp only [GiIsExplained.P, GiRateOfCover.P, unCover, e1, rateOn_eq, Option.bind_some, letK, iteK_if, not_ite, explRes, rateC]
  cases (okRs rs && okC ⟨a, b, e, f, g, i, j, k, l⟩) <;> rfl
theorem expl_spec {fuel : Nat} (rs : List Rate) (x : Cover) (hr : rs.length ≤ 9223372036854775807) (hf : 100 < fuel) : GsIsExplained.P fuel rs x = some (explRes rs x) := by
  have e1 := l10One_eq x
  obtain ⟨a, b, e, f, g, i, j, k, l⟩ := x
  simp only [GsIsExplained.P, GsL12Explained.P, unCover, l8Good_eq rs hr (show 17 < fuel by omega), e1, l8For_eq, Option.bind_some, letK, joinK, appK, iteK_if, explRes, rateC]
  cases okRs rs with
  | false => simp
  | true => cases okC ⟨a, b, e, f, g, i, j, k, l⟩ <;> simp [Bool.beq_comm, eq_comm, BEq.comm]
def makeRes (rs : List Rate) (x : Cover) (c : Int) : Cover × Bool := if (okRs rs && okC x && inB c 0 15) = true then resC (madeV rs x c) else resC none
theorem isChange_eq (c : Int) : GiIsChange.P c = some (inB c 0 15) := by simp only [GiIsChange.P, within_eq, Option.bind_some]
theorem makeCover_impl (rs : List Rate) (x : Cover) (c : Int) (hr : rs.length ≤ 9223372036854775807) : GiMakeCover.P rs x c = some (makeRes rs x c) := by
  have e1 := can_eq rs x hr
  have e2 := fun h1 h2 => made_impl (rs := rs) h1 x (c := c) h2
  obtain ⟨a, b, e, f, g, i, j, k, l⟩ := x
  simp only [GiMakeCover.P, unCover, e1, isChange_eq, Option.bind_some, letK, joinK, appK, iteK_if, makeRes]
  cases h1 : okRs rs with
  | false => simp [resC]
  | true =>
    cases h2 : okC ⟨a, b, e, f, g, i, j, k, l⟩ with
    | false => simp [resC]
    | true =>
      cases h3 : inB c 0 15 with
      | false => simp [resC]
      | true => simp [e2 h1 (inB_of h3), bind2]
def possRes (rs : List Rate) (x : Cover) : List Int × Bool := if (okRs rs && okC x) = true then (possV rs x, true) else ([], false)
theorem possible_impl (rs : List Rate) (x : Cover) (hr : rs.length ≤ 9223372036854775807) : GiPossibleChanges.P rs x = some (possRes rs x) := by
  have e1 := can_eq rs x hr
  have e2 := fun h1 => poss_impl (rs := rs) h1 x
  obtain ⟨a, b, e, f, g, i, j, k, l⟩ := x
  simp only [GiPossibleChanges.P, unCover, e1, Option.bind_some, letK, iteK_if, not_ite, possRes]
  cases h1 : okRs rs with
  | false => simp
  | true =>
    cases h2 : okC ⟨a, b, e, f, g, i, j, k, l⟩ with
    | false => simp
    | true => simp [e2 h1]
theorem possible_spec {fuel : Nat} (rs : List Rate) (x : Cover) (hr : rs.length ≤ 9223372036854775807) (hf : 100 < fuel) : GsPossibleChanges.P fuel rs x = some (possRes rs x) := by
  have e1 := l10One_eq x
  have e2 := fun h1 => poss_spec (rs := rs) h1 x hf
  obtain ⟨a, b, e, f, g, i, j, k, l⟩ := x
  simp only [GsPossibleChanges.P, unCover, l8Good_eq rs hr (show 17 < fuel by omega), e1, Option.bind_some, letK, joinK, appK, iteK_if, possRes]
  cases h1 : okRs rs with
  | false => simp
  | true =>
    cases h2 : okC ⟨a, b, e, f, g, i, j, k, l⟩ with
    | false => simp
    | true => simp [e2 h1]
end Go.Proofs.YtihibckijdfidaaGreat.Q12All

namespace Go.Proofs.YtihibckijdfidaaGreat.Q12Min
open Go.RowKit
open Go.Proofs.YtihibckijdfidaaGreat.GoP Go.Proofs.YtihibckijdfidaaGreat.PlainStamp Go.Proofs.YtihibckijdfidaaGreat.QBase Go.Proofs.YtihibckijdfidaaGreat.Q12Cost Go.Proofs.YtihibckijdfidaaGreat.Q12Bits Go.Proofs.YtihibckijdfidaaGreat.Q8Rate Go.Proofs.YtihibckijdfidaaGreat.QUp Go.Proofs.YtihibckijdfidaaGreat.QLoop Go.Proofs.YtihibckijdfidaaGreat.PIntA4

theorem compare_cost {a b : Int} (ha : 0 ≤ a ∧ a ≤ 15) (hb : 0 ≤ b ∧ b ≤ 15) {s : IntA4} (hs : okS s = true) : ∃ c, GiCheapestChange1.P a b s.x0 s.x1 s.x2 s.x3 = some c ∧ decide (c < 0) = lessC s a b := by
  obtain ⟨e, he, hl⟩ := compare_ch ha hb
  have c1 := cost_impl ha hs
  have c2 := cost_impl hb hs
  obtain ⟨x0, x1, x2, x3⟩ := s
  simp only [GiCheapestChange1.P, c1, c2, he, compare_eq, or_eq, Option.bind_some, letK, lessC]
  refine ⟨_, rfl, ?_⟩
  rw [← hl]
  by_cases h1 : costV a ⟨x0, x1, x2, x3⟩ < costV b ⟨x0, x1, x2, x3⟩
  · simp [h1]
  · by_cases h2 : costV b ⟨x0, x1, x2, x3⟩ < costV a ⟨x0, x1, x2, x3⟩
    · have h3 : ¬ costV a ⟨x0, x1, x2, x3⟩ = costV b ⟨x0, x1, x2, x3⟩ := by omega
      simp [h1, h2, h3]
    · have h3 : costV a ⟨x0, x1, x2, x3⟩ = costV b ⟨x0, x1, x2, x3⟩ := by omega
      simp [h3]
theorem min_ch {l : List Int} (hok : ∀ x ∈ l, 0 ≤ x ∧ x ≤ 15) (h0 : l ≠ []) (hl : l.length ≤ 1000) (fuel : Nat) (hfu : l.length < fuel) : GxSlicesMinFuncIntIntiCompareChanges.P fuel l = some (bestC ⟨1, 1, 1, 1⟩ l) := by
  have hpos : 0 < l.length := List.length_pos_iff.2 h0
  obtain ⟨a, ha, hai⟩ := at_lt (l := l) (k := 0) hpos
  have hai' : idx l 0 = some a := hai
  simp only [GxSlicesMinFuncIntIntiCompareChanges.P, letK, iteK_if]
  rw [if_neg (by simp; omega)]
  simp only [GxSlicesMinFuncIntIntiCompareChanges.j0, hai', Option.bind_some]
  refine lp_is (n := l.length) _ (fun k (s : Int × Int) => 1 ≤ k ∧ s = (bestC ⟨1, 1, 1, 1⟩ (l.take k), (k : Int))) ?_ ?_ fuel 1 _ (by omega) (by omega) ?_
  · rintro k s nx hk ⟨h1, rfl⟩ hn
    obtain ⟨x, hx, hxi⟩ := at_lt (l := l) (k := k) hk
    have hne : l.take k ≠ [] := by intro e; have := congrArg List.length e; rw [List.length_take, List.length_nil] at this; omega
    have hb := hok _ (List.mem_of_mem_take (bestC_mem ⟨1, 1, 1, 1⟩ hne))
    obtain ⟨c, hc, hcb⟩ := compare_ch (hok x (List.mem_of_getElem? hx)) hb
    simp only [GxSlicesMinFuncIntIntiCompareChanges.l0, unp2, letK, iteK_if]
    rw [if_pos (by simp; omega)]
    simp only [hxi, Option.bind_some, hc, hcb, appK]
    rw [wrap_in (by omega) (by omega)]
    have hs := bestC_snoc ⟨1, 1, 1, 1⟩ hne x
    rw [← take_next hx] at hs
    unfold minC at hs
    rw [lessC_ones] at hs
    split
    · rename_i hh; rw [if_pos hh] at hs; exact hn _ ⟨by omega, by rw [hs]; rfl⟩
    · rename_i hh; rw [if_neg hh] at hs; exact hn _ ⟨by omega, by rw [hs]; rfl⟩
  · rintro s nx ⟨h1, rfl⟩
    rw [List.take_of_length_le (Nat.le_refl _)]
    simp only [GxSlicesMinFuncIntIntiCompareChanges.l0, unp2, letK, iteK_if, appK, GxSlicesMinFuncIntIntiCompareChanges.e0]
    rw [if_neg (by simp)]
  · refine ⟨by omega, ?_⟩
    rw [take_next (k := 0) ha]; rfl
theorem min_cost {l : List Int} (hok : ∀ x ∈ l, 0 ≤ x ∧ x ≤ 15) (h0 : l ≠ []) (hl : l.length ≤ 1000) {c : IntA4} (hc : okS c = true) (fuel : Nat) (hfu : l.length < fuel) : GxSlicesMinFuncIntIntiCheapestChange1.P fuel l c.x0 c.x1 c.x2 c.x3 = some (bestC c l) := by
  have hpos : 0 < l.length := List.length_pos_iff.2 h0
  obtain ⟨a, ha, hai⟩ := at_lt (l := l) (k := 0) hpos
  have hai' : idx l 0 = some a := hai
  simp only [GxSlicesMinFuncIntIntiCheapestChange1.P, letK, iteK_if]
  rw [if_neg (by simp; omega)]
  simp only [GxSlicesMinFuncIntIntiCheapestChange1.j0, hai', Option.bind_some]
  refine lp_is (n := l.length) _ (fun k (s : Int × Int) => 1 ≤ k ∧ s = (bestC c (l.take k), (k : Int))) ?_ ?_ fuel 1 _ (by omega) (by omega) ?_
  · rintro k s nx hk ⟨h1, rfl⟩ hn
    obtain ⟨x, hx, hxi⟩ := at_lt (l := l) (k := k) hk
    have hne : l.take k ≠ [] := by intro e; have := congrArg List.length e; rw [List.length_take, List.length_nil] at this; omega
    have hb := hok _ (List.mem_of_mem_take (bestC_mem c hne))
    obtain ⟨d, hd, hcb⟩ := compare_cost (hok x (List.mem_of_getElem? hx)) hb hc
    simp only [GxSlicesMinFuncIntIntiCheapestChange1.l0, unp2, letK, iteK_if]
    rw [if_pos (by simp; omega)]
    simp only [hxi, Option.bind_some, hd, hcb, appK]
    rw [wrap_in (by omega) (by omega)]
    have hs := bestC_snoc c hne x
    rw [← take_next hx] at hs
    unfold minC at hs
    split
    · rename_i hh; rw [if_pos hh] at hs; exact hn _ ⟨by omega, by rw [hs]; rfl⟩
    · rename_i hh; rw [if_neg hh] at hs; exact hn _ ⟨by omega, by rw [hs]; rfl⟩
  · rintro s nx ⟨h1, rfl⟩
    rw [List.take_of_length_le (Nat.le_refl _)]
    simp only [GxSlicesMinFuncIntIntiCheapestChange1.l0, unp2, letK, iteK_if, appK, GxSlicesMinFuncIntIntiCheapestChange1.e0]
    rw [if_neg (by simp)]
  · refine ⟨by omega, ?_⟩
    rw [take_next (k := 0) ha]; rfl
end Go.Proofs.YtihibckijdfidaaGreat.Q12Min

namespace Go.Proofs.YtihibckijdfidaaGreat.QCount
open Go.RowKit
open Go.Proofs.YtihibckijdfidaaGreat.GoP Go.Proofs.YtihibckijdfidaaGreat.PlainStamp Go.Proofs.YtihibckijdfidaaGreat.QBase Go.Proofs.YtihibckijdfidaaGreat.QLoop

theorem count_list {α R : Type} {l : List α} {p : α → Bool} {f : Nat → Int → (Int → Option R) → (Int → Option R) → Option R} {fin : Int → Option R}
    (step : ∀ k nx x (s : Nat), l[k]? = some x → s ≤ k → f k (s : Int) nx fin = nx ((if p x = true then s + 1 else s : Nat) : Int)) : cntK f l.length 0 0 fin = fin ((l.filter p).length : Int) := by
  have key : ∀ m k, k + m = l.length → cntK f m k (((l.take k).filter p).length : Int) fin = fin ((l.filter p).length : Int) := by
    intro m
    induction m with
    | zero => intro k hk; obtain rfl : k = l.length := by omega
              rw [List.take_of_length_le (Nat.le_refl _)]; rfl
    | succ m ih =>
      intro k hk
      obtain ⟨x, hx, _⟩ := at_lt (l := l) (k := k) (by omega)
      show f k _ _ fin = _
      have hle : ((l.take k).filter p).length ≤ k := by
        have := List.length_filter_le p (l.take k)
        rw [List.length_take] at this
        omega
      rw [step k _ x _ hx hle, ← ih (k + 1) (by omega), take_next hx, List.filter_append, List.length_append]
      cases hp : p x <;> simp [List.filter, hp]
  exact key l.length 0 (by omega)
/-- the first place at which the test holds -/
def firstI {α : Type} (p : α → Bool) (l : List α) : Int := match l.findIdx? p with | some i => (i : Int) | none => -1
end Go.Proofs.YtihibckijdfidaaGreat.QCount

namespace Go.Proofs.YtihibckijdfidaaGreat.GsCheapestChange
open Go.RowKit
open Go.Proofs.YtihibckijdfidaaGreat.Rowed Go.Proofs.YtihibckijdfidaaGreat.Turn Go.Proofs.YtihibckijdfidaaGreat.Aid Go.Proofs.YtihibckijdfidaaGreat.GoP Go.Proofs.YtihibckijdfidaaGreat.GoM

def l0 (costs_x0 : Int) (costs_x1 : Int) (costs_x2 : Int) (costs_x3 : Int) (k0 : Nat) (s : Unit) (nx0 bk0 : Unit → Option (Int × Int × Bool)) : Option (Int × Int × Bool) :=
 
 Option.bind (idx [costs_x0, costs_x1, costs_x2, costs_x3] (k0 : Int)) fun (yt_9 : Int) =>
 Option.bind (GsL1In.P yt_9 0 1000) fun (t_11 : Bool) =>
 letK (!t_11) fun (t_12 : Bool) =>
 iteK t_12
 (some (0, 0, false))
 (appK nx0 ())

def e0 (rates : (List PRate.Rate)) (x_id : Int) (x_day : Int) (x_zone : Int) (x_grams : Int) (x_paid : Int) (x_from_ : Int) (x_to_ : Int) (x_leave : Int) (x_arrive : Int) (costs_x0 : Int) (costs_x1 : Int) (costs_x2 : Int) (costs_x3 : Int) (fuel : Nat) (s : Unit) : Option (Int × Int × Bool) :=
 
 Option.bind (GsL8Good.P fuel rates) fun (t_20 : Bool) =>
 letK (!t_20) fun (t_21 : Bool) =>
 joinK (fun (t_26 : Bool) =>
 iteK t_26
 (some (0, 0, false))
 (bind2 (GsL12Best.P fuel rates (PCover.Cover.mk x_id x_day x_zone x_grams x_paid x_from_ x_to_ x_leave x_arrive) (PIntA4.IntA4.mk costs_x0 costs_x1 costs_x2 costs_x3)) fun (t_33a : Int) (t_33b : Bool) =>
 letK (!t_33b) fun (t_40 : Bool) =>
 iteK t_40
 (some (0, 0, false))
 (Option.bind (GsL12Cost.P t_33a (PIntA4.IntA4.mk costs_x0 costs_x1 costs_x2 costs_x3)) fun (t_47 : Int) =>
 some (t_33a, t_47, true)))) fun jt_26 => iteK t_21 (appK jt_26 true) (Option.bind (GsL10One.P (PCover.Cover.mk x_id x_day x_zone x_grams x_paid x_from_ x_to_ x_leave x_arrive)) fun (t_24 : Bool) =>
 letK (!t_24) fun (t_25 : Bool) =>
 appK jt_26 t_25)

def P (fuel : Nat) (rates : (List PRate.Rate)) (x : PCover.Cover) (costs : PIntA4.IntA4) : Option (Int × Int × Bool) :=
 unCover x fun (x_id : Int) (x_day : Int) (x_zone : Int) (x_grams : Int) (x_paid : Int) (x_from_ : Int) (x_to_ : Int) (x_leave : Int) (x_arrive : Int) =>
 unIntA4 costs fun (costs_x0 : Int) (costs_x1 : Int) (costs_x2 : Int) (costs_x3 : Int) =>
 cntK (l0 costs_x0 costs_x1 costs_x2 costs_x3) (4) 0 () (e0 rates x_id x_day x_zone x_grams x_paid x_from_ x_to_ x_leave x_arrive costs_x0 costs_x1 costs_x2 costs_x3 fuel)

set_option maxRecDepth 100000 in
set_option maxHeartbeats 2000000 in
theorem C (fuel : Nat) (rates : (List PRate.Rate)) (x : PCover.Cover) (costs : PIntA4.IntA4) (A0 : Option Addr) (c0 : Nat)  (w : World) (M0 : Hid (Cells w 5 A0 rates.length (PRate.flat rates))) (N0 : Hid (rates.length ≤ 9223372036854775807))  {r0 : Int} {r1 : Int} {r2 : Bool} (H : Hid (P fuel rates x costs = some (r0, r1, r2))) :
  Calls Tryz.prog 26 #[.slice A0 rates.length c0, x.val, costs.val] w (Gives (.tuple #[.int .i64 r0, .int .i64 r1, .bool r2]) w) := by
 have HB := Lib.hid (Below.refl w.heap.size w); unfold P at H; obtain ⟨x_id, x_day, x_zone, x_grams, x_paid, x_from_, x_to_, x_leave, x_arrive⟩ := x; replace H := unCover_hid H; obtain ⟨y10, w10, x10, z10⟩ := costs; replace H := unIntA4_hid H; unfold PCover.Cover.val; unfold PIntA4.IntA4.val; have N0o := N0.out
 go_enter Tryz.func26, Tryz.ntmps26
 obtain ⟨a10, v10⟩ : ∃ x, w.alloc (.cells #[.int .i64 x_id, .int .i64 x_day, .int .i64 x_zone, .int .i64 x_grams, .int .i64 x_paid, .int .i64 x_from_, .int .i64 x_to_, .int .i64 x_leave, .int .i64 x_arrive] 26) = x := ⟨_, rfl⟩; have w11 : Below w.heap.size w a10 := (by rw [← v10]; exact (Below.refl _ _).alloc (Nat.le_refl _) _); have c12 := Lib.hid (Below.step HB.out w11); clear w11; have q11 : a10.cell? ⟨w.heap.size, 0, none⟩ = some (.int .i64 x_id) := (by rw [← v10]; exact box_new _ _ _ 0 _ rfl); have n11 : a10.cell? ⟨w.heap.size, 1, none⟩ = some (.int .i64 x_day) := (by rw [← v10]; exact box_new _ _ _ 1 _ rfl); have l11 : a10.cell? ⟨w.heap.size, 2, none⟩ = some (.int .i64 x_zone) := (by rw [← v10]; exact box_new _ _ _ 2 _ rfl); have j11 : a10.cell? ⟨w.heap.size, 3, none⟩ = some (.int .i64 x_grams) := (by rw [← v10]; exact box_new _ _ _ 3 _ rfl); have p11 : a10.cell? ⟨w.heap.size, 4, none⟩ = some (.int .i64 x_paid) := (by rw [← v10]; exact box_new _ _ _ 4 _ rfl); have v11 : a10.cell? ⟨w.heap.size, 5, none⟩ = some (.int .i64 x_from_) := (by rw [← v10]; exact box_new _ _ _ 5 _ rfl); have t11 : a10.cell? ⟨w.heap.size, 6, none⟩ = some (.int .i64 x_to_) := (by rw [← v10]; exact box_new _ _ _ 6 _ rfl); have o11 : a10.cell? ⟨w.heap.size, 7, none⟩ = some (.int .i64 x_leave) := (by rw [← v10]; exact box_new _ _ _ 7 _ rfl); have s11 : a10.cell? ⟨w.heap.size, 8, none⟩ = some (.int .i64 x_arrive) := (by rw [← v10]; exact box_new _ _ _ 8 _ rfl); obtain ⟨b11, a11⟩ : ∃ x, a10.alloc (.cells #[.int .i64 y10, .int .i64 w10, .int .i64 x10, .int .i64 z10] 41) = x := ⟨_, rfl⟩; have t10 : Below a10.heap.size a10 b11 := (by rw [← a11]; exact (Below.refl _ _).alloc (Nat.le_refl _) _); have b12 := Lib.hid (Below.step c12.out t10); have l10 := cell_below t10 q11; have s10 := cell_below t10 n11; have q10 := cell_below t10 l11; have n10 := cell_below t10 j11; have p10 := cell_below t10 p11; have m10 := cell_below t10 v11; have k10 := cell_below t10 t11; have o10 := cell_below t10 o11; have r10 := cell_below t10 s11; clear t10; have j10 : b11.cell? ⟨a10.heap.size, 0, none⟩ = some (.int .i64 y10) := (by rw [← a11]; exact box_new _ _ _ 0 _ rfl); have i10 : b11.cell? ⟨a10.heap.size, 1, none⟩ = some (.int .i64 w10) := (by rw [← a11]; exact box_new _ _ _ 1 _ rfl); have h10 : b11.cell? ⟨a10.heap.size, 2, none⟩ = some (.int .i64 x10) := (by rw [← a11]; exact box_new _ _ _ 2 _ rfl); have g10 : b11.cell? ⟨a10.heap.size, 3, none⟩ = some (.int .i64 z10) := (by rw [← a11]; exact box_new _ _ _ 3 _ rfl); go_wp2_with fail; clear q11 n11 l11 j11 p11 v11 t11 o11 s11; go_loopg [9] (4) (fun m_ v9_ wr => ∃ (k0 : Nat) , k0 + m_ = 4 ∧ v9_ = .int .i64 (k0 : Int) ∧ Hid (cntK (l0 y10 w10 x10 z10) m_ k0 () (e0 rates x_id x_day x_zone x_grams x_paid x_from_ x_to_ x_leave x_arrive y10 w10 x10 z10 fuel) = some (r0, r1, r2)) ∧ Hid (Below w.heap.size w wr) ∧ wr.cell? ⟨w.heap.size, 0, none⟩ = some (.int .i64 x_id) ∧ wr.cell? ⟨w.heap.size, 1, none⟩ = some (.int .i64 x_day) ∧ wr.cell? ⟨w.heap.size, 2, none⟩ = some (.int .i64 x_zone) ∧ wr.cell? ⟨w.heap.size, 3, none⟩ = some (.int .i64 x_grams) ∧ wr.cell? ⟨w.heap.size, 4, none⟩ = some (.int .i64 x_paid) ∧ wr.cell? ⟨w.heap.size, 5, none⟩ = some (.int .i64 x_from_) ∧ wr.cell? ⟨w.heap.size, 6, none⟩ = some (.int .i64 x_to_) ∧ wr.cell? ⟨w.heap.size, 7, none⟩ = some (.int .i64 x_leave) ∧ wr.cell? ⟨w.heap.size, 8, none⟩ = some (.int .i64 x_arrive) ∧ wr.cell? ⟨a10.heap.size, 0, none⟩ = some (.int .i64 y10) ∧ wr.cell? ⟨a10.heap.size, 1, none⟩ = some (.int .i64 w10) ∧ wr.cell? ⟨a10.heap.size, 2, none⟩ = some (.int .i64 x10) ∧ wr.cell? ⟨a10.heap.size, 3, none⟩ = some (.int .i64 z10))
 case atStart => exact ⟨0, by omega, rfl, H, b12, l10, s10, q10, n10, p10, m10, k10, o10, r10, j10, i10, h10, g10⟩
 case round =>
  obtain ⟨k0, hkm0, rfl, H, d11, l10, s10, q10, n10, p10, m10, k10, o10, r10, j10, i10, h10, g10⟩ := hrel; rename World => wr0
  cases gk with
  | zero =>
   obtain rfl : k0 = 4 := (by omega); have hc0 : decide (((4 : Nat) : Int) < ((4 : Nat) : Int)) = false := (by simp); replace H := cnt_zero H; unfold e0 at H; replace H := bind_hid H; obtain ⟨t_20, f12, H⟩ := H; go_wp2_with fail; go_at_call 34; refine (GsL8Good.C fuel (rates) A0 c0 _   (Lib.hid (Cells.below M0.out d11.out)) N0 f12).mono ?_; rintro h12 i12 ⟨rfl, c10⟩; have m11 := Lib.hid (Below.step d11.out c10); replace l10 := cell_below c10 l10; replace s10 := cell_below c10 s10; replace q10 := cell_below c10 q10; replace n10 := cell_below c10 n10; replace p10 := cell_below c10 p10; replace m10 := cell_below c10 m10; replace k10 := cell_below c10 k10; replace o10 := cell_below c10 o10; replace r10 := cell_below c10 r10; replace j10 := cell_below c10 j10; replace i10 := cell_below c10 i10; replace h10 := cell_below c10 h10; replace g10 := cell_below c10 g10; clear c10
   cases t_20 with
   | false =>
    replace H := let_hid H; obtain ⟨t_21, i11, H⟩ := H; obtain rfl : t_21 = true := i11.symm; replace H := join_hid H; replace H := ite_t H; replace H := app_hid H; replace H := ite_t H; cases ret_hid H; go_wp2_with fail; go_ret3; exact ⟨rfl, m11.out⟩
   | true =>
    replace H := let_hid H; obtain ⟨t_21, i11, H⟩ := H; obtain rfl : t_21 = false := i11.symm; replace H := join_hid H; replace H := ite_f H; replace H := bind_hid H; obtain ⟨t_24, x11, H⟩ := H; go_wp2_with fail; go_at_call 35; refine (GsL10One.C ((PCover.Cover.mk x_id x_day x_zone x_grams x_paid x_from_ x_to_ x_leave x_arrive))  _    x11).mono ?_; rintro k12 n12 ⟨rfl, d10⟩; have f11 := Lib.hid (Below.step m11.out d10); replace l10 := cell_below d10 l10; replace s10 := cell_below d10 s10; replace q10 := cell_below d10 q10; replace n10 := cell_below d10 n10; replace p10 := cell_below d10 p10; replace m10 := cell_below d10 m10; replace k10 := cell_below d10 k10; replace o10 := cell_below d10 o10; replace r10 := cell_below d10 r10; replace j10 := cell_below d10 j10; replace i10 := cell_below d10 i10; replace h10 := cell_below d10 h10; replace g10 := cell_below d10 g10; clear d10
    cases t_24 with
    | false =>
     replace H := let_hid H; obtain ⟨t_25, g11, H⟩ := H; obtain rfl : t_25 = true := g11.symm; replace H := app_hid H; replace H := ite_t H; cases ret_hid H; go_wp2_with fail; go_ret3; exact ⟨rfl, f11.out⟩
    | true =>
     replace H := let_hid H; obtain ⟨t_25, g11, H⟩ := H; obtain rfl : t_25 = false := g11.symm; replace H := app_hid H; replace H := ite_f H; replace H := bind2_hid H; obtain ⟨g12, d12, e12, H⟩ := H; go_wp2_with fail; go_at_call 36; refine (GsL12Best.C fuel (rates) ((PCover.Cover.mk x_id x_day x_zone x_grams x_paid x_from_ x_to_ x_leave x_arrive)) ((PIntA4.IntA4.mk y10 w10 x10 z10)) A0 c0 _   (Lib.hid (Cells.below M0.out f11.out)) N0 e12).mono ?_; rintro q12 m12 ⟨rfl, e10⟩; have r11 := Lib.hid (Below.step f11.out e10); replace l10 := cell_below e10 l10; replace s10 := cell_below e10 s10; replace q10 := cell_below e10 q10; replace n10 := cell_below e10 n10; replace p10 := cell_below e10 p10; replace m10 := cell_below e10 m10; replace k10 := cell_below e10 k10; replace o10 := cell_below e10 o10; replace r10 := cell_below e10 r10; replace j10 := cell_below e10 j10; replace i10 := cell_below e10 i10; replace h10 := cell_below e10 h10; replace g10 := cell_below e10 g10; clear e10
     cases d12 with
     | false =>
      replace H := let_hid H; obtain ⟨t_40, h11, H⟩ := H; obtain rfl : t_40 = true := h11.symm; replace H := ite_t H; cases ret_hid H; go_wp2_with fail; go_ret3; exact ⟨rfl, r11.out⟩
     | true =>
      replace H := let_hid H; obtain ⟨t_40, h11, H⟩ := H; obtain rfl : t_40 = false := h11.symm; replace H := ite_f H; replace H := bind_hid H; obtain ⟨t_47, a12, H⟩ := H; go_wp2_with fail; go_at_call 62; refine (GsL12Cost.C (g12) ((PIntA4.IntA4.mk y10 w10 x10 z10))  _    a12).mono ?_; rintro w12 r12 ⟨rfl, f10⟩; have y11 := Lib.hid (Below.step r11.out f10); replace l10 := cell_below f10 l10; replace s10 := cell_below f10 s10; replace q10 := cell_below f10 q10; replace n10 := cell_below f10 n10; replace p10 := cell_below f10 p10; replace m10 := cell_below f10 m10; replace k10 := cell_below f10 k10; replace o10 := cell_below f10 o10; replace r10 := cell_below f10 r10; replace j10 := cell_below f10 j10; replace i10 := cell_below f10 i10; replace h10 := cell_below f10 h10; replace g10 := cell_below f10 g10; clear f10; cases ret_hid H; go_wp2_with fail; go_ret3; exact ⟨rfl, y11.out⟩
  | succ m0 =>
   have hlt0 : k0 < 4 := (by omega); have hc0 : decide ((k0 : Int) < ((4 : Nat) : Int)) = true := (by simp; omega); replace H := cnt_succ H; have hd0 : decide ((k0 : Int) < 4) = true := (by simp; omega); unfold l0 at H; replace H := idx_hid H; obtain ⟨nt_9, yt_9, et_9, lt_9, gt_9, H⟩ := H; obtain rfl : k0 = nt_9 := (by omega); clear et_9; have p12 : (0 : Int) ≤ (k0 : Int) := (by omega); have t12 : (k0 : Int) < (((4 : Nat) : Nat) : Int) := (by have h_ : k0 < 4 := lt_9; omega); have o12 : k0 < 4 := lt_9; have j12 : (k0 : Int) < (4 : Int) := (by omega); have v12 : ((k0 : Int)).toNat = k0 := (by omega); have c11 := PIntA4.cell_at j10 i10 h10 g10 gt_9.out; rw [Nat.zero_add] at c11; replace H := bind_hid H; obtain ⟨t_11, z11, H⟩ := H; go_wp2_with fail; go_at_call 52; refine (GsL1In.C (yt_9) (0) (1000)  _    z11).mono ?_; rintro s12 l12 ⟨rfl, b10⟩; have k11 := Lib.hid (Below.step d11.out b10); replace l10 := cell_below b10 l10; replace s10 := cell_below b10 s10; replace q10 := cell_below b10 q10; replace n10 := cell_below b10 n10; replace p10 := cell_below b10 p10; replace m10 := cell_below b10 m10; replace k10 := cell_below b10 k10; replace o10 := cell_below b10 o10; replace r10 := cell_below b10 r10; replace j10 := cell_below b10 j10; replace i10 := cell_below b10 i10; replace h10 := cell_below b10 h10; replace g10 := cell_below b10 g10; replace c11 := cell_below b10 c11; clear b10
   cases t_11 with
   | false =>
    replace H := let_hid H; obtain ⟨t_12, e11, H⟩ := H; obtain rfl : t_12 = true := e11.symm; replace H := ite_t H; cases ret_hid H; go_wp2_with fail; go_ret3; exact ⟨rfl, k11.out⟩
   | true =>
    replace H := let_hid H; obtain ⟨t_12, e11, H⟩ := H; obtain rfl : t_12 = false := e11.symm; replace H := ite_f H; replace H := app_hid H; go_wp2_with fail
    go_roundg m0
    case measure => omega
    case rel => exact ⟨k0 + 1, by omega, by go_num, H, k11, l10, s10, q10, n10, p10, m10, k10, o10, r10, j10, i10, h10, g10⟩
end Go.Proofs.YtihibckijdfidaaGreat.GsCheapestChange

namespace Go.Proofs.YtihibckijdfidaaGreat.Q12Least
open Go.RowKit
open Go.Proofs.YtihibckijdfidaaGreat.GoP Go.Proofs.YtihibckijdfidaaGreat.PlainStamp Go.Proofs.YtihibckijdfidaaGreat.QBase Go.Proofs.YtihibckijdfidaaGreat.Q12All Go.Proofs.YtihibckijdfidaaGreat.Q12Min Go.Proofs.YtihibckijdfidaaGreat.Q12Cost Go.Proofs.YtihibckijdfidaaGreat.Q12Made Go.Proofs.YtihibckijdfidaaGreat.Q12Cover Go.Proofs.YtihibckijdfidaaGreat.Q12Bits Go.Proofs.YtihibckijdfidaaGreat.Q8For Go.Proofs.YtihibckijdfidaaGreat.Q8List Go.Proofs.YtihibckijdfidaaGreat.Q8Rate Go.Proofs.YtihibckijdfidaaGreat.QFold Go.Proofs.YtihibckijdfidaaGreat.QCount Go.Proofs.YtihibckijdfidaaGreat.QUp Go.Proofs.YtihibckijdfidaaGreat.QLoop Go.Proofs.YtihibckijdfidaaGreat.PRate Go.Proofs.YtihibckijdfidaaGreat.PCover Go.Proofs.YtihibckijdfidaaGreat.PIntA4

theorem best_spec {fuel : Nat} {rs : List Rate} (h : okRs rs = true) (x : Cover) {s : IntA4} (hs : okS s = true) (hf : 100 < fuel) : GsL12Best.P fuel rs x s = some (if possV rs x = [] then (0, false) else (bestC s (possV rs x), true)) := by
  have e2 := poss_spec (fuel := fuel) h x hf
  have hlen := poss_len rs x
  have hrng := fun c hc => poss_range (rs := rs) (x := x) c hc
  generalize hl : possV rs x = l at e2 hlen hrng ⊢
  have hloop : l ≠ [] → ∀ a, l[0]? = some a → loopK (GsL12Best.l0 s.x0 s.x1 s.x2 s.x3 l) fuel (a, 1) GsL12Best.e0 = some (bestC s l, true) := by
    intro h0 a ha
    have hpos : 0 < l.length := List.length_pos_iff.2 h0
    refine lp_is (n := l.length) _ (fun k (t : Int × Int) => 1 ≤ k ∧ t = (bestC s (l.take k), (k : Int))) ?_ ?_ fuel 1 _ (by omega) (by omega) ?_
    · rintro k t nx hk ⟨h1, rfl⟩ hn
      obtain ⟨y, hy, hyi⟩ := at_lt (l := l) (k := k) hk
      have hne : l.take k ≠ [] := by intro e; have := congrArg List.length e; rw [List.length_take, List.length_nil] at this; omega
      have hb := hrng _ (List.mem_of_mem_take (bestC_mem s hne))
      have hyr := hrng y (List.mem_of_getElem? hy)
      have c1 : GsL12Cost.P y ⟨s.x0, s.x1, s.x2, s.x3⟩ = some (costV y s) := cost_spec hyr hs
      have c2 : GsL12Cost.P (bestC s (l.take k)) ⟨s.x0, s.x1, s.x2, s.x3⟩ = some (costV (bestC s (l.take k)) s) := cost_spec hb hs
      have c3 := smaller_eq hyr hb
      have hlt : (k : Int) < (l.length : Int) := by omega
      have hst := bestC_snoc s hne y
      rw [← take_next hy] at hst
      unfold minC lessC at hst
      simp only [GsL12Best.l0, unp2, letK, joinK, appK, iteK_if, decide_eq_true hlt, if_true, hyi, c1, c2, c3, Option.bind_some]
      rw [wrap_in (by omega) (by omega)]
      by_cases q1 : costV y s < costV (bestC s (l.take k)) s
      · simp only [decide_eq_true q1, if_true]
        exact hn _ ⟨by omega, by rw [hst]; simp [q1]⟩
      · by_cases q2 : costV y s = costV (bestC s (l.take k)) s
        · cases q3 : lessV y (bestC s (l.take k)) with
          | true => simp only [q2, Int.lt_irrefl, decide_false, Bool.false_eq_true, if_false, beq_self_eq_true, if_true]; exact hn _ ⟨by omega, by rw [hst]; simp [q2, q3]⟩
          | false => simp only [q2, Int.lt_irrefl, decide_false, Bool.false_eq_true, if_false, beq_self_eq_true, if_true]; exact hn _ ⟨by omega, by rw [hst]; simp [q2, q3]⟩
        · have q4 : (costV y s == costV (bestC s (l.take k)) s) = false := by simpa using q2
          simp only [decide_eq_false q1, q4, Bool.false_eq_true, if_false]
          exact hn _ ⟨by omega, by rw [hst]; simp [q1, q2]⟩
    · rintro t nx ⟨h1, rfl⟩
      have hlt : ¬ (l.length : Int) < (l.length : Int) := by omega
      rw [List.take_of_length_le (Nat.le_refl _)]
      simp only [GsL12Best.l0, unp2, letK, iteK_if, appK, decide_eq_false hlt, Bool.false_eq_true, if_false]
      rfl
    · refine ⟨by omega, ?_⟩
      rw [take_next (k := 0) ha]; rfl
  obtain ⟨a, b, e, f, g, i, j, k, m⟩ := x
  obtain ⟨s0, s1, s2, s3⟩ := s
  simp only [GsL12Best.P, unCover, unIntA4, e2, Option.bind_some, letK, iteK_if]
  by_cases h0 : l = []
  · subst h0; simp
  · have hpos : 0 < l.length := List.length_pos_iff.2 h0
    obtain ⟨y, hy, hyi⟩ := at_lt (l := l) (k := 0) hpos
    have hyi' : idx l 0 = some y := hyi
    have hz : ((l.length : Int) == 0) = false := by simpa using h0
    rw [if_neg h0]
    simp only [hz, Bool.false_eq_true, if_false, hyi', Option.bind_some]
    exact hloop h0 y hy
def leastRes (rs : List Rate) (x : Cover) : Int × Cover × Bool := if okRs rs = true ∧ okC x = true ∧ possV rs x ≠ [] then (bestC ⟨1, 1, 1, 1⟩ (possV rs x), (resC (madeV rs x (bestC ⟨1, 1, 1, 1⟩ (possV rs x)))).1, true) else (0, ⟨0, 0, 0, 0, 0, 0, 0, 0, 0⟩, false)
theorem made_best {rs : List Rate} {x : Cover} {s : IntA4} (h : possV rs x ≠ []) : (0 ≤ bestC s (possV rs x) ∧ bestC s (possV rs x) ≤ 15) ∧ ∃ y, madeV rs x (bestC s (possV rs x)) = some y := by
  have := mem_poss.1 (bestC_mem s h)
  exact ⟨this.1, Option.isSome_iff_exists.1 this.2⟩
theorem least_impl {fuel : Nat} (rs : List Rate) (x : Cover) (hr : rs.length ≤ 9223372036854775807) (hf : 100 < fuel) : GiLeastChange.P fuel rs x = some (leastRes rs x) := by
  have e1 := possible_impl rs x hr
  have e2 := fun h1 c h2 => made_impl (rs := rs) h1 x (c := c) h2
  have hlen := poss_len rs x
  have hrng := fun c hc => poss_range (rs := rs) (x := x) c hc
  have hbest := fun h => made_best (rs := rs) (x := x) (s := ⟨1, 1, 1, 1⟩) h
  obtain ⟨a, b, e, f, g, i, j, k, m⟩ := x
  simp only [GiLeastChange.P, unCover, e1, possRes, leastRes]
  cases h1 : okRs rs with
  | false => simp [bind2, letK, iteK_if]
  | true =>
    cases h2 : okC ⟨a, b, e, f, g, i, j, k, m⟩ with
    | false => simp [bind2, letK, iteK_if]
    | true =>
      by_cases h0 : possV rs ⟨a, b, e, f, g, i, j, k, m⟩ = []
      · simp [bind2, letK, iteK_if, h0]
      · obtain ⟨hb, y, hy⟩ := hbest h0
        have hz : (((possV rs ⟨a, b, e, f, g, i, j, k, m⟩).length : Int) == 0) = false := by simpa using h0
        have e3 := min_ch hrng h0 (by omega) fuel (by omega)
        simp [bind2, letK, iteK_if, h0, e3, e2 h1 _ hb, hy, resC, unCover]
theorem least_spec {fuel : Nat} (rs : List Rate) (x : Cover) (hr : rs.length ≤ 9223372036854775807) (hf : 100 < fuel) : GsLeastChange.P fuel rs x = some (leastRes rs x) := by
  have e1 := l10One_eq x
  have e2 := fun h1 c h2 => make_spec (rs := rs) (fuel := fuel) h1 x (c := c) h2 hf
  have e4 := fun h1 => best_spec (fuel := fuel) (rs := rs) h1 x okOnes hf
  have hbest := fun h => made_best (rs := rs) (x := x) (s := ⟨1, 1, 1, 1⟩) h
  obtain ⟨a, b, e, f, g, i, j, k, m⟩ := x
  simp only [GsLeastChange.P, unCover, l8Good_eq rs hr (show 17 < fuel by omega), e1, Option.bind_some, letK, joinK, appK, iteK_if, leastRes]
  cases h1 : okRs rs with
  | false => simp
  | true =>
    cases h2 : okC ⟨a, b, e, f, g, i, j, k, m⟩ with
    | false => simp
    | true =>
      by_cases h0 : possV rs ⟨a, b, e, f, g, i, j, k, m⟩ = []
      · simp [e4 h1, bind2, h0]
      · obtain ⟨hb, y, hy⟩ := hbest h0
        simp [e4 h1, bind2, h0, e2 h1 _ hb, hy, resC]
def cheapRes (rs : List Rate) (x : Cover) (s : IntA4) : Int × Int × Bool := if okRs rs = true ∧ okC x = true ∧ okS s = true ∧ possV rs x ≠ [] then (bestC s (possV rs x), costV (bestC s (possV rs x)) s, true) else (0, 0, false)
theorem cheap_impl {fuel : Nat} (rs : List Rate) (x : Cover) (s : IntA4) (hr : rs.length ≤ 9223372036854775807) (hf : 100 < fuel) : GiCheapestChange.P fuel rs x s = some (cheapRes rs x s) := by
  have e1 := possible_impl rs x hr
  have e5 := areCosts_eq s
  have hlen := poss_len rs x
  have hrng := fun c hc => poss_range (rs := rs) (x := x) c hc
  have hbest := fun h => made_best (rs := rs) (x := x) (s := s) h
  have e3 := fun h0 hs => min_cost (c := s) hrng h0 (by omega) hs fuel (by omega)
  have e6 := fun c hc hs => cost_impl (c := c) hc (s := s) hs
  obtain ⟨a, b, e, f, g, i, j, k, m⟩ := x
  obtain ⟨s0, s1, s2, s3⟩ := s
  simp only [GiCheapestChange.P, unCover, unIntA4, e1, e5, possRes, cheapRes]
  cases h1 : okRs rs with
  | false => simp [bind2, letK, iteK_if, joinK, appK]
  | true =>
    cases h2 : okC ⟨a, b, e, f, g, i, j, k, m⟩ with
    | false => simp [bind2, letK, iteK_if, joinK, appK]
    | true =>
      by_cases h0 : possV rs ⟨a, b, e, f, g, i, j, k, m⟩ = []
      · simp [bind2, letK, iteK_if, joinK, appK, h0]
      · cases hs : okS ⟨s0, s1, s2, s3⟩ with
        | false => simp [bind2, letK, iteK_if, joinK, appK, h0]
        | true =>
          obtain ⟨hb, y, hy⟩ := hbest h0
          simp [bind2, letK, iteK_if, joinK, appK, h0, e3 h0 hs, e6 _ hb hs]
/-- the sum of the numbers that are in all changes of a list -/
def neededV (l : List Int) : Int := sumB (l.all fun c => hb c 0) (l.all fun c => hb c 1) (l.all fun c => hb c 2) (l.all fun c => hb c 3)
theorem fold_and {l : List Int} (hl : ∀ c ∈ l, 0 ≤ c ∧ c ≤ 15) : ∀ m : Int, 0 ≤ m ∧ m ≤ 15 → l.foldl (fun m c => bits .and IntKind.i64 m c) m = sumB (hb m 0 && l.all fun c => hb c 0) (hb m 1 && l.all fun c => hb c 1) (hb m 2 && l.all fun c => hb c 2) (hb m 3 && l.all fun c => hb c 3) := by
  induction l with
  | nil => intro m hm; simp only [List.foldl_nil, List.all_nil, Bool.and_true]; exact (sum_hb hm).symm
  | cons x l ih =>
    intro m hm
    obtain ⟨h1, h2, h3, h4, h5⟩ := both_eq hm (hl x (by simp))
    rw [List.foldl_cons, ih (fun c hc => hl c (List.mem_cons_of_mem _ hc)) _ h1, h2, h3, h4, h5]
    simp only [List.all_cons, Bool.and_assoc]
def needRes (rs : List Rate) (x : Cover) : Int × Bool := if okRs rs = true ∧ okC x = true ∧ possV rs x ≠ [] then (neededV (possV rs x), true) else (0, false)
theorem need_impl (rs : List Rate) (x : Cover) (hr : rs.length ≤ 9223372036854775807) : GiNeededChanges.P rs x = some (needRes rs x) := by
  have e1 := possible_impl rs x hr
  have hrng := fun c hc => poss_range (rs := rs) (x := x) c hc
  have hfold : ∀ l : List Int, (∀ c ∈ l, 0 ≤ c ∧ c ≤ 15) → cntK (GiNeededChanges.l0 l) l.length 0 15 GiNeededChanges.e0 = some (neededV l, true) := by
    intro l hl
    rw [fold_loop (g := fun m c => bits .and IntKind.i64 m c)]
    · rw [fold_and hl 15 (by omega)]; rfl
    · intro k nx c s hc
      have hi : idx l (k : Int) = some c := by rw [idx_nat, hc]
      simp only [GiNeededChanges.l0, hi, Option.bind_some, letK, appK]
  obtain ⟨a, b, e, f, g, i, j, k, m⟩ := x
  simp only [GiNeededChanges.P, unCover, e1, possRes, needRes]
  cases h1 : okRs rs with
  | false => simp [bind2, letK, iteK_if]
  | true =>
    cases h2 : okC ⟨a, b, e, f, g, i, j, k, m⟩ with
    | false => simp [bind2, letK, iteK_if]
    | true =>
      by_cases h0 : possV rs ⟨a, b, e, f, g, i, j, k, m⟩ = []
      · simp [bind2, letK, iteK_if, h0]
      · simp [bind2, letK, iteK_if, h0, hfold _ hrng]
theorem len_all {α : Type} (l : List α) (p : α → Bool) : (((l.filter p).length : Int) == (l.length : Int)) = l.all p := by
  rw [Bool.eq_iff_iff, beq_iff_eq, List.all_eq_true]
  constructor
  · intro h x hx
    have : (l.filter p).length = l.length := by omega
    rw [List.length_filter_eq_length_iff] at this
    exact this x hx
  · intro h
    rw [List.length_filter_eq_length_iff.2 h]
theorem need_spec {fuel : Nat} (rs : List Rate) (x : Cover) (hr : rs.length ≤ 9223372036854775807) (hf : 100 < fuel) : GsNeededChanges.P fuel rs x = some (needRes rs x) := by
  have e1 := l10One_eq x
  have e2 := fun h1 => poss_spec (rs := rs) h1 x hf
  have hrng := fun c hc => poss_range (rs := rs) (x := x) c hc
  have hlen := poss_len rs x
  have hloop : ∀ l : List Int, (∀ c ∈ l, 0 ≤ c ∧ c ≤ 15) → l.length ≤ 16 → loopK (GsNeededChanges.l0 l) fuel (0, 1) (GsNeededChanges.e0 l) = if l = [] then some (0, false) else some (neededV l, true) := by
    intro l hl h16
    have round : ∀ (i : Nat) (one sum : Int) nx, one ≤ 8 → 0 ≤ one → 0 ≤ sum ∧ sum ≤ 100 → (∀ c, 0 ≤ c ∧ c ≤ 15 → GsL12Has.P c one = some (hb c i)) → GsNeededChanges.l0 l (sum, one) nx (GsNeededChanges.e0 l) = nx (sum + (if (l.all fun c => hb c i) = true then one else 0), 2 * one) := by
      intro i one sum nx h1 h2 h3 hhas
      simp only [GsNeededChanges.l0, unp2, letK, iteK_if, decide_eq_true h1, if_true]
      rw [count_list (p := fun c => hb c i)]
      · simp only [GsNeededChanges.e1, letK, iteK_if, len_all, appK]
        rw [wrap_in (x := 2 * one) (by omega) (by omega)]
        cases l.all fun c => hb c i with
        | true => simp only [if_true]; rw [wrap_in (by omega) (by omega)]
        | false => simp
      · intro k nx c s hc hs
        have hi : idx l (k : Int) = some c := by rw [idx_nat, hc]
        have hk := (List.getElem?_eq_some_iff.1 hc).1
        simp only [GsNeededChanges.l1, hi, hhas c (hl c (List.mem_of_getElem? hc)), Option.bind_some, letK, iteK_if, appK]
        rw [wrap_in (by omega) (by omega)]
        cases hb c i <;> simp
    obtain ⟨f, rfl⟩ : ∃ f, fuel = f + 5 := ⟨fuel - 5, by omega⟩
    have hb01 : ∀ (b : Bool) (n : Int), 0 ≤ n → n ≤ 8 → 0 ≤ (if b = true then n else 0) ∧ (if b = true then n else 0) ≤ 8 := by intro b n h1 h2; cases b <;> simp <;> omega
    have q0 := hb01 (l.all fun c => hb c 0) 1 (by omega) (by omega)
    have q1 := hb01 (l.all fun c => hb c 1) 2 (by omega) (by omega)
    have q2 := hb01 (l.all fun c => hb c 2) 4 (by omega) (by omega)
    show GsNeededChanges.l0 l (0, 1) (fun s => loopK (GsNeededChanges.l0 l) (f + 4) s (GsNeededChanges.e0 l)) (GsNeededChanges.e0 l) = _
    rw [round 0 1 0 _ (by omega) (by omega) (by omega) (fun c hc => (has_eq hc).1)]
    show GsNeededChanges.l0 l (_, 2) (fun s => loopK (GsNeededChanges.l0 l) (f + 3) s (GsNeededChanges.e0 l)) (GsNeededChanges.e0 l) = _
    rw [round 1 2 _ _ (by omega) (by omega) (by omega) (fun c hc => (has_eq hc).2.1)]
    show GsNeededChanges.l0 l (_, 4) (fun s => loopK (GsNeededChanges.l0 l) (f + 2) s (GsNeededChanges.e0 l)) (GsNeededChanges.e0 l) = _
    rw [round 2 4 _ _ (by omega) (by omega) (by omega) (fun c hc => (has_eq hc).2.2.1)]
    show GsNeededChanges.l0 l (_, 8) (fun s => loopK (GsNeededChanges.l0 l) (f + 1) s (GsNeededChanges.e0 l)) (GsNeededChanges.e0 l) = _
    rw [round 3 8 _ _ (by omega) (by omega) (by omega) (fun c hc => (has_eq hc).2.2.2)]
    show GsNeededChanges.l0 l (_, 16) (fun s => loopK (GsNeededChanges.l0 l) f s (GsNeededChanges.e0 l)) (GsNeededChanges.e0 l) = _
    have hno : decide ((16 : Int) ≤ 8) = false := by decide
    simp only [GsNeededChanges.l0, unp2, letK, iteK_if, hno, Bool.false_eq_true, if_false, appK, GsNeededChanges.e0]
    by_cases h0 : l = []
    · subst h0; simp
    · have hz : ((l.length : Int) == 0) = false := by simpa using h0
      rw [if_neg h0]
      simp only [hz, Bool.false_eq_true, if_false, neededV, sumB, Int.zero_add]
  obtain ⟨a, b, e, f, g, i, j, k, m⟩ := x
  simp only [GsNeededChanges.P, unCover, l8Good_eq rs hr (show 17 < fuel by omega), e1, Option.bind_some, letK, joinK, appK, iteK_if, needRes]
  cases h1 : okRs rs with
  | false => simp
  | true =>
    cases h2 : okC ⟨a, b, e, f, g, i, j, k, m⟩ with
    | false => simp
    | true =>
      have hx := hloop _ hrng hlen
      simp only [e2 h1, Option.bind_some, Bool.not_true, Bool.false_eq_true, if_false, hx]
      by_cases h0 : possV rs ⟨a, b, e, f, g, i, j, k, m⟩ = []
      · simp [h0]
      · simp [h0]
end Go.Proofs.YtihibckijdfidaaGreat.Q12Least

namespace Go.Proofs.YtihibckijdfidaaGreat.Q12Facts
open Go.RowKit
open Go.Proofs.YtihibckijdfidaaGreat.GoP Go.Proofs.YtihibckijdfidaaGreat.PlainStamp Go.Proofs.YtihibckijdfidaaGreat.QBase Go.Proofs.YtihibckijdfidaaGreat.Q12Rank Go.Proofs.YtihibckijdfidaaGreat.Q12Least Go.Proofs.YtihibckijdfidaaGreat.Q12All Go.Proofs.YtihibckijdfidaaGreat.Q12Made Go.Proofs.YtihibckijdfidaaGreat.Q12Cover Go.Proofs.YtihibckijdfidaaGreat.Q12Cost Go.Proofs.YtihibckijdfidaaGreat.Q12Bits Go.Proofs.YtihibckijdfidaaGreat.Q8For Go.Proofs.YtihibckijdfidaaGreat.Q8List Go.Proofs.YtihibckijdfidaaGreat.Q8Rate Go.Proofs.YtihibckijdfidaaGreat.QLoop Go.Proofs.YtihibckijdfidaaGreat.PRate Go.Proofs.YtihibckijdfidaaGreat.PCover

/-- what a made cover is -/
theorem made_is {rs : List Rate} (h : okRs rs = true) {x y : Cover} (hx : okC x = true) {c : Int} (hy : madeV rs x c = some y) :
    okC y = true ∧ y.paid = rateC rs y ∧ y.id = x.id ∧ y.from_ = x.from_ ∧ y.to_ = x.to_ ∧ y.leave = x.leave ∧ y.arrive = x.arrive ∧ (hb c 0 = false → y.day = x.day) ∧ (hb c 1 = false → y.zone = x.zone) ∧ (hb c 2 = false → y.grams = x.grams) ∧ (hb c 3 = false → y.paid = x.paid) := by
  unfold madeV inD at hy
  obtain ⟨d, hd, hy⟩ := List.exists_of_findSome?_eq_some hy
  obtain ⟨z, hz, hy⟩ := List.exists_of_findSome?_eq_some hy
  obtain ⟨g, hg, hy⟩ := List.exists_of_findSome?_eq_some hy
  obtain ⟨h1, h2, rfl⟩ := try_some hy
  obtain ⟨r, hr, e1, e2, e3, e4, e5⟩ := rate_pos h1
  have hok := okR_of (rs_mem h hr)
  have hc := okC_of hx
  have hg1 : 1 ≤ g := by
    unfold weightsI at hg
    split at hg
    · rcases mem_weights.1 hg with e | ⟨q, hq, e⟩
      · omega
      · have := okR_of (rs_mem h hq); omega
    · rw [List.mem_singleton] at hg; omega
  have b1 : inB d 0 4000 = true := by unfold inB; simp; omega
  have b2 : inB z 0 9 = true := by unfold inB; simp; omega
  have b3 : inB g 1 2000 = true := by unfold inB; simp; omega
  have b4 : inB (rateV rs d z g) 1 9999 = true := by unfold inB; simp; omega
  refine ⟨?_, rfl, rfl, rfl, rfl, rfl, rfl, ?_, ?_, ?_, ?_⟩
  · unfold okC at hx ⊢
    simp only [Bool.and_eq_true] at hx
    obtain ⟨⟨⟨⟨⟨⟨⟨⟨⟨⟨a1, a2⟩, a3⟩, a4⟩, a5⟩, a6⟩, a7⟩, a8⟩, a9⟩, a10⟩, a11⟩ := hx
    dsimp only
    rw [a1, b1, b2, b3, b4, a6, a7, a8, a9, a10, a11]; rfl
  · intro hq; unfold daysI at hd; rw [hq] at hd; simpa using hd
  · intro hq; unfold zonesI at hz; rw [hq] at hz; simpa using hz
  · intro hq; unfold weightsI at hg; rw [hq] at hg; simpa using hg
  · intro hq; rcases h2 with h2 | h2
    · exact h2
    · rw [hq] at h2; simp at h2
/-- a cover is explained exactly if the change 0 makes one -/
theorem zero_poss {rs : List Rate} {x : Cover} (hx : okC x = true) : (0 : Int) ∈ possV rs x ↔ x.paid = rateC rs x := by
  have hc := okC_of hx
  have hm : madeV rs x 0 = try3 rs x 0 x.day x.zone x.grams := by
    have q0 : hb 0 0 = false := by decide
    have q1 : hb 0 1 = false := by decide
    have q2 : hb 0 2 = false := by decide
    unfold madeV inD daysI zonesI weightsI
    rw [q0, q1, q2]
    simp only [Bool.false_eq_true, if_false, List.findSome?_cons, List.findSome?_nil]
    cases try3 rs x 0 x.day x.zone x.grams <;> rfl
  rw [mem_poss, hm]
  have q3 : hb 0 3 = false := by decide
  unfold try3 rateC
  rw [q3]
  constructor
  · rintro ⟨_, h⟩
    split at h
    · rename_i hh
      simp at hh
      exact hh.2.symm
    · simp at h
  · intro h
    refine ⟨by omega, ?_⟩
    rw [if_pos (by simp; omega)]
    rfl
theorem and_need {l : List Int} (hl : ∀ c ∈ l, 0 ≤ c ∧ c ≤ 15) {c : Int} (hc : c ∈ l) : bits .and IntKind.i64 c (neededV l) = neededV l := by
  have hn := hb_sum (l.all fun c => hb c 0) (l.all fun c => hb c 1) (l.all fun c => hb c 2) (l.all fun c => hb c 3)
  change hb (neededV l) 0 = _ ∧ hb (neededV l) 1 = _ ∧ hb (neededV l) 2 = _ ∧ hb (neededV l) 3 = _ ∧ 0 ≤ neededV l ∧ neededV l ≤ 15 at hn
  obtain ⟨n0, n1, n2, n3, n4, n5⟩ := hn
  obtain ⟨r, e0, e1, e2, e3⟩ := both_eq (hl c hc) ⟨n4, n5⟩
  have key : ∀ i : Nat, (l.all fun c => hb c i) = (hb c i && l.all fun c => hb c i) := by
    intro i
    cases ha : l.all fun c => hb c i with
    | false => simp
    | true => rw [List.all_eq_true.1 ha c hc]; rfl
  rw [n0, ← key] at e0
  rw [n1, ← key] at e1
  rw [n2, ← key] at e2
  rw [n3, ← key] at e3
  have h1 := sum_hb r
  rw [e0, e1, e2, e3] at h1
  exact h1.symm
end Go.Proofs.YtihibckijdfidaaGreat.Q12Facts

namespace Go.Proofs.YtihibckijdfidaaGreat.QDraw
open Go.RowKit
open Go.Proofs.YtihibckijdfidaaGreat.GoP Go.Proofs.YtihibckijdfidaaGreat.PlainStamp Go.Proofs.YtihibckijdfidaaGreat.QBase Go.Proofs.YtihibckijdfidaaGreat.QLoop

/-- a tape that may be asked m times more -/
def good (t : GoC.Tape) (m : Nat) : Prop := m ≤ t.left ∧ ∀ i, 0 ≤ t.vals i ∧ t.vals i ≤ 255
theorem good_less {t : GoC.Tape} {m n : Nat} (h : good t m) (hn : n ≤ m) : good t n := ⟨Nat.le_trans hn h.1, h.2⟩
theorem good_of {tapes : List Int → GoC.Tape} (h : GoC.Tells tapes) (code : List Int) {m : Nat} (hm : m ≤ 4611686018427387904) : good (tapes code) m := ⟨by rw [h.1]; exact hm, h.2.1 code⟩
theorem next_ok {t : GoC.Tape} {m : Nat} (h : good t (m + 1)) : ∃ b t', GsL1CurNext.P t = some (b, t') ∧ (0 ≤ b ∧ b ≤ 255) ∧ good t' m := by
  unfold GsL1CurNext.P
  rw [if_pos (by have := h.1; omega)]
  exact ⟨_, _, rfl, h.2 0, by have := h.1; show m ≤ t.left - 1; omega, fun i => h.2 (i + 1)⟩
theorem pick_ok {t : GoC.Tape} {m : Nat} {n : Int} (h : good t (m + 2)) : ∃ x t', GsL1CurPick.P t n = some (x, t') ∧ 0 ≤ x ∧ (x < n ∨ n ≤ 1 ∧ x = 0) ∧ x ≤ 65535 ∧ good t' m := by
  simp only [GsL1CurPick.P, letK, iteK_if]
  by_cases hn : n ≤ 1
  · rw [if_pos (by simpa using hn)]
    exact ⟨0, t, rfl, by omega, by omega, by omega, good_less h (by omega)⟩
  · rw [if_neg (by simpa using hn)]
    obtain ⟨b, t1, e1, hb, h1⟩ := next_ok (m := m + 1) h
    rw [e1]
    simp only [bind2_some]
    by_cases h2 : 200 < n
    · rw [if_pos (by simpa using h2)]
      obtain ⟨b2, t2, e2, hb2, h3⟩ := next_ok (m := m) h1
      rw [e2]
      simp only [bind2_some, GsL1CurPick.j0, unp2, letK]
      rw [guardK_pos (by omega), wrap_in (x := b * 256) (by omega) (by omega), wrap_in (by omega) (by omega), Int.tmod_eq_emod_of_nonneg (by omega)]
      have k1 := Int.emod_nonneg (b * 256 + b2) (show n ≠ 0 by omega)
      have k2 := Int.emod_lt_of_pos (b * 256 + b2) (show 0 < n by omega)
      have k3 : (b * 256 + b2) % n ≤ 65535 := by
        by_cases hq : n ≤ 65536
        · omega
        · rw [Int.emod_eq_of_lt (by omega) (by omega)]; omega
      exact ⟨_, _, rfl, k1, .inl k2, by omega, h3⟩
    · rw [if_neg (by simpa using h2)]
      simp only [GsL1CurPick.j0, unp2, letK]
      rw [guardK_pos (by omega), Int.tmod_eq_emod_of_nonneg (by omega)]
      have k1 := Int.emod_nonneg b (show n ≠ 0 by omega)
      have k2 := Int.emod_lt_of_pos b (show 0 < n by omega)
      exact ⟨_, _, rfl, k1, .inl k2, by omega, good_less h1 (by omega)⟩
theorem among_ok {t : GoC.Tape} {m : Nat} {l : List Int} (h : good t (m + 2)) (h0 : 0 < l.length) : ∃ x t', GsL1CurAmong.P t l = some (x, t') ∧ x ∈ l ∧ good t' m := by
  obtain ⟨x, t', e, hx0, hx, _, hg⟩ := pick_ok (n := (l.length : Int)) h
  simp only [GsL1CurAmong.P, e, bind2_some]
  obtain ⟨y, hy, hyi⟩ := at_lt (l := l) (k := x.toNat) (by omega)
  rw [show ((x.toNat : Nat) : Int) = x by omega] at hyi
  exact ⟨y, t', by rw [hyi]; rfl, List.mem_of_getElem? hy, hg⟩
theorem one_ok {t : GoC.Tape} {m : Nat} {n : Int} (h : good t (m + 2)) : ∃ b t', GsL1CurOne.P t n = some (b, t') ∧ good t' m := by
  obtain ⟨x, t', e, _, _, _, hg⟩ := pick_ok (n := n) h
  exact ⟨x == 0, t', by simp only [GsL1CurOne.P, e, bind2_some, letK], hg⟩
end Go.Proofs.YtihibckijdfidaaGreat.QDraw

namespace Go.Proofs.YtihibckijdfidaaGreat.Q8Draws
open Go.RowKit
open Go.Proofs.YtihibckijdfidaaGreat.GoP Go.Proofs.YtihibckijdfidaaGreat.PlainStamp Go.Proofs.YtihibckijdfidaaGreat.QBase Go.Proofs.YtihibckijdfidaaGreat.QDraw Go.Proofs.YtihibckijdfidaaGreat.QUp Go.Proofs.YtihibckijdfidaaGreat.QAll Go.Proofs.YtihibckijdfidaaGreat.QLoop Go.Proofs.YtihibckijdfidaaGreat.PRate

def smR (x : Rate) : Prop := (-10000 ≤ x.zone ∧ x.zone ≤ 10000) ∧ (-10000 ≤ x.grams ∧ x.grams ≤ 10000) ∧ (-10000 ≤ x.from_ ∧ x.from_ ≤ 10000) ∧ (-10000 ≤ x.until_ ∧ x.until_ ≤ 10000) ∧ (-10000 ≤ x.cents ∧ x.cents ≤ 10000)
theorem rate8_ok {t : GoC.Tape} {m : Nat} (z g f : Int) (hz : -10000 ≤ z ∧ z ≤ 10000) (hg : -10000 ≤ g ∧ g ≤ 10000) (hf : -6000 ≤ f ∧ f ≤ 6000) (h : good t (m + 8)) : ∃ x t', GsL1CurRate.P t z g f = some (x, t') ∧ smR x ∧ (f - 1 ≤ x.until_ ∨ 4000 ≤ x.until_) ∧ good t' m := by
  obtain ⟨a, t1, e1, ha, h1⟩ := among_ok (l := [5, 9, 9, 19]) (m := m + 6) h (by simp)
  obtain ⟨c, t2, e2, hc, h2⟩ := among_ok (l := [3, 5, 5, 10, 12, 25, 9999]) (m := m + 4) h1 (by simp)
  obtain ⟨p, t3, e3, hp0, hp, _, h3⟩ := pick_ok (n := 64) (m := m + 2) h2
  have ha2 : 0 ≤ a ∧ a ≤ 19 := by simp only [List.mem_cons, List.not_mem_nil, or_false] at ha; omega
  have hc2 : 0 ≤ c ∧ c ≤ 9999 := by simp only [List.mem_cons, List.not_mem_nil, or_false] at hc; omega
  simp only [GsL1CurRate.P, letK, e1, e2, e3, bind2_some, iteK_if]
  rw [wrap_in (x := f + a) (by omega) (by omega), wrap_in (x := f - 1) (by omega) (by omega)]
  by_cases hp1 : p = 0
  · obtain ⟨u, t4, e4, hu, h4⟩ := among_ok (l := [f - 1, 4000, 4001]) (m := m) h3 (by simp)
    simp only [List.mem_cons, List.not_mem_nil, or_false] at hu
    refine ⟨⟨z, g, f, u, c⟩, t4, by simp only [hp1, beq_self_eq_true, if_true, e4, bind2_some], ⟨hz, hg, ?_, ?_, ?_⟩, ?_, h4⟩ <;> dsimp only <;> omega
  · have hpb : (p == 0) = false := by simpa using hp1
    by_cases hp2 : p = 1
    · obtain ⟨u, t4, e4, hu, h4⟩ := among_ok (l := [0, 10000]) (m := m) h3 (by simp)
      simp only [List.mem_cons, List.not_mem_nil, or_false] at hu
      refine ⟨⟨z, g, f, f + a, u⟩, t4, by simp only [hp2, show ((1 : Int) == 0) = false from rfl, Bool.false_eq_true, if_false, beq_self_eq_true, if_true, e4, bind2_some], ⟨hz, hg, ?_, ?_, ?_⟩, ?_, h4⟩ <;> dsimp only <;> omega
    · have hpb2 : (p == 1) = false := by simpa using hp2
      refine ⟨⟨z, g, f, f + a, c⟩, t3, by simp only [hpb, hpb2, Bool.false_eq_true, if_false], ⟨hz, hg, ?_, ?_, ?_⟩, ?_, good_less h3 (by omega)⟩ <;> dsimp only <;> omega
/-- one round: at most two rates more -/
theorem round8_ok {R : Type} {k0 k1 : Nat} (hk0 : k0 < 3) (hk1 : k1 < 3) {l : List Rate} {t : GoC.Tape} {m : Nat} (hl : l.length ≤ 1000) (hs : ∀ x ∈ l, smR x) (h : good t (m + 24)) (nx bk : List Rate × GoC.Tape → Option (List Rate × GoC.Tape)) :
    ∃ l' t', GsL1CurRates.l1 k0 k1 (l, t) nx bk = nx (l', t') ∧ l'.length ≤ l.length + 2 ∧ (∀ x ∈ l', smR x) ∧ good t' m := by
  obtain ⟨b, t1, e1, h1⟩ := one_ok (n := 2) (m := m + 22) h
  simp only [GsL1CurRates.l1, unp2, e1, bind2_some, iteK_if]
  cases b with
  | false => exact ⟨l, t1, by simp [appK], by omega, hs, good_less h1 (by omega)⟩
  | true =>
    obtain ⟨gr, hgr, hgi⟩ := at_lt (l := [(20 : Int), 50, 100]) (k := k1) hk1
    have hgm := List.mem_of_getElem? hgr
    simp only [List.mem_cons, List.not_mem_nil, or_false] at hgm
    obtain ⟨f, t2, e2, hf, h2⟩ := among_ok (l := [0, 0, 5]) (m := m + 20) h1 (by simp)
    simp only [List.mem_cons, List.not_mem_nil, or_false] at hf
    obtain ⟨x, t3, e3, hx, hxu, h3⟩ := rate8_ok (m := m + 12) (k0 : Int) gr f (by omega) (by omega) (by omega) h2
    obtain ⟨b2, t4, e4, h4⟩ := one_ok (n := 2) (m := m + 10) h3
    have hxe : Rate.mk x.zone x.grams x.from_ x.until_ x.cents = x := rfl
    have hlen : IntKind.i64.wrap (((l ++ [x]).length : Int) - 1) = (l.length : Int) := by rw [List.length_append, List.length_singleton, wrap_in (by omega) (by omega)]; omega
    have hidx : idx (l ++ [x]) (l.length : Int) = some x := by rw [idx_nat]; simp
    have hs2 : ∀ y ∈ l ++ [x], smR y := by
      intro y hy
      rcases List.mem_append.1 hy with hy | hy
      · exact hs y hy
      · obtain rfl := List.mem_singleton.1 hy; exact hx
    simp only [if_true, letK, hgi, Option.bind_some, e2, e3, e4, bind2_some, unRate, hxe, GsL1CurRates.q0, GsL1CurRates.q1, unp2]
    rw [guardK_pos (by omega), hlen, hidx]
    simp only [Option.bind_some, joinK, appK, iteK_if]
    have stop : ∃ l' t', nx (l ++ [x], t4) = nx (l', t') ∧ l'.length ≤ l.length + 2 ∧ (∀ x ∈ l', smR x) ∧ good t' m := ⟨l ++ [x], t4, rfl, by simp, hs2, good_less h4 (by omega)⟩
    cases b2 with
    | false => simpa using stop
    | true =>
      by_cases hu : x.until_ < 30
      · obtain ⟨a, t5, e5, ha, h5⟩ := among_ok (l := [1, 1, 3]) (m := m + 8) h4 (by simp)
        simp only [List.mem_cons, List.not_mem_nil, or_false] at ha
        have hub := hx.2.2.2.1
        have hgb := hx.2.1
        obtain ⟨y, t6, e6, hy, _, h6⟩ := rate8_ok (m := m) (k0 : Int) x.grams (x.until_ + a) (by omega) hgb (by omega) h5
        have hye : Rate.mk y.zone y.grams y.from_ y.until_ y.cents = y := rfl
        have hw : IntKind.i64.wrap (x.until_ + a) = x.until_ + a := wrap_in (by omega) (by omega)
        simp only [decide_eq_true hu, if_true, e5, bind2_some, hw, e6, hye]
        rw [guardK_pos (by rw [List.length_append]; simp; omega)]
        refine ⟨(l ++ [x]) ++ [y], t6, rfl, by simp, ?_, h6⟩
        intro v hv
        rcases List.mem_append.1 hv with hv | hv
        · exact hs2 v hv
        · obtain rfl := List.mem_singleton.1 hv; exact hy
      · simp only [decide_eq_false hu, Bool.false_eq_true, if_false, if_true]
        exact stop
theorem more8_ok {t : GoC.Tape} {m : Nat} (fuel : Nat) (hf : 1048577 ≤ fuel) (l : List Rate) (hl : l.length ≤ 18) (hs : ∀ x ∈ l, smR x) (h : good t (m + 40)) : ∃ r : List Rate × GoC.Tape, loopK GsL1CurRates.l2 fuel (l, t) GsL1CurRates.e2 = some r ∧ (r.1.length ≤ 40 ∧ (∀ x ∈ r.1, smR x) ∧ good r.2 m) := by
  refine lp_ex (n := 18) (fun k (s : List Rate × GoC.Tape) => s.1.length = l.length + k ∧ (∀ x ∈ s.1, smR x) ∧ good s.2 (m + 40 - 2 * k)) ?_ ?_ fuel 0 _ (by omega) (by omega) ⟨rfl, hs, h⟩
  · rintro k ⟨o, c⟩ nx hk ⟨h1, h3, h4⟩ hn
    dsimp only at h1 h3 h4
    obtain ⟨x, c1, e, hx0, hx, _, hg⟩ := pick_ok (n := 2) (m := m + 38 - 2 * k) (good_less h4 (by omega))
    simp only [GsL1CurRates.l2, unp2, e, bind2_some, letK, iteK_if]
    rw [wrap_in (x := 16 + x) (by omega) (by omega)]
    by_cases hc : (o.length : Int) < 16 + x
    · rw [if_pos (by simpa using hc), wrap_in (x := 10 + (o.length : Int)) (by omega) (by omega), guardK_pos (by omega)]
      refine hn _ ⟨by simp [h1]; omega, ?_, good_less hg (by omega)⟩
      intro y hy
      rcases List.mem_append.1 hy with hy | hy
      · exact h3 y hy
      · obtain rfl := List.mem_singleton.1 hy
        refine ⟨?_, ?_, ?_, ?_, ?_⟩ <;> dsimp only <;> omega
    · rw [if_neg (by simpa using hc)]
      exact ⟨_, rfl, by dsimp only; omega, h3, good_less hg (by omega)⟩
  · rintro ⟨o, c⟩ nx ⟨h1, h3, h4⟩
    dsimp only at h1 h3 h4
    obtain ⟨x, c1, e, hx0, hx, _, hg⟩ := pick_ok (n := 2) (m := m) (good_less h4 (by omega))
    simp only [GsL1CurRates.l2, unp2, e, bind2_some, letK, iteK_if]
    rw [wrap_in (x := 16 + x) (by omega) (by omega), if_neg (by simp; omega)]
    exact ⟨_, rfl, by dsimp only; omega, h3, hg⟩
theorem end8_ok {t : GoC.Tape} {m : Nat} (fuel : Nat) (hf : 1048577 ≤ fuel) (l : List Rate) (hl : l.length ≤ 18) (hs : ∀ x ∈ l, smR x) (h : good t (m + 50)) : ∃ r : List Rate × GoC.Tape, GsL1CurRates.e0 fuel (l, t) = some r ∧ (r.1.length ≤ 40 ∧ (∀ x ∈ r.1, smR x) ∧ good r.2 m) := by
  obtain ⟨p, t1, e1, hp0, hp, _, h1⟩ := pick_ok (n := 32) (m := m + 48) h
  simp only [GsL1CurRates.e0, unp2, e1, bind2_some, letK, iteK_if]
  by_cases hp1 : p = 0
  · obtain ⟨z, t2, e2, hz, h2⟩ := among_ok (l := [(-1), 2, 9, 10]) (m := m + 46) h1 (by simp)
    obtain ⟨g, t3, e3, hg, h3⟩ := among_ok (l := [0, 100, 2000, 2001]) (m := m + 44) h2 (by simp)
    simp only [List.mem_cons, List.not_mem_nil, or_false] at hz hg
    obtain ⟨x, t4, e4, hx, _, h4⟩ := rate8_ok (m := m + 36) z g 3 (by omega) (by omega) (by omega) h3
    have hxe : Rate.mk x.zone x.grams x.from_ x.until_ x.cents = x := rfl
    simp only [hp1, beq_self_eq_true, if_true, e2, e3, e4, bind2_some, unRate, hxe]
    rw [guardK_pos (by omega)]
    refine ⟨_, rfl, by simp; omega, ?_, good_less h4 (by omega)⟩
    intro y hy
    rcases List.mem_append.1 hy with hy | hy
    · exact hs y hy
    · obtain rfl := List.mem_singleton.1 hy; exact hx
  · have hpb : (p == 0) = false := by simpa using hp1
    by_cases hp2 : p = 1
    · simp only [hp2, show ((1 : Int) == 0) = false from rfl, Bool.false_eq_true, if_false, beq_self_eq_true, if_true]
      exact more8_ok fuel hf l hl hs (good_less h1 (by omega))
    · have hpb2 : (p == 1) = false := by simpa using hp2
      simp only [hpb, hpb2, Bool.false_eq_true, if_false]
      exact ⟨_, rfl, by dsimp only; omega, hs, good_less h1 (by omega)⟩
theorem rates8_ok {t : GoC.Tape} {m : Nat} (fuel : Nat) (hf : 1048577 ≤ fuel) (h : good t (m + 300)) : ∃ l t', GsL1CurRates.P fuel t = some (l, t') ∧ l.length ≤ 40 ∧ (∀ x ∈ l, smR x) ∧ good t' m := by
  obtain ⟨⟨l, t'⟩, h1, h2⟩ : ∃ r : List Rate × GoC.Tape, GsL1CurRates.P fuel t = some r ∧ (r.1.length ≤ 40 ∧ (∀ x ∈ r.1, smR x) ∧ good r.2 m) := by
    simp only [GsL1CurRates.P]
    refine cnt_ex (n := 3) (fun k (s : List Rate × GoC.Tape) => s.1.length ≤ 6 * k ∧ (∀ x ∈ s.1, smR x) ∧ good s.2 (m + 300 - 72 * k)) ?_ ?_ 3 0 _ (by omega) ⟨by simp, by simp, h⟩
    · rintro k ⟨l, c⟩ nx hk ⟨g1, g2, g3⟩ hn
      dsimp only at g1 g2 g3
      simp only [GsL1CurRates.l0, unp2]
      refine cnt_ex (n := 3) (fun j (s : List Rate × GoC.Tape) => s.1.length ≤ 6 * k + 2 * j ∧ (∀ x ∈ s.1, smR x) ∧ good s.2 (m + 300 - 72 * k - 24 * j)) ?_ ?_ 3 0 _ (by omega) ⟨by simpa using g1, g2, g3⟩
      · rintro j ⟨l2, c2⟩ nx2 hj ⟨k1, k2, k3⟩ hn2
        dsimp only at k1 k2 k3
        obtain ⟨l3, c3, e, q1, q2, q3⟩ := round8_ok (R := Unit) hk hj (m := m + 300 - 72 * k - 24 * j - 24) (by omega) k2 (good_less k3 (by omega)) nx2 (GsL1CurRates.e1 nx)
        rw [e]
        exact hn2 _ ⟨by dsimp only; omega, q2, good_less q3 (by omega)⟩
      · rintro ⟨l2, c2⟩ ⟨k1, k2, k3⟩
        dsimp only at k1 k2 k3
        simp only [GsL1CurRates.e1, unp2, appK]
        exact hn _ ⟨by dsimp only; omega, k2, good_less k3 (by omega)⟩
    · rintro ⟨l, c⟩ ⟨g1, g2, g3⟩
      dsimp only at g1 g2 g3
      exact end8_ok fuel hf l (by omega) g2 (good_less g3 (by omega))
  exact ⟨l, t', h1, h2⟩
end Go.Proofs.YtihibckijdfidaaGreat.Q8Draws

namespace Go.Proofs.YtihibckijdfidaaGreat.Q12Draws
open Go.RowKit
open Go.Proofs.YtihibckijdfidaaGreat.GoP Go.Proofs.YtihibckijdfidaaGreat.PlainStamp Go.Proofs.YtihibckijdfidaaGreat.QBase Go.Proofs.YtihibckijdfidaaGreat.Q8Draws Go.Proofs.YtihibckijdfidaaGreat.Q8For Go.Proofs.YtihibckijdfidaaGreat.Q8List Go.Proofs.YtihibckijdfidaaGreat.Q8Rate Go.Proofs.YtihibckijdfidaaGreat.QDraw Go.Proofs.YtihibckijdfidaaGreat.QUp Go.Proofs.YtihibckijdfidaaGreat.QAll Go.Proofs.YtihibckijdfidaaGreat.QLoop Go.Proofs.YtihibckijdfidaaGreat.PCover Go.Proofs.YtihibckijdfidaaGreat.PRate Go.Proofs.YtihibckijdfidaaGreat.PIntA4

theorem coverTail_ok {m : Nat} {c : GoC.Tape} (s : Int × Int × Int × Int × Int × Int × Int × Int × Int) (h : good c (m + 4)) : ∃ x t', GsL1CurCover.j0 c s = some (x, t') ∧ good t' m := by
  obtain ⟨x0, x1, x2, x3, x4, x5, x6, x7, x8⟩ := s
  obtain ⟨p, t1, e1, _, _, _, h1⟩ := pick_ok (n := 64) (m := m + 2) h
  simp only [GsL1CurCover.j0, unp9, letK, e1, bind2_some, iteK_if]
  by_cases hp : p = 0
  · obtain ⟨u, t2, e2, _, h2⟩ := among_ok (l := [0, 10000]) (m := m) h1 (by simp)
    exact ⟨_, _, by simp only [hp, beq_self_eq_true, if_true, e2, bind2_some]; rfl, h2⟩
  · have hpb : (p == 0) = false := by simpa using hp
    by_cases hp2 : p = 1
    · obtain ⟨u, t2, e2, _, h2⟩ := among_ok (l := [(-1), 9999, 10000]) (m := m) h1 (by simp)
      exact ⟨_, _, by simp only [hp2, show ((1 : Int) == 0) = false from rfl, Bool.false_eq_true, if_false, beq_self_eq_true, if_true, e2, bind2_some]; rfl, h2⟩
    · have hpb2 : (p == 1) = false := by simpa using hp2
      exact ⟨_, _, by simp only [hpb, hpb2, Bool.false_eq_true, if_false]; rfl, good_less h1 (by omega)⟩
theorem cover10_ok {t : GoC.Tape} {m : Nat} (id : Int) (h : good t (m + 22)) : ∃ x t', GsL1CurCover.P t id = some (x, t') ∧ good t' m := by
  obtain ⟨a1, t1, e1, _, h1⟩ := among_ok (l := [0, 0, 5, 10, 11]) (m := m + 20) h (by simp)
  obtain ⟨a2, t2, e2, _, h2⟩ := among_ok (l := [0, 4, 5, 9, 10, 14]) (m := m + 18) h1 (by simp)
  obtain ⟨a3, t3, e3, _, _, _, h3⟩ := pick_ok (n := 3) (m := m + 16) h2
  obtain ⟨a4, t4, e4, _, h4⟩ := among_ok (l := [1, 20, 21, 50, 100, 101]) (m := m + 14) h3 (by simp)
  obtain ⟨a5, t5, e5, _, h5⟩ := among_ok (l := [3, 4, 5, 5, 10, 12, 25, 60]) (m := m + 12) h4 (by simp)
  obtain ⟨a6, t6, e6, _, _, _, h6⟩ := pick_ok (n := 4) (m := m + 10) h5
  obtain ⟨a7, t7, e7, _, _, _, h7⟩ := pick_ok (n := 4) (m := m + 8) h6
  obtain ⟨a8, t8, e8, _, h8⟩ := among_ok (l := [0, 10, 30, 60, 90, 900]) (m := m + 6) h7 (by simp)
  simp only [GsL1CurCover.P, letK, e1, e2, e3, e4, e5, e6, e7, e8, bind2_some, joinK, appK, iteK_if, unp2]
  by_cases hq : a6 = a7
  · obtain ⟨b, t9, e9, h9⟩ := one_ok (n := 16) (m := m + 4) h8
    simp only [hq, beq_self_eq_true, if_true, e9, bind2_some]
    cases b with
    | true => simp only [Bool.not_true, Bool.false_eq_true, if_false]; exact coverTail_ok _ h9
    | false => simp only [Bool.not_false, if_true]; exact coverTail_ok _ h9
  · have hqb : (a6 == a7) = false := by simpa using hq
    simp only [hqb, Bool.false_eq_true, if_false]; exact coverTail_ok _ (good_less h8 (by omega))
theorem explained_ok {t : GoC.Tape} {m : Nat} (fuel : Nat) (hf : 1048577 ≤ fuel) (h : good t (m + 340)) : ∃ rs x t', GsL1CurExplained.P fuel t = some (rs, x, t') ∧ rs.length ≤ 40 ∧ good t' m := by
  obtain ⟨rs, t1, e1, hr, _, h1⟩ := rates8_ok (m := m + 40) fuel hf h
  obtain ⟨x, t2, e2, h2⟩ := cover10_ok (m := m + 10) 7 (good_less h1 (by omega))
  obtain ⟨b, t3, e3, h3⟩ := one_ok (n := 3) (m := m) (good_less h2 (by omega))
  obtain ⟨x0, x1, x2, x3, x4, x5, x6, x7, x8⟩ := x
  simp only [GsL1CurExplained.P, e1, e2, bind2_some, unCover, l8For_eq, Option.bind_some, letK, joinK, appK, iteK_if]
  by_cases hp : 0 < rateV rs x1 x2 x3
  · rw [if_pos (by simpa using hp)]
    simp only [e3, bind2_some, unp2, GsL1CurExplained.j0, unp9]
    cases b with
    | true => exact ⟨_, _, _, rfl, hr, h3⟩
    | false => exact ⟨_, _, _, rfl, hr, h3⟩
  · rw [if_neg (by simpa using hp)]
    exact ⟨_, _, _, rfl, hr, good_less h2 (by omega)⟩
theorem drawLeast_ok {tapes : List Int → GoC.Tape} (ht : GoC.Tells tapes) (code : List Int) (fuel : Nat) (hf : 1048577 ≤ fuel) : ∃ rs x, GsDrawLeastChange.P fuel tapes code = some (rs, x) ∧ rs.length ≤ 40 := by
  obtain ⟨rs, x, t1, e1, hr, _⟩ := explained_ok (m := 10) fuel hf (good_of ht code (by omega))
  refine ⟨rs, x, ?_, hr⟩
  obtain ⟨x0, x1, x2, x3, x4, x5, x6, x7, x8⟩ := x
  simp only [GsDrawLeastChange.P, GsDrawIsExplained.P, letK, e1, bind3_some, bind2_some, unCover]
end Go.Proofs.YtihibckijdfidaaGreat.Q12Draws

namespace Go.Proofs.YtihibckijdfidaaGreat.QVInts
open Go.RowKit
open Go.Proofs.YtihibckijdfidaaGreat.GoP Go.Proofs.YtihibckijdfidaaGreat.PlainStamp Go.Proofs.YtihibckijdfidaaGreat.QBase Go.Proofs.YtihibckijdfidaaGreat.QLoop

theorem vInts_self (l : List Int) : GlVInts.P l l = some true := by
  simp only [GlVInts.P, letK, iteK_if]
  rw [if_neg (by simp)]
  refine cnt_is true (fun _ _ => True) ?_ (fun s _ => rfl) () trivial
  rintro k ⟨⟩ nx hk _ hn
  obtain ⟨x, _, hi⟩ := at_lt (l := l) (k := k) hk
  simp only [GlVInts.l0, hi, Option.bind_some, letK, appK, iteK_if]
  rw [if_neg (by simp)]; exact hn () trivial
theorem vHas_yes {l : List Int} {x : Int} (h : x ∈ l) : GlVHas.P l x = some true := by
  obtain ⟨j, hj⟩ := List.getElem?_of_mem h
  have hjl := (List.getElem?_eq_some_iff.1 hj).1
  simp only [GlVHas.P]
  have key : ∀ m k, k + m = l.length → k ≤ j → cntK (GlVHas.l0 l x) m k () GlVHas.e0 = some true := by
    intro m
    induction m with
    | zero => intro k hk hkj; omega
    | succ m ih =>
      intro k hk hkj
      obtain ⟨y, hy, hi⟩ := at_lt (l := l) (k := k) (by omega)
      show GlVHas.l0 l x k () _ _ = _
      simp only [GlVHas.l0, hi, Option.bind_some, letK, appK, iteK_if]
      by_cases hc : y = x
      · rw [if_pos (by simpa using hc)]
      · rw [if_neg (by simpa using hc)]
        refine ih (k + 1) (by omega) ?_
        by_cases he : k = j
        · subst he; rw [hy] at hj; exact absurd (Option.some.inj hj) hc
        · omega
  exact key l.length 0 (by omega) (by omega)
end Go.Proofs.YtihibckijdfidaaGreat.QVInts

