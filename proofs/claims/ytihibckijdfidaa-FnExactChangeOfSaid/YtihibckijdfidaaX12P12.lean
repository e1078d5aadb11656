/- Texts on which the proofs of several laws stand, one behind the other (12 of 24). No condition of their own. -/
import Derived.Test.YtihibckijdfidaaChecked
import Derived.Test.YtihibckijdfidaaX12P1
import Derived.Test.YtihibckijdfidaaX12P2
import Derived.Test.YtihibckijdfidaaX12P11
import Derived.Test.YtihibckijdfidaaX12P3
import Derived.Test.YtihibckijdfidaaX12P9
import Derived.WalkKit
import Derived.WalkSpells
import Derived.WalkLawsBesides
import Derived.BigQuiet
import Derived.OwnWalk
import Derived.Deep.LoopGhost
import Derived.Deep.QuietTactic
import Derived.IntWalk
import Derived.Lib.QuietBelow
import Derived.StillTailTactics
import Derived.Deep.RegionHeld3
import Derived.Laws.EntriesVeiled
import Derived.Test.YtihibckijdfidaaX12P10
import Derived.Test.YtihibckijdfidaaX12P8
import Derived.Test.YtihibckijdfidaaX12P6
import Derived.Test.YtihibckijdfidaaX12P4
set_option linter.unusedVariables false
set_option linter.unusedSimpArgs false
namespace Go.Proofs.Ytihibckijdfidaa.GsLeastChange
open Go.RowKit
open Go.Proofs.Ytihibckijdfidaa.Rowed Go.Proofs.Ytihibckijdfidaa.Turn Go.Proofs.Ytihibckijdfidaa.Aid Go.Proofs.Ytihibckijdfidaa.GoP Go.Proofs.Ytihibckijdfidaa.GoM

def P (fuel : Nat) (rates : (List PRate.Rate)) (x : PCover.Cover) : Option (Int × PCover.Cover × Bool) :=
 unCover x fun (x_id : Int) (x_day : Int) (x_zone : Int) (x_grams : Int) (x_paid : Int) (x_from_ : Int) (x_to_ : Int) (x_leave : Int) (x_arrive : Int) =>
 Option.bind (GsL8Good.P fuel rates) fun (t_5 : Bool) =>
 letK (!t_5) fun (t_6 : Bool) =>
 joinK (fun (t_11 : Bool) =>
 iteK t_11
 (some (0, (PCover.Cover.mk 0 0 0 0 0 0 0 0 0), false))
 (bind2 (GsL12Best.P fuel rates (PCover.Cover.mk x_id x_day x_zone x_grams x_paid x_from_ x_to_ x_leave x_arrive) (PIntA4.IntA4.mk 1 1 1 1)) fun (t_19a : Int) (t_19b : Bool) =>
 letK (!t_19b) fun (t_26 : Bool) =>
 iteK t_26
 (some (0, (PCover.Cover.mk 0 0 0 0 0 0 0 0 0), false))
 (bind2 (GsL12Make.P fuel rates (PCover.Cover.mk x_id x_day x_zone x_grams x_paid x_from_ x_to_ x_leave x_arrive) t_19a) fun (t_34a : PCover.Cover) (t_34b : Bool) =>
 unCover t_34a fun (t_34a_id : Int) (t_34a_day : Int) (t_34a_zone : Int) (t_34a_grams : Int) (t_34a_paid : Int) (t_34a_from_ : Int) (t_34a_to_ : Int) (t_34a_leave : Int) (t_34a_arrive : Int) =>
 some (t_19a, (PCover.Cover.mk t_34a_id t_34a_day t_34a_zone t_34a_grams t_34a_paid t_34a_from_ t_34a_to_ t_34a_leave t_34a_arrive), true)))) fun jt_11 => iteK t_6 (appK jt_11 true) (Option.bind (GsL10One.P (PCover.Cover.mk x_id x_day x_zone x_grams x_paid x_from_ x_to_ x_leave x_arrive)) fun (t_9 : Bool) =>
 letK (!t_9) fun (t_10 : Bool) =>
 appK jt_11 t_10)

set_option maxRecDepth 100000 in
set_option maxHeartbeats 2000000 in
theorem C (fuel : Nat) (rates : (List PRate.Rate)) (x : PCover.Cover) (A0 : Option Addr) (c0 : Nat)  (w : World) (M0 : Hid (Cells w 5 A0 rates.length (PRate.flat rates))) (N0 : Hid (rates.length ≤ 9223372036854775807))  {r0 : Int} {r1 : PCover.Cover} {r2 : Bool} (H : Hid (P fuel rates x = some (r0, r1, r2))) :
  Calls Try.prog 30 #[.slice A0 rates.length c0, x.val] w (Gives (.tuple #[.int .i64 r0, (PCover.Cover.val r1), .bool r2]) w) := by
 have HB := Lib.hid (Below.refl w.heap.size w); unfold P at H; obtain ⟨x_id, x_day, x_zone, x_grams, x_paid, x_from_, x_to_, x_leave, x_arrive⟩ := x; replace H := unCover_hid H; unfold PCover.Cover.val; have N0o := N0.out
 go_enter Try.func30, Try.ntmps30
 obtain ⟨a10, i11⟩ : ∃ x, w.alloc (.cells #[.int .i64 x_id, .int .i64 x_day, .int .i64 x_zone, .int .i64 x_grams, .int .i64 x_paid, .int .i64 x_from_, .int .i64 x_to_, .int .i64 x_leave, .int .i64 x_arrive] 30) = x := ⟨_, rfl⟩; have p13 : Below w.heap.size w a10 := (by rw [← i11]; exact (Below.refl _ _).alloc (Nat.le_refl _) _); have i13 := Lib.hid (Below.step HB.out p13); clear p13; have x12 : a10.cell? ⟨w.heap.size, 0, none⟩ = some (.int .i64 x_id) := (by rw [← i11]; exact box_new _ _ _ 0 _ rfl); have a14 : a10.cell? ⟨w.heap.size, 1, none⟩ = some (.int .i64 x_day) := (by rw [← i11]; exact box_new _ _ _ 1 _ rfl); have h13 : a10.cell? ⟨w.heap.size, 2, none⟩ = some (.int .i64 x_zone) := (by rw [← i11]; exact box_new _ _ _ 2 _ rfl); have j13 : a10.cell? ⟨w.heap.size, 3, none⟩ = some (.int .i64 x_grams) := (by rw [← i11]; exact box_new _ _ _ 3 _ rfl); have r13 : a10.cell? ⟨w.heap.size, 4, none⟩ = some (.int .i64 x_paid) := (by rw [← i11]; exact box_new _ _ _ 4 _ rfl); have t13 : a10.cell? ⟨w.heap.size, 5, none⟩ = some (.int .i64 x_from_) := (by rw [← i11]; exact box_new _ _ _ 5 _ rfl); have d13 : a10.cell? ⟨w.heap.size, 6, none⟩ = some (.int .i64 x_to_) := (by rw [← i11]; exact box_new _ _ _ 6 _ rfl); have y13 : a10.cell? ⟨w.heap.size, 7, none⟩ = some (.int .i64 x_leave) := (by rw [← i11]; exact box_new _ _ _ 7 _ rfl); have n13 : a10.cell? ⟨w.heap.size, 8, none⟩ = some (.int .i64 x_arrive) := (by rw [← i11]; exact box_new _ _ _ 8 _ rfl); obtain ⟨z10, x10⟩ : ∃ x, a10.alloc (.cells #[.int .i64 0, .int .i64 0, .int .i64 0, .int .i64 0, .int .i64 0, .int .i64 0, .int .i64 0, .int .i64 0, .int .i64 0] 30) = x := ⟨_, rfl⟩; have a11 : Below a10.heap.size a10 z10 := (by rw [← x10]; exact (Below.refl _ _).alloc (Nat.le_refl _) _); have b10 := Lib.hid (apart_box x12); have g13 := Lib.hid (Below.step i13.out a11); have p10 := cell_below a11 x12; have l10 := cell_below a11 a14; have n10 := cell_below a11 h13; have k10 := cell_below a11 j13; have m10 := cell_below a11 r13; have o10 := cell_below a11 t13; have q10 := cell_below a11 d13; have r10 := cell_below a11 y13; have s10 := cell_below a11 n13; clear a11; have y10 : z10.cell? ⟨a10.heap.size, 0, none⟩ = some (.int .i64 0) := (by rw [← x10]; exact box_new _ _ _ 0 _ rfl); have g11 : z10.cell? ⟨a10.heap.size, 1, none⟩ = some (.int .i64 0) := (by rw [← x10]; exact box_new _ _ _ 1 _ rfl); have c11 : z10.cell? ⟨a10.heap.size, 2, none⟩ = some (.int .i64 0) := (by rw [← x10]; exact box_new _ _ _ 2 _ rfl); have e11 : z10.cell? ⟨a10.heap.size, 3, none⟩ = some (.int .i64 0) := (by rw [← x10]; exact box_new _ _ _ 3 _ rfl); have k11 : z10.cell? ⟨a10.heap.size, 4, none⟩ = some (.int .i64 0) := (by rw [← x10]; exact box_new _ _ _ 4 _ rfl); have j11 : z10.cell? ⟨a10.heap.size, 5, none⟩ = some (.int .i64 0) := (by rw [← x10]; exact box_new _ _ _ 5 _ rfl); have f11 : z10.cell? ⟨a10.heap.size, 6, none⟩ = some (.int .i64 0) := (by rw [← x10]; exact box_new _ _ _ 6 _ rfl); have d11 : z10.cell? ⟨a10.heap.size, 7, none⟩ = some (.int .i64 0) := (by rw [← x10]; exact box_new _ _ _ 7 _ rfl); have l11 : z10.cell? ⟨a10.heap.size, 8, none⟩ = some (.int .i64 0) := (by rw [← x10]; exact box_new _ _ _ 8 _ rfl); have Ot_2 : Hid (z10.ownsRow w.heap.size 30 9 (.slice (some ⟨a10.heap.size, 0, none⟩) 1 1) 1 [.int .i64 0, .int .i64 0, .int .i64 0, .int .i64 0, .int .i64 0, .int .i64 0, .int .i64 0, .int .i64 0, .int .i64 0]) := Lib.hid (by rw [← x10]; exact own_laid (n := 1) i13.out.size rfl rfl (by unfold maxLen; omega)); replace H := bind_hid H; obtain ⟨t_5, qt_5, H⟩ := H; go_wp2_with fail; clear x12 a14 h13 j13 r13 t13 d13 y13 n13; go_at_call 80; refine (GsL8Good.C fuel (rates) A0 c0 _   (Lib.hid (Cells.below M0.out g13.out)) N0 qt_5).mono ?_; rintro t17 wt_5 ⟨rfl, bt_5⟩; have o12 := Lib.hid (Below.step g13.out bt_5); replace p10 := cell_below bt_5 p10; replace l10 := cell_below bt_5 l10
 replace n10 := cell_below bt_5 n10; replace k10 := cell_below bt_5 k10; replace m10 := cell_below bt_5 m10; replace o10 := cell_below bt_5 o10; replace q10 := cell_below bt_5 q10; replace r10 := cell_below bt_5 r10; replace s10 := cell_below bt_5 s10; replace y10 := cell_below bt_5 y10; replace g11 := cell_below bt_5 g11; replace c11 := cell_below bt_5 c11; replace e11 := cell_below bt_5 e11; replace k11 := cell_below bt_5 k11; replace j11 := cell_below bt_5 j11; replace f11 := cell_below bt_5 f11; replace d11 := cell_below bt_5 d11; replace l11 := cell_below bt_5 l11; replace Ot_2 := Lib.hid (own_below Ot_2.out bt_5); clear bt_5
 cases t_5 with
 | false =>
  replace H := let_hid H; obtain ⟨t_6, ht_6, H⟩ := H; obtain rfl : t_6 = true := ht_6.symm; replace H := join_hid H; replace H := ite_t H; replace H := app_hid H; replace H := ite_t H; obtain ⟨d10, a12⟩ : ∃ x, (((((((((wt_5).setCell ⟨a10.heap.size, 0, none⟩ (.int .i64 0)).setCell ⟨a10.heap.size, 1, none⟩ (.int .i64 0)).setCell ⟨a10.heap.size, 2, none⟩ (.int .i64 0)).setCell ⟨a10.heap.size, 3, none⟩ (.int .i64 0)).setCell ⟨a10.heap.size, 4, none⟩ (.int .i64 0)).setCell ⟨a10.heap.size, 5, none⟩ (.int .i64 0)).setCell ⟨a10.heap.size, 6, none⟩ (.int .i64 0)).setCell ⟨a10.heap.size, 7, none⟩ (.int .i64 0)).setCell ⟨a10.heap.size, 8, none⟩ (.int .i64 0) = x := ⟨_, rfl⟩; have r14 := Ot_2.out.frozenAt 0; have b16 := Ot_2.out.frozenAt 1; have q15 := Ot_2.out.frozenAt 2; have y14 := Ot_2.out.frozenAt 3; have e15 := Ot_2.out.frozenAt 4; have g15 := Ot_2.out.frozenAt 5; have c16 := Ot_2.out.frozenAt 6; have n14 := Ot_2.out.frozenAt 7; have d15 := Ot_2.out.frozenAt 8; have t11 := Lib.hid (own_stores [(0, .int .i64 0), (1, .int .i64 0), (2, .int .i64 0), (3, .int .i64 0), (4, .int .i64 0), (5, .int .i64 0), (6, .int .i64 0), (7, .int .i64 0), (8, .int .i64 0)] Ot_2.out); have i10 : Hid (d10.ownsRow w.heap.size 30 9 (.slice (some ⟨a10.heap.size, 0, none⟩) 1 1) 1 [.int .i64 0, .int .i64 0, .int .i64 0, .int .i64 0, .int .i64 0, .int .i64 0, .int .i64 0, .int .i64 0, .int .i64 0]) := Lib.hid (by rw [← a12]; exact t11.out.1); have c10 : Hid (wt_5.grownBy d10 (Value.slice (some ⟨a10.heap.size, 0, none⟩) 1 1).ownBlock) := Lib.hid (by rw [← a12]; exact t11.out.2); have a13 := Lib.hid (o12.out.grown c10.out o12.out.size (fun q hq => (Ot_2.out.lt q hq).1)); clear t11; have q16 := cell_other p10 c10.out b10.out; have a17 := cell_other l10 c10.out b10.out; have b18 := cell_other n10 c10.out b10.out; have t16 := cell_other k10 c10.out b10.out; have o18 := cell_other m10 c10.out b10.out; have q18 := cell_other o10 c10.out b10.out; have h16 := cell_other q10 c10.out b10.out; have o16 := cell_other r10 c10.out b10.out; have v17 := cell_other s10 c10.out b10.out; clear Ot_2 c10; have e16 : d10.cell? ⟨a10.heap.size, 0, none⟩ = some (.int .i64 0) := i10.out.cells rfl 0 _ rfl; have q14 : d10.cell? ⟨a10.heap.size, 1, none⟩ = some (.int .i64 0) := i10.out.cells rfl 1 _ rfl; have c15 : d10.cell? ⟨a10.heap.size, 2, none⟩ = some (.int .i64 0) := i10.out.cells rfl 2 _ rfl; have z14 : d10.cell? ⟨a10.heap.size, 3, none⟩ = some (.int .i64 0) := i10.out.cells rfl 3 _ rfl; have l14 : d10.cell? ⟨a10.heap.size, 4, none⟩ = some (.int .i64 0) := i10.out.cells rfl 4 _ rfl; have t14 : d10.cell? ⟨a10.heap.size, 5, none⟩ = some (.int .i64 0) := i10.out.cells rfl 5 _ rfl; have w14 : d10.cell? ⟨a10.heap.size, 6, none⟩ = some (.int .i64 0) := i10.out.cells rfl 6 _ rfl; have t15 : d10.cell? ⟨a10.heap.size, 7, none⟩ = some (.int .i64 0) := i10.out.cells rfl 7 _ rfl; have x14 : d10.cell? ⟨a10.heap.size, 8, none⟩ = some (.int .i64 0) := i10.out.cells rfl 8 _ rfl; have hR_ := ret_hid H; simp only [Prod.mk.injEq] at hR_; obtain ⟨rfl, rfl, rfl⟩ := hR_; go_wp2_with fail
  (try simp only [Exit.inBlock, Exit.then])
  refine bodyPost_ret (v := .tuple #[.int .i64 0, .agg #[.int .i64 0, .int .i64 0, .int .i64 0, .int .i64 0, .int .i64 0, .int .i64 0, .int .i64 0, .int .i64 0, .int .i64 0], .bool false]) ?hr_ ?hd_ ?_
  case hd_ => rfl
  case hr_ => simp [results, Try.results30, e16, q14, c15, z14, l14, t14, w14, t15, x14, go_sem]
  exact ⟨rfl, a13.out⟩
 | true =>
  replace H := let_hid H; obtain ⟨t_6, ht_6, H⟩ := H; obtain rfl : t_6 = false := ht_6.symm; replace H := join_hid H; replace H := ite_f H; replace H := bind_hid H; obtain ⟨t_9, qt_9, H⟩ := H; go_wp2_with fail; go_at_call 81; refine (GsL10One.C ((PCover.Cover.mk x_id x_day x_zone x_grams x_paid x_from_ x_to_ x_leave x_arrive))  _    qt_9).mono ?_; rintro x16 wt_9 ⟨rfl, bt_9⟩; have b12 := Lib.hid (Below.step o12.out bt_9); replace p10 := cell_below bt_9 p10; replace l10 := cell_below bt_9 l10; replace n10 := cell_below bt_9 n10; replace k10 := cell_below bt_9 k10; replace m10 := cell_below bt_9 m10; replace o10 := cell_below bt_9 o10; replace q10 := cell_below bt_9 q10; replace r10 := cell_below bt_9 r10; replace s10 := cell_below bt_9 s10; replace y10 := cell_below bt_9 y10; replace g11 := cell_below bt_9 g11; replace c11 := cell_below bt_9 c11; replace e11 := cell_below bt_9 e11; replace k11 := cell_below bt_9 k11; replace j11 := cell_below bt_9 j11; replace f11 := cell_below bt_9 f11; replace d11 := cell_below bt_9 d11; replace l11 := cell_below bt_9 l11; replace Ot_2 := Lib.hid (own_below Ot_2.out bt_9); clear bt_9
  cases t_9 with
  | false =>
   replace H := let_hid H; obtain ⟨t_10, d12, H⟩ := H; obtain rfl : t_10 = true := d12.symm; replace H := app_hid H; replace H := ite_t H; obtain ⟨d10, a12⟩ : ∃ x, (((((((((wt_9).setCell ⟨a10.heap.size, 0, none⟩ (.int .i64 0)).setCell ⟨a10.heap.size, 1, none⟩ (.int .i64 0)).setCell ⟨a10.heap.size, 2, none⟩ (.int .i64 0)).setCell ⟨a10.heap.size, 3, none⟩ (.int .i64 0)).setCell ⟨a10.heap.size, 4, none⟩ (.int .i64 0)).setCell ⟨a10.heap.size, 5, none⟩ (.int .i64 0)).setCell ⟨a10.heap.size, 6, none⟩ (.int .i64 0)).setCell ⟨a10.heap.size, 7, none⟩ (.int .i64 0)).setCell ⟨a10.heap.size, 8, none⟩ (.int .i64 0) = x := ⟨_, rfl⟩; have r14 := Ot_2.out.frozenAt 0; have b16 := Ot_2.out.frozenAt 1; have q15 := Ot_2.out.frozenAt 2; have y14 := Ot_2.out.frozenAt 3; have e15 := Ot_2.out.frozenAt 4; have g15 := Ot_2.out.frozenAt 5; have c16 := Ot_2.out.frozenAt 6; have n14 := Ot_2.out.frozenAt 7; have d15 := Ot_2.out.frozenAt 8; have t11 := Lib.hid (own_stores [(0, .int .i64 0), (1, .int .i64 0), (2, .int .i64 0), (3, .int .i64 0), (4, .int .i64 0), (5, .int .i64 0), (6, .int .i64 0), (7, .int .i64 0), (8, .int .i64 0)] Ot_2.out); have i10 : Hid (d10.ownsRow w.heap.size 30 9 (.slice (some ⟨a10.heap.size, 0, none⟩) 1 1) 1 [.int .i64 0, .int .i64 0, .int .i64 0, .int .i64 0, .int .i64 0, .int .i64 0, .int .i64 0, .int .i64 0, .int .i64 0]) := Lib.hid (by rw [← a12]; exact t11.out.1); have c10 : Hid (wt_9.grownBy d10 (Value.slice (some ⟨a10.heap.size, 0, none⟩) 1 1).ownBlock) := Lib.hid (by rw [← a12]; exact t11.out.2); have a13 := Lib.hid (b12.out.grown c10.out b12.out.size (fun q hq => (Ot_2.out.lt q hq).1)); clear t11; have b17 := cell_other p10 c10.out b10.out; have n17 := cell_other l10 c10.out b10.out; have j17 := cell_other n10 c10.out b10.out; have p17 := cell_other k10 c10.out b10.out; have l16 := cell_other m10 c10.out b10.out; have a18 := cell_other o10 c10.out b10.out; have g16 := cell_other q10 c10.out b10.out; have f17 := cell_other r10 c10.out b10.out; have x17 := cell_other s10 c10.out b10.out; clear Ot_2 c10; have d16 : d10.cell? ⟨a10.heap.size, 0, none⟩ = some (.int .i64 0) := i10.out.cells rfl 0 _ rfl; have a15 : d10.cell? ⟨a10.heap.size, 1, none⟩ = some (.int .i64 0) := i10.out.cells rfl 1 _ rfl; have i15 : d10.cell? ⟨a10.heap.size, 2, none⟩ = some (.int .i64 0) := i10.out.cells rfl 2 _ rfl; have c14 : d10.cell? ⟨a10.heap.size, 3, none⟩ = some (.int .i64 0) := i10.out.cells rfl 3 _ rfl; have v14 : d10.cell? ⟨a10.heap.size, 4, none⟩ = some (.int .i64 0) := i10.out.cells rfl 4 _ rfl; have y15 : d10.cell? ⟨a10.heap.size, 5, none⟩ = some (.int .i64 0) := i10.out.cells rfl 5 _ rfl; have z15 : d10.cell? ⟨a10.heap.size, 6, none⟩ = some (.int .i64 0) := i10.out.cells rfl 6 _ rfl; have a16 : d10.cell? ⟨a10.heap.size, 7, none⟩ = some (.int .i64 0) := i10.out.cells rfl 7 _ rfl; have f15 : d10.cell? ⟨a10.heap.size, 8, none⟩ = some (.int .i64 0) := i10.out.cells rfl 8 _ rfl; have hR_ := ret_hid H; simp only [Prod.mk.injEq] at hR_; obtain ⟨rfl, rfl, rfl⟩ := hR_; go_wp2_with fail
   (try simp only [Exit.inBlock, Exit.then])
   refine bodyPost_ret (v := .tuple #[.int .i64 0, .agg #[.int .i64 0, .int .i64 0, .int .i64 0, .int .i64 0, .int .i64 0, .int .i64 0, .int .i64 0, .int .i64 0, .int .i64 0], .bool false]) ?hr_ ?hd_ ?_
   case hd_ => rfl
   case hr_ => simp [results, Try.results30, d16, a15, i15, c14, v14, y15, z15, a16, f15, go_sem]
   exact ⟨rfl, a13.out⟩
  | true =>
   replace H := let_hid H; obtain ⟨t_10, d12, H⟩ := H; obtain rfl : t_10 = false := d12.symm; replace H := app_hid H; replace H := ite_f H; replace H := bind2_hid H; obtain ⟨m13, x15, s14, H⟩ := H; go_wp2_with fail; go_at_call 93; refine (GsL12Best.C fuel (rates) ((PCover.Cover.mk x_id x_day x_zone x_grams x_paid x_from_ x_to_ x_leave x_arrive)) ((PIntA4.IntA4.mk 1 1 1 1)) A0 c0 _   (Lib.hid (Cells.below M0.out b12.out)) N0 s14).mono ?_; rintro i16 s13 ⟨rfl, f10⟩; have c12 := Lib.hid (Below.step b12.out f10); replace p10 := cell_below f10 p10; replace l10 := cell_below f10 l10; replace n10 := cell_below f10 n10; replace k10 := cell_below f10 k10; replace m10 := cell_below f10 m10; replace o10 := cell_below f10 o10; replace q10 := cell_below f10 q10; replace r10 := cell_below f10 r10; replace s10 := cell_below f10 s10; replace y10 := cell_below f10 y10; replace g11 := cell_below f10 g11; replace c11 := cell_below f10 c11; replace e11 := cell_below f10 e11; replace k11 := cell_below f10 k11; replace j11 := cell_below f10 j11; replace f11 := cell_below f10 f11; replace d11 := cell_below f10 d11; replace l11 := cell_below f10 l11; replace Ot_2 := Lib.hid (own_below Ot_2.out f10); clear f10
   cases x15 with
   | false =>
    replace H := let_hid H; obtain ⟨t_26, l12, H⟩ := H; obtain rfl : t_26 = true := l12.symm; replace H := ite_t H; obtain ⟨b11, x13⟩ : ∃ x, (((((((((s13).setCell ⟨a10.heap.size, 0, none⟩ (.int .i64 0)).setCell ⟨a10.heap.size, 1, none⟩ (.int .i64 0)).setCell ⟨a10.heap.size, 2, none⟩ (.int .i64 0)).setCell ⟨a10.heap.size, 3, none⟩ (.int .i64 0)).setCell ⟨a10.heap.size, 4, none⟩ (.int .i64 0)).setCell ⟨a10.heap.size, 5, none⟩ (.int .i64 0)).setCell ⟨a10.heap.size, 6, none⟩ (.int .i64 0)).setCell ⟨a10.heap.size, 7, none⟩ (.int .i64 0)).setCell ⟨a10.heap.size, 8, none⟩ (.int .i64 0) = x := ⟨_, rfl⟩; have t18 := Ot_2.out.frozenAt 0; have h18 := Ot_2.out.frozenAt 1; have f18 := Ot_2.out.frozenAt 2; have f16 := Ot_2.out.frozenAt 3; have y16 := Ot_2.out.frozenAt 4; have s17 := Ot_2.out.frozenAt 5; have w18 := Ot_2.out.frozenAt 6; have v16 := Ot_2.out.frozenAt 7; have k17 := Ot_2.out.frozenAt 8; have c13 := Lib.hid (own_stores [(0, .int .i64 0), (1, .int .i64 0), (2, .int .i64 0), (3, .int .i64 0), (4, .int .i64 0), (5, .int .i64 0), (6, .int .i64 0), (7, .int .i64 0), (8, .int .i64 0)] Ot_2.out); have o11 : Hid (b11.ownsRow w.heap.size 30 9 (.slice (some ⟨a10.heap.size, 0, none⟩) 1 1) 1 [.int .i64 0, .int .i64 0, .int .i64 0, .int .i64 0, .int .i64 0, .int .i64 0, .int .i64 0, .int .i64 0, .int .i64 0]) := Lib.hid (by rw [← x13]; exact c13.out.1); have w10 : Hid (s13.grownBy b11 (Value.slice (some ⟨a10.heap.size, 0, none⟩) 1 1).ownBlock) := Lib.hid (by rw [← x13]; exact c13.out.2); have p14 := Lib.hid (c12.out.grown w10.out c12.out.size (fun q hq => (Ot_2.out.lt q hq).1)); clear c13; have m16 := cell_other p10 w10.out b10.out; have l18 := cell_other l10 w10.out b10.out; have r16 := cell_other n10 w10.out b10.out; have m18 := cell_other k10 w10.out b10.out; have s16 := cell_other m10 w10.out b10.out; have r18 := cell_other o10 w10.out b10.out; have v18 := cell_other q10 w10.out b10.out; have l17 := cell_other r10 w10.out b10.out; have z17 := cell_other s10 w10.out b10.out; clear Ot_2 w10; have p15 : b11.cell? ⟨a10.heap.size, 0, none⟩ = some (.int .i64 0) := o11.out.cells rfl 0 _ rfl; have d14 : b11.cell? ⟨a10.heap.size, 1, none⟩ = some (.int .i64 0) := o11.out.cells rfl 1 _ rfl; have e14 : b11.cell? ⟨a10.heap.size, 2, none⟩ = some (.int .i64 0) := o11.out.cells rfl 2 _ rfl; have h14 : b11.cell? ⟨a10.heap.size, 3, none⟩ = some (.int .i64 0) := o11.out.cells rfl 3 _ rfl; have w15 : b11.cell? ⟨a10.heap.size, 4, none⟩ = some (.int .i64 0) := o11.out.cells rfl 4 _ rfl; have i14 : b11.cell? ⟨a10.heap.size, 5, none⟩ = some (.int .i64 0) := o11.out.cells rfl 5 _ rfl; have o15 : b11.cell? ⟨a10.heap.size, 6, none⟩ = some (.int .i64 0) := o11.out.cells rfl 6 _ rfl; have j15 : b11.cell? ⟨a10.heap.size, 7, none⟩ = some (.int .i64 0) := o11.out.cells rfl 7 _ rfl; have b15 : b11.cell? ⟨a10.heap.size, 8, none⟩ = some (.int .i64 0) := o11.out.cells rfl 8 _ rfl; have hR_ := ret_hid H; simp only [Prod.mk.injEq] at hR_; obtain ⟨rfl, rfl, rfl⟩ := hR_; go_wp2_with fail
    (try simp only [Exit.inBlock, Exit.then])
    refine bodyPost_ret (v := .tuple #[.int .i64 0, .agg #[.int .i64 0, .int .i64 0, .int .i64 0, .int .i64 0, .int .i64 0, .int .i64 0, .int .i64 0, .int .i64 0, .int .i64 0], .bool false]) ?hr_ ?hd_ ?_
    case hd_ => rfl
    case hr_ => simp [results, Try.results30, p15, d14, e14, h14, w15, i14, o15, j15, b15, go_sem]
    exact ⟨rfl, p14.out⟩
   | true =>
    replace H := let_hid H; obtain ⟨t_26, l12, H⟩ := H; obtain rfl : t_26 = false := l12.symm; replace H := ite_f H; replace H := bind2_hid H; obtain ⟨f14, c18, s15, H⟩ := H; obtain ⟨x11, z11, s11, w11, v11, y11, p11, q11, r11⟩ := f14; replace H := unCover_hid H; go_wp2_with fail; go_at_call 88; refine (GsL12Make.C fuel (rates) ((PCover.Cover.mk x_id x_day x_zone x_grams x_paid x_from_ x_to_ x_leave x_arrive)) (m13) A0 c0 _   (Lib.hid (Cells.below M0.out c12.out)) N0 s15).mono ?_; rintro p16 t10 ⟨rfl, g10⟩; unfold PCover.Cover.val; have m14 := Lib.hid (Below.step c12.out g10); replace p10 := cell_below g10 p10; replace l10 := cell_below g10 l10; replace n10 := cell_below g10 n10; replace k10 := cell_below g10 k10; replace m10 := cell_below g10 m10; replace o10 := cell_below g10 o10; replace q10 := cell_below g10 q10; replace r10 := cell_below g10 r10; replace s10 := cell_below g10 s10; replace y10 := cell_below g10 y10; replace g11 := cell_below g10 g11; replace c11 := cell_below g10 c11; replace e11 := cell_below g10 e11; replace k11 := cell_below g10 k11; replace j11 := cell_below g10 j11; replace f11 := cell_below g10 f11; replace d11 := cell_below g10 d11; replace l11 := cell_below g10 l11; replace Ot_2 := Lib.hid (own_below Ot_2.out g10); clear g10; obtain ⟨j10, h11⟩ : ∃ x, t10.alloc (.cells #[.int .i64 x11, .int .i64 z11, .int .i64 s11, .int .i64 w11, .int .i64 v11, .int .i64 y11, .int .i64 p11, .int .i64 q11, .int .i64 r11] 30) = x := ⟨_, rfl⟩; have e10 : Below t10.heap.size t10 j10 := (by rw [← h11]; exact (Below.refl _ _).alloc (Nat.le_refl _) _); have m11 := Lib.hid (apart_box y10); have r15 := Lib.hid (Below.step m14.out e10); have b13 := cell_below e10 p10; have r12 := cell_below e10 l10; have n12 := cell_below e10 n10; have w12 := cell_below e10 k10; have f12 := cell_below e10 m10; have e12 := cell_below e10 o10; have s12 := cell_below e10 q10; have g12 := cell_below e10 r10; have k12 := cell_below e10 s10; have w13 := cell_below e10 y10; have f13 := cell_below e10 g11; have o13 := cell_below e10 c11; have l13 := cell_below e10 e11; have z13 := cell_below e10 k11; have e13 := cell_below e10 j11; have q13 := cell_below e10 f11; have k13 := cell_below e10 d11; have b14 := cell_below e10 l11; replace Ot_2 := Lib.hid (own_below Ot_2.out e10); clear e10; have q12 : j10.cell? ⟨t10.heap.size, 0, none⟩ = some (.int .i64 x11) := (by rw [← h11]; exact box_new _ _ _ 0 _ rfl); have m12 : j10.cell? ⟨t10.heap.size, 1, none⟩ = some (.int .i64 z11) := (by rw [← h11]; exact box_new _ _ _ 1 _ rfl); have y12 : j10.cell? ⟨t10.heap.size, 2, none⟩ = some (.int .i64 s11) := (by rw [← h11]; exact box_new _ _ _ 2 _ rfl); have p12 : j10.cell? ⟨t10.heap.size, 3, none⟩ = some (.int .i64 w11) := (by rw [← h11]; exact box_new _ _ _ 3 _ rfl); have h12 : j10.cell? ⟨t10.heap.size, 4, none⟩ = some (.int .i64 v11) := (by rw [← h11]; exact box_new _ _ _ 4 _ rfl); have v12 : j10.cell? ⟨t10.heap.size, 5, none⟩ = some (.int .i64 y11) := (by rw [← h11]; exact box_new _ _ _ 5 _ rfl); have i12 : j10.cell? ⟨t10.heap.size, 6, none⟩ = some (.int .i64 p11) := (by rw [← h11]; exact box_new _ _ _ 6 _ rfl); have j12 : j10.cell? ⟨t10.heap.size, 7, none⟩ = some (.int .i64 q11) := (by rw [← h11]; exact box_new _ _ _ 7 _ rfl); have t12 : j10.cell? ⟨t10.heap.size, 8, none⟩ = some (.int .i64 r11) := (by rw [← h11]; exact box_new _ _ _ 8 _ rfl); go_wp2_with fail; clear p10 l10 n10 k10 m10 o10 q10 r10 s10 y10 g11 c11 e11 k11 j11 f11 d11 l11; obtain ⟨Z7, hZ7⟩ : ∃ x, j10.drew = x := ⟨_, rfl⟩; have bd7 : Below j10.heap.size j10 Z7 := (by rw [← hZ7]; exact (Below.refl _ _).drew); have HBZ7 := Lib.hid (Below.step r15.out bd7); replace b13 := cell_below bd7 b13; replace r12 := cell_below bd7 r12; replace n12 := cell_below bd7 n12; replace w12 := cell_below bd7 w12; replace f12 := cell_below bd7 f12; replace e12 := cell_below bd7 e12; replace s12 := cell_below bd7 s12; replace g12 := cell_below bd7 g12
    replace k12 := cell_below bd7 k12; replace w13 := cell_below bd7 w13; replace f13 := cell_below bd7 f13; replace o13 := cell_below bd7 o13; replace l13 := cell_below bd7 l13; replace z13 := cell_below bd7 z13; replace e13 := cell_below bd7 e13; replace q13 := cell_below bd7 q13; replace k13 := cell_below bd7 k13; replace b14 := cell_below bd7 b14; replace q12 := cell_below bd7 q12; replace m12 := cell_below bd7 m12; replace y12 := cell_below bd7 y12; replace p12 := cell_below bd7 p12; replace h12 := cell_below bd7 h12; replace v12 := cell_below bd7 v12; replace i12 := cell_below bd7 i12; replace j12 := cell_below bd7 j12; replace t12 := cell_below bd7 t12; replace Ot_2 := Lib.hid (own_below Ot_2.out bd7); clear bd7; refine wp_region_still_tail 3 (by kernel_rfl) (by kernel_rfl) ?_; simp only [List.take_succ_cons, List.take_zero, List.drop_succ_cons, List.drop_zero]; change wpStill _ _ j10.drew _ _ _; rw [hZ7]
    repeat still_step
    refine wpStill_nil ?_; change wpList _ _ _ _ _ j10.drew; rw [hZ7]; clear hZ7; obtain ⟨v10, v13⟩ : ∃ x, (((((((((Z7).setCell ⟨a10.heap.size, 0, none⟩ (.int .i64 x11)).setCell ⟨a10.heap.size, 1, none⟩ (.int .i64 z11)).setCell ⟨a10.heap.size, 2, none⟩ (.int .i64 s11)).setCell ⟨a10.heap.size, 3, none⟩ (.int .i64 w11)).setCell ⟨a10.heap.size, 4, none⟩ (.int .i64 v11)).setCell ⟨a10.heap.size, 5, none⟩ (.int .i64 y11)).setCell ⟨a10.heap.size, 6, none⟩ (.int .i64 p11)).setCell ⟨a10.heap.size, 7, none⟩ (.int .i64 q11)).setCell ⟨a10.heap.size, 8, none⟩ (.int .i64 r11) = x := ⟨_, rfl⟩; have h17 := Ot_2.out.frozenAt 0; have r17 := Ot_2.out.frozenAt 1; have d17 := Ot_2.out.frozenAt 2; have o17 := Ot_2.out.frozenAt 3; have e17 := Ot_2.out.frozenAt 4; have z16 := Ot_2.out.frozenAt 5; have k16 := Ot_2.out.frozenAt 6; have y17 := Ot_2.out.frozenAt 7; have m17 := Ot_2.out.frozenAt 8; have z12 := Lib.hid (own_stores [(0, .int .i64 x11), (1, .int .i64 z11), (2, .int .i64 s11), (3, .int .i64 w11), (4, .int .i64 v11), (5, .int .i64 y11), (6, .int .i64 p11), (7, .int .i64 q11), (8, .int .i64 r11)] Ot_2.out); have n11 : Hid (v10.ownsRow w.heap.size 30 9 (.slice (some ⟨a10.heap.size, 0, none⟩) 1 1) 1 [.int .i64 x11, .int .i64 z11, .int .i64 s11, .int .i64 w11, .int .i64 v11, .int .i64 y11, .int .i64 p11, .int .i64 q11, .int .i64 r11]) := Lib.hid (by rw [← v13]; exact z12.out.1); have h10 : Hid (Z7.grownBy v10 (Value.slice (some ⟨a10.heap.size, 0, none⟩) 1 1).ownBlock) := Lib.hid (by rw [← v13]; exact z12.out.2); have j14 := Lib.hid (HBZ7.out.grown h10.out HBZ7.out.size (fun q hq => (Ot_2.out.lt q hq).1)); clear z12; have d18 := cell_other b13 h10.out b10.out; have x18 := cell_other r12 h10.out b10.out; have g17 := cell_other n12 h10.out b10.out; have w17 := cell_other w12 h10.out b10.out; have i18 := cell_other f12 h10.out b10.out; have p18 := cell_other e12 h10.out b10.out; have q17 := cell_other s12 h10.out b10.out; have j16 := cell_other g12 h10.out b10.out; have e18 := cell_other k12 h10.out b10.out; have n18 := cell_other q12 h10.out (Apart.symm m11.out); have g18 := cell_other m12 h10.out (Apart.symm m11.out); have c17 := cell_other y12 h10.out (Apart.symm m11.out); have s18 := cell_other p12 h10.out (Apart.symm m11.out); have w16 := cell_other h12 h10.out (Apart.symm m11.out); have k18 := cell_other v12 h10.out (Apart.symm m11.out); have j18 := cell_other i12 h10.out (Apart.symm m11.out); have n16 := cell_other j12 h10.out (Apart.symm m11.out); have i17 := cell_other t12 h10.out (Apart.symm m11.out); clear Ot_2 h10; have m15 : v10.cell? ⟨a10.heap.size, 0, none⟩ = some (.int .i64 x11) := n11.out.cells rfl 0 _ rfl; have o14 : v10.cell? ⟨a10.heap.size, 1, none⟩ = some (.int .i64 z11) := n11.out.cells rfl 1 _ rfl; have n15 : v10.cell? ⟨a10.heap.size, 2, none⟩ = some (.int .i64 s11) := n11.out.cells rfl 2 _ rfl; have h15 : v10.cell? ⟨a10.heap.size, 3, none⟩ = some (.int .i64 w11) := n11.out.cells rfl 3 _ rfl; have v15 : v10.cell? ⟨a10.heap.size, 4, none⟩ = some (.int .i64 v11) := n11.out.cells rfl 4 _ rfl; have l15 : v10.cell? ⟨a10.heap.size, 5, none⟩ = some (.int .i64 y11) := n11.out.cells rfl 5 _ rfl; have k15 : v10.cell? ⟨a10.heap.size, 6, none⟩ = some (.int .i64 p11) := n11.out.cells rfl 6 _ rfl; have g14 : v10.cell? ⟨a10.heap.size, 7, none⟩ = some (.int .i64 q11) := n11.out.cells rfl 7 _ rfl; have k14 : v10.cell? ⟨a10.heap.size, 8, none⟩ = some (.int .i64 r11) := n11.out.cells rfl 8 _ rfl; have hR_ := ret_hid H; simp only [Prod.mk.injEq] at hR_; obtain ⟨rfl, rfl, rfl⟩ := hR_; go_wp2_with fail
    (try simp only [Exit.inBlock, Exit.then])
    refine bodyPost_ret (v := .tuple #[.int .i64 m13, .agg #[.int .i64 x11, .int .i64 z11, .int .i64 s11, .int .i64 w11, .int .i64 v11, .int .i64 y11, .int .i64 p11, .int .i64 q11, .int .i64 r11], .bool true]) ?hr_ ?hd_ ?_
    case hd_ => rfl
    case hr_ => simp [results, Try.results30, m15, o14, n15, h15, v15, l15, k15, g14, k14, go_sem]
    exact ⟨rfl, j14.out⟩
end Go.Proofs.Ytihibckijdfidaa.GsLeastChange

namespace Go.Proofs.Ytihibckijdfidaa.GoR
end Go.Proofs.Ytihibckijdfidaa.GoR

namespace Go.Proofs.Ytihibckijdfidaa.GiCompareChanges
open Go.RowKit
open Go.Proofs.Ytihibckijdfidaa.Rowed Go.Proofs.Ytihibckijdfidaa.Turn Go.Proofs.Ytihibckijdfidaa.Aid Go.Proofs.Ytihibckijdfidaa.GoP Go.Proofs.Ytihibckijdfidaa.GoM

def P (a : Int) (b : Int) : Option (Int) :=
 letK (IntKind.u64.wrap a) fun (t_2 : Int) =>
 Option.bind (GxMathBitsOnesCount.P t_2) fun (t_3 : Int) =>
 letK (IntKind.u64.wrap b) fun (t_5 : Int) =>
 Option.bind (GxMathBitsOnesCount.P t_5) fun (t_6 : Int) =>
 Option.bind (GxCmpCompareInt.P t_3 t_6) fun (t_7 : Int) =>
 Option.bind (GxCmpCompareInt.P a b) fun (t_10 : Int) =>
 letK ([t_7, t_10]) fun (t_11 : (List Int)) =>
 Option.bind (GxCmpOrInt.P t_11) fun (t_12 : Int) =>
 some t_12

set_option maxRecDepth 100000 in
set_option maxHeartbeats 2000000 in
theorem C (a : Int) (b : Int)   (w : World)   {r : Int} (H : Hid (P a b = some r)) :
  Calls Try.prog 95 #[.int .i64 a, .int .i64 b] w (Gives (.int .i64 r) w) := by
 have HB := Lib.hid (Below.refl w.heap.size w); unfold P at H
 go_enter Try.func95, Try.ntmps95
 replace H := let_hid H; obtain ⟨t_2, ht_2, H⟩ := H; replace H := bind_hid H; obtain ⟨t_3, qt_3, H⟩ := H; go_wp2_with fail; go_at_call 170; refine (GxMathBitsOnesCount.C (t_2)  _    qt_3).mono ?_; rintro t10 wt_3 ⟨rfl, bt_3⟩; have n10 := Lib.hid (Below.step HB.out bt_3); clear bt_3; replace H := let_hid H; obtain ⟨t_5, ht_5, H⟩ := H; replace H := bind_hid H; obtain ⟨t_6, qt_6, H⟩ := H; go_wp2_with fail; go_at_call 170; refine (GxMathBitsOnesCount.C (t_5)  _    qt_6).mono ?_; rintro w10 wt_6 ⟨rfl, bt_6⟩; have p10 := Lib.hid (Below.step n10.out bt_6); clear bt_6; replace H := bind_hid H; obtain ⟨t_7, qt_7, H⟩ := H; go_wp2_with fail; go_at_call 100; refine (GxCmpCompareInt.C (t_3) (t_6)  _    qt_7).mono ?_; rintro x10 wt_7 ⟨rfl, bt_7⟩; have o10 := Lib.hid (Below.step p10.out bt_7); clear bt_7; replace H := bind_hid H; obtain ⟨t_10, r10, H⟩ := H; go_wp2_with fail; go_at_call 100; refine (GxCmpCompareInt.C (a) (b)  _    r10).mono ?_; rintro v10 a10 ⟨rfl, f10⟩; have j10 := Lib.hid (Below.step o10.out f10); clear f10; replace H := let_hid H; obtain ⟨t_11, c10, H⟩ := H; obtain ⟨i10, h10⟩ : ∃ x, a10.alloc (.cells #[.int .i64 t_7, .int .i64 t_10] 3) = x := ⟨_, rfl⟩; have g10 : Below a10.heap.size a10 i10 := (by rw [← h10]; exact (Below.refl _ _).alloc (Nat.le_refl _) _); have k10 := j10.out.size; have e10 : t_11.length = 2 := (by rw [← c10]; rfl)
 have b10 : Hid (i10.ownsRow w.heap.size 3 1 (.slice (some ⟨a10.heap.size, 0, none⟩) 2 2) 2 (HelpInt.iv t_11)) := by
  rw [← h10, ← c10]; have e_ : ([.int .i64 t_7, .int .i64 t_10] : List Value) = (HelpInt.iv ([t_7, t_10] : List Int)) := rfl; exact Lib.hid (own_laid (n := 2) k10 e_ rfl (by unfold maxLen; omega))
 clear k10; have z10 := Lib.hid c10; clear c10; replace e10 := Lib.hid e10; have q10 := Lib.hid (Below.step j10.out g10); clear g10; replace H := bind_hid H; obtain ⟨t_12, l10, H⟩ := H; go_wp2_with fail; have hc_ := e10.out; have hv_ : (Value.slice (some ⟨a10.heap.size, 0, none⟩) 2 2 : Value) = Value.slice (some ⟨a10.heap.size, 0, none⟩) t_11.length 2 := (by rw [hc_])
 try rw [hv_]
 replace b10 := Lib.hid (own_len hc_ b10.out); clear hc_ hv_; go_wp2_with fail; go_at_call 99; refine (GxCmpOrInt.C (t_11) (some ⟨a10.heap.size, 0, none⟩) 2 _   (Lib.hid (own_cells b10.out)) (Lib.hid (own_max b10.out)) l10).mono ?_; rintro s10 y10 ⟨rfl, d10⟩; have m10 := Lib.hid (Below.step q10.out d10); replace b10 := Lib.hid (own_below b10.out d10); clear d10; obtain rfl := ret_hid H; go_wp2_with fail; go_ret; exact ⟨rfl, m10.out⟩
end Go.Proofs.Ytihibckijdfidaa.GiCompareChanges

namespace Go.Proofs.Ytihibckijdfidaa.GxSlicesMinFuncIntIntiCompareChanges
open Go.RowKit
open Go.Proofs.Ytihibckijdfidaa.Rowed Go.Proofs.Ytihibckijdfidaa.Turn Go.Proofs.Ytihibckijdfidaa.Aid Go.Proofs.Ytihibckijdfidaa.GoP Go.Proofs.Ytihibckijdfidaa.GoM

def l0 (x : (List Int)) (s : Int × Int) (nx0 bk0 : Int × Int → Option (Int)) : Option (Int) :=
  unp2 s fun m_5l0 i_6l0 =>
  letK (decide (i_6l0 < (x.length : Int))) fun (t_14 : Bool) =>
  iteK t_14
  (Option.bind (idx x i_6l0) fun (yt_18 : Int) =>
  Option.bind (Go.Proofs.Ytihibckijdfidaa.GiCompareChanges.P yt_18 m_5l0) fun (t_21 : Int) =>
  letK (decide (t_21 < 0)) fun (t_22 : Bool) =>
  iteK t_22
  (Option.bind (idx x i_6l0) fun (yt_25 : Int) =>
  letK (IntKind.i64.wrap (i_6l0 + 1)) fun (t_29 : Int) =>
  appK nx0 (yt_25, t_29))
  (letK (IntKind.i64.wrap (i_6l0 + 1)) fun (t_29 : Int) =>
  appK nx0 (m_5l0, t_29)))
  (appK bk0 (m_5l0, i_6l0))

def e0  (s : Int × Int) : Option (Int) :=
  unp2 s fun m_5l0 i_6l0 =>
  some m_5l0

def j0 (x : (List Int)) (fuel : Nat) (s : Unit) : Option (Int) :=
  Option.bind (idx x 0) fun (yt_7 : Int) =>
  loopK (l0 x) fuel (yt_7, 1) (e0 )

def P (fuel : Nat) (x : (List Int)) : Option (Int) :=
  letK (decide ((x.length : Int) < 1)) fun (t_3 : Bool) =>
  iteK t_3
  (none)
  (j0 x fuel ())

set_option maxRecDepth 100000 in
set_option maxHeartbeats 2000000 in
theorem C (fuel : Nat) (x : (List Int)) (A0 : Option Addr) (c0 : Nat)  (w : World) (M0 : Hid (Cells w 1 A0 x.length (Go.Proofs.Ytihibckijdfidaa.HelpInt.iv x))) (N0 : Hid (x.length ≤ 9223372036854775807))  {r : Int} (H : Hid (P fuel x = some r)) :
    Calls Try.prog 94 #[.slice A0 x.length c0, .func (.func 95) #[] #[]] w (Gives (.int .i64 r) w) := by
  have HB := Lib.hid (Below.refl w.heap.size w)
  unfold P at H
  have N0o := N0.out
  go_enter Try.func94, Try.ntmps94
  replace H := let_hid H
  obtain ⟨t_3, ht_3, H⟩ := H
  cases t_3 with
  | false =>
    have nht_3 : ¬ (x.length < 1) := by have := of_decide_eq_false ht_3; omega
    replace H := ite_f H
    unfold j0 at H
    replace H := idx_hid H
    obtain ⟨nt_7, yt_7, et_7, lt_7, gt_7, H⟩ := H
    obtain rfl : 0 = nt_7 := by omega
    clear et_7
    obtain ⟨ab_t_7, ao_t_7, zt_7, At_7, z_t_7, ct_7_0⟩ := Go.Proofs.Ytihibckijdfidaa.HelpInt.Ints.at_ M0.out lt_7
    obtain rfl := Option.some.inj (gt_7.out.symm.trans z_t_7)
    subst At_7
    have ltt_7 := cell_lt ct_7_0
    replace ct_7_0 := cell_below HB.out ct_7_0
    clear z_t_7
    have b1t_7 : (0 : Int) < ((x.length : Nat) : Int) := by omega
    have b3t_7 : 0 < x.length := by omega
    try simp only [Nat.zero_mul, Nat.add_zero, Nat.zero_add, Nat.reduceMul] at ct_7_0
    go_wp2_with fail
    go_loopg [5, 6] (fuel) (fun m_ v5_ v6_ wr => ∃ (m_5l0 : Int) (i_6l0 : Int), v5_ = .int .i64 m_5l0 ∧ v6_ = .int .i64 i_6l0 ∧ Hid (loopK (l0 x) m_ (m_5l0, i_6l0) (e0 ) = some r) ∧ Hid (Below w.heap.size w wr))
    case atStart => exact ⟨_, _, rfl, rfl, H, HB⟩
    case round =>
      obtain ⟨m_5l0, i_6l0, rfl, rfl, H, HBwr0⟩ := hrel
      rename World => wr0
      cases gk with
      | zero => exact (loop_zero H).elim
      | succ m0 =>
        replace H := loop_succ H
        unfold l0 at H
        replace H := unp2_hid H
        replace H := let_hid H
        obtain ⟨t_14, ht_14, H⟩ := H
        cases t_14 with
        | false =>
          replace H := ite_f H
          replace H := app_hid H
          unfold e0 at H
          replace H := unp2_hid H
          obtain rfl := ret_hid H
          go_wp2_with fail
          go_ret
          exact ⟨rfl, HBwr0.out⟩
        | true =>
          replace H := ite_t H
          replace H := idx_hid H
          obtain ⟨nt_18, yt_18, et_18, lt_18, gt_18, H⟩ := H
          subst et_18
          have nc_1160 : nt_18 < x.length := by have := of_decide_eq_true ht_14; omega
          obtain ⟨ab_t_18, ao_t_18, zt_18, At_18, z_t_18, ct_18_0⟩ := Go.Proofs.Ytihibckijdfidaa.HelpInt.Ints.at_ M0.out lt_18
          obtain rfl := Option.some.inj (gt_18.out.symm.trans z_t_18)
          simp only [Option.some.injEq, Addr.mk.injEq] at At_18
          obtain ⟨rfl, rfl, _⟩ := At_18
          have ltt_18 := cell_lt ct_18_0
          replace ct_18_0 := cell_below HBwr0.out ct_18_0
          clear z_t_18
          have b0t_18 : (0 : Int) ≤ (nt_18 : Int) := by omega
          have b1t_18 : (nt_18 : Int) < ((x.length : Nat) : Int) := by omega
          have b2t_18 : ((nt_18 : Int)).toNat = nt_18 := by omega
          replace H := bind_hid H
          obtain ⟨t_21, qt_21, H⟩ := H
          go_wp2_with fail
          go_at_call 95
          refine (Go.Proofs.Ytihibckijdfidaa.GiCompareChanges.C (yt_18) (m_5l0)  _    qt_21).mono ?_
          rintro e_t_21 wt_21 ⟨rfl, bt_21⟩
          have HBwt_21 := Lib.hid (Below.step HBwr0.out bt_21)
          replace ct_18_0 := cell_below bt_21 ct_18_0
          clear bt_21
          replace H := let_hid H
          obtain ⟨t_22, ht_22, H⟩ := H
          cases t_22 with
          | false =>
            replace H := ite_f H
            replace H := let_hid H
            obtain ⟨t_29, ht_29, H⟩ := H
            replace H := app_hid H
            go_wp2_with fail
            go_roundg m0
            case measure => omega
            case rel => exact ⟨_, _, rfl, rfl, H, HBwt_21⟩
          | true =>
            replace H := ite_t H
            replace H := idx_hid H
            obtain ⟨nt_25, yt_25, et_25, lt_25, gt_25, H⟩ := H
            obtain rfl : nt_18 = nt_25 := by omega
            clear et_25
            obtain rfl := Option.some.inj (gt_18.out.symm.trans gt_25.out)
            clear gt_25 lt_25
            replace H := let_hid H
            obtain ⟨t_29, ht_29, H⟩ := H
            replace H := app_hid H
            go_wp2_with fail
            go_roundg m0
            case measure => omega
            case rel => exact ⟨_, _, rfl, rfl, H, HBwt_21⟩
  | true =>
    have nht_3 : x.length < 1 := by have := of_decide_eq_true ht_3; omega
    replace H := ite_t H
    exact (none_hid H).elim
end Go.Proofs.Ytihibckijdfidaa.GxSlicesMinFuncIntIntiCompareChanges

namespace Go.Proofs.Ytihibckijdfidaa.GiLeastChange
open Go.RowKit
open Go.Proofs.Ytihibckijdfidaa.Rowed Go.Proofs.Ytihibckijdfidaa.Turn Go.Proofs.Ytihibckijdfidaa.Aid Go.Proofs.Ytihibckijdfidaa.GoP Go.Proofs.Ytihibckijdfidaa.GoM

def P (fuel : Nat) (rates : (List PRate.Rate)) (x : PCover.Cover) : Option (Int × PCover.Cover × Bool) :=
 unCover x fun (x_id : Int) (x_day : Int) (x_zone : Int) (x_grams : Int) (x_paid : Int) (x_from_ : Int) (x_to_ : Int) (x_leave : Int) (x_arrive : Int) =>
 bind2 (GiPossibleChanges.P rates (PCover.Cover.mk x_id x_day x_zone x_grams x_paid x_from_ x_to_ x_leave x_arrive)) fun (t_6a : (List Int)) (t_6b : Bool) =>
 letK ((t_6a.length : Int) == 0) fun (t_14 : Bool) =>
 iteK t_14
 (some (0, (PCover.Cover.mk 0 0 0 0 0 0 0 0 0), false))
 (Option.bind (GxSlicesMinFuncIntIntiCompareChanges.P fuel t_6a) fun (t_20 : Int) =>
 bind2 (GiMade.P rates (PCover.Cover.mk x_id x_day x_zone x_grams x_paid x_from_ x_to_ x_leave x_arrive) t_20) fun (t_25a : PCover.Cover) (t_25b : Bool) =>
 unCover t_25a fun (t_25a_id : Int) (t_25a_day : Int) (t_25a_zone : Int) (t_25a_grams : Int) (t_25a_paid : Int) (t_25a_from_ : Int) (t_25a_to_ : Int) (t_25a_leave : Int) (t_25a_arrive : Int) =>
 some (t_20, (PCover.Cover.mk t_25a_id t_25a_day t_25a_zone t_25a_grams t_25a_paid t_25a_from_ t_25a_to_ t_25a_leave t_25a_arrive), t_25b))

set_option maxRecDepth 100000 in
set_option maxHeartbeats 2000000 in
theorem C (fuel : Nat) (rates : (List PRate.Rate)) (x : PCover.Cover) (A0 : Option Addr) (c0 : Nat)  (w : World) (M0 : Hid (Cells w 5 A0 rates.length (PRate.flat rates))) (N0 : Hid (rates.length ≤ 9223372036854775807))  {r0 : Int} {r1 : PCover.Cover} {r2 : Bool} (H : Hid (P fuel rates x = some (r0, r1, r2))) :
  Calls Try.prog 31 #[.slice A0 rates.length c0, x.val] w (Gives (.tuple #[.int .i64 r0, (PCover.Cover.val r1), .bool r2]) w) := by
 have HB := Lib.hid (Below.refl w.heap.size w); unfold P at H; obtain ⟨x_id, x_day, x_zone, x_grams, x_paid, x_from_, x_to_, x_leave, x_arrive⟩ := x; replace H := unCover_hid H; unfold PCover.Cover.val; have N0o := N0.out
 go_enter Try.func31, Try.ntmps31
 obtain ⟨a10, p10⟩ : ∃ x, w.alloc (.cells #[.int .i64 x_id, .int .i64 x_day, .int .i64 x_zone, .int .i64 x_grams, .int .i64 x_paid, .int .i64 x_from_, .int .i64 x_to_, .int .i64 x_leave, .int .i64 x_arrive] 30) = x := ⟨_, rfl⟩; have i14 : Below w.heap.size w a10 := (by rw [← p10]; exact (Below.refl _ _).alloc (Nat.le_refl _) _); have g14 := Lib.hid (Below.step HB.out i14); clear i14; have d13 : a10.cell? ⟨w.heap.size, 0, none⟩ = some (.int .i64 x_id) := (by rw [← p10]; exact box_new _ _ _ 0 _ rfl); have j14 : a10.cell? ⟨w.heap.size, 1, none⟩ = some (.int .i64 x_day) := (by rw [← p10]; exact box_new _ _ _ 1 _ rfl); have r13 : a10.cell? ⟨w.heap.size, 2, none⟩ = some (.int .i64 x_zone) := (by rw [← p10]; exact box_new _ _ _ 2 _ rfl); have t14 : a10.cell? ⟨w.heap.size, 3, none⟩ = some (.int .i64 x_grams) := (by rw [← p10]; exact box_new _ _ _ 3 _ rfl); have w13 : a10.cell? ⟨w.heap.size, 4, none⟩ = some (.int .i64 x_paid) := (by rw [← p10]; exact box_new _ _ _ 4 _ rfl); have v13 : a10.cell? ⟨w.heap.size, 5, none⟩ = some (.int .i64 x_from_) := (by rw [← p10]; exact box_new _ _ _ 5 _ rfl); have j13 : a10.cell? ⟨w.heap.size, 6, none⟩ = some (.int .i64 x_to_) := (by rw [← p10]; exact box_new _ _ _ 6 _ rfl); have z13 : a10.cell? ⟨w.heap.size, 7, none⟩ = some (.int .i64 x_leave) := (by rw [← p10]; exact box_new _ _ _ 7 _ rfl); have o14 : a10.cell? ⟨w.heap.size, 8, none⟩ = some (.int .i64 x_arrive) := (by rw [← p10]; exact box_new _ _ _ 8 _ rfl); obtain ⟨l10, m10⟩ : ∃ x, a10.alloc (.cells #[.int .i64 0, .int .i64 0, .int .i64 0, .int .i64 0, .int .i64 0, .int .i64 0, .int .i64 0, .int .i64 0, .int .i64 0] 30) = x := ⟨_, rfl⟩; have n10 : Below a10.heap.size a10 l10 := (by rw [← m10]; exact (Below.refl _ _).alloc (Nat.le_refl _) _); have h10 := Lib.hid (apart_box d13); have f13 := Lib.hid (Below.step g14.out n10); have q10 := cell_below n10 d13; have z10 := cell_below n10 j14; have g11 := cell_below n10 r13; have l11 := cell_below n10 t14; have d11 := cell_below n10 w13; have v10 := cell_below n10 v13; have e11 := cell_below n10 j13; have y10 := cell_below n10 z13; have n11 := cell_below n10 o14; clear n10; have r10 : l10.cell? ⟨a10.heap.size, 0, none⟩ = some (.int .i64 0) := (by rw [← m10]; exact box_new _ _ _ 0 _ rfl); have v11 : l10.cell? ⟨a10.heap.size, 1, none⟩ = some (.int .i64 0) := (by rw [← m10]; exact box_new _ _ _ 1 _ rfl); have q11 : l10.cell? ⟨a10.heap.size, 2, none⟩ = some (.int .i64 0) := (by rw [← m10]; exact box_new _ _ _ 2 _ rfl); have w11 : l10.cell? ⟨a10.heap.size, 3, none⟩ = some (.int .i64 0) := (by rw [← m10]; exact box_new _ _ _ 3 _ rfl); have o11 : l10.cell? ⟨a10.heap.size, 4, none⟩ = some (.int .i64 0) := (by rw [← m10]; exact box_new _ _ _ 4 _ rfl); have s11 : l10.cell? ⟨a10.heap.size, 5, none⟩ = some (.int .i64 0) := (by rw [← m10]; exact box_new _ _ _ 5 _ rfl); have r11 : l10.cell? ⟨a10.heap.size, 6, none⟩ = some (.int .i64 0) := (by rw [← m10]; exact box_new _ _ _ 6 _ rfl); have t11 : l10.cell? ⟨a10.heap.size, 7, none⟩ = some (.int .i64 0) := (by rw [← m10]; exact box_new _ _ _ 7 _ rfl); have p11 : l10.cell? ⟨a10.heap.size, 8, none⟩ = some (.int .i64 0) := (by rw [← m10]; exact box_new _ _ _ 8 _ rfl); have Ot_2 : Hid (l10.ownsRow w.heap.size 30 9 (.slice (some ⟨a10.heap.size, 0, none⟩) 1 1) 1 [.int .i64 0, .int .i64 0, .int .i64 0, .int .i64 0, .int .i64 0, .int .i64 0, .int .i64 0, .int .i64 0, .int .i64 0]) := Lib.hid (by rw [← m10]; exact own_laid (n := 1) g14.out.size rfl rfl (by unfold maxLen; omega)); replace H := bind2_hid H; obtain ⟨t_6a, t_6b, qt_6, H⟩ := H; go_wp2_with fail; clear d13 j14 r13 t14 w13 v13 j13 z13 o14; go_at_call 25; refine (GiPossibleChanges.C (rates) ((PCover.Cover.mk x_id x_day x_zone x_grams x_paid x_from_ x_to_ x_leave x_arrive)) A0 c0 _   (Lib.hid (Cells.below M0.out f13.out)) N0 qt_6).mono ?_; rintro x16 wt_6 ⟨h15, c15, rfl, x12, bt_6⟩; have q17 := Lib.hid (apart_callbox x12 q10)
 have s13 := Lib.hid (apart_callbox x12 r10); have i10 := Lib.hid (own_lower x12 f13.out.size); clear x12; have e13 := Lib.hid (Below.step f13.out bt_6); replace q10 := cell_below bt_6 q10; replace z10 := cell_below bt_6 z10; replace g11 := cell_below bt_6 g11; replace l11 := cell_below bt_6 l11; replace d11 := cell_below bt_6 d11; replace v10 := cell_below bt_6 v10; replace e11 := cell_below bt_6 e11; replace y10 := cell_below bt_6 y10; replace n11 := cell_below bt_6 n11; replace r10 := cell_below bt_6 r10; replace v11 := cell_below bt_6 v11; replace q11 := cell_below bt_6 q11; replace w11 := cell_below bt_6 w11; replace o11 := cell_below bt_6 o11; replace s11 := cell_below bt_6 s11; replace r11 := cell_below bt_6 r11; replace t11 := cell_below bt_6 t11; replace p11 := cell_below bt_6 p11; replace Ot_2 := Lib.hid (own_below Ot_2.out bt_6); clear bt_6; replace H := let_hid H; obtain ⟨t_14, n14, H⟩ := H
 cases t_14 with
 | false =>
  have i16 : ¬ (t_6a.length = 0) := (by have := ne_of_beq_false n14; omega); replace H := ite_f H; replace H := bind_hid H; obtain ⟨t_20, d15, H⟩ := H; go_wp2_with fail; go_at_call 94; refine (GxSlicesMinFuncIntIntiCompareChanges.C fuel (t_6a) h15 c15 _   (Lib.hid (own_cells i10.out)) (Lib.hid (own_max i10.out)) d15).mono ?_; rintro i17 d17 ⟨rfl, d10⟩; have p14 := Lib.hid (Below.step e13.out d10); replace q10 := cell_below d10 q10; replace z10 := cell_below d10 z10; replace g11 := cell_below d10 g11; replace l11 := cell_below d10 l11; replace d11 := cell_below d10 d11; replace v10 := cell_below d10 v10; replace e11 := cell_below d10 e11; replace y10 := cell_below d10 y10; replace n11 := cell_below d10 n11; replace r10 := cell_below d10 r10; replace v11 := cell_below d10 v11; replace q11 := cell_below d10 q11; replace w11 := cell_below d10 w11; replace o11 := cell_below d10 o11; replace s11 := cell_below d10 s11; replace r11 := cell_below d10 r11; replace t11 := cell_below d10 t11; replace p11 := cell_below d10 p11; replace i10 := Lib.hid (own_below i10.out d10); replace Ot_2 := Lib.hid (own_below Ot_2.out d10); clear d10; replace H := bind2_hid H; obtain ⟨b15, p16, a16, H⟩ := H; obtain ⟨w10, k11, b11, f11, i11, h11, m11, j11, a11⟩ := b15; replace H := unCover_hid H; go_wp2_with fail; go_at_call 90; refine (GiMade.C (rates) ((PCover.Cover.mk x_id x_day x_zone x_grams x_paid x_from_ x_to_ x_leave x_arrive)) (t_20) A0 c0 _   (Lib.hid (Cells.below M0.out p14.out)) N0 a16).mono ?_; rintro l17 f10 ⟨rfl, c10⟩; unfold PCover.Cover.val; have q15 := Lib.hid (Below.step p14.out c10); replace q10 := cell_below c10 q10; replace z10 := cell_below c10 z10; replace g11 := cell_below c10 g11; replace l11 := cell_below c10 l11; replace d11 := cell_below c10 d11; replace v10 := cell_below c10 v10; replace e11 := cell_below c10 e11; replace y10 := cell_below c10 y10; replace n11 := cell_below c10 n11; replace r10 := cell_below c10 r10; replace v11 := cell_below c10 v11; replace q11 := cell_below c10 q11; replace w11 := cell_below c10 w11; replace o11 := cell_below c10 o11; replace s11 := cell_below c10 s11; replace r11 := cell_below c10 r11; replace t11 := cell_below c10 t11; replace p11 := cell_below c10 p11; replace i10 := Lib.hid (own_below i10.out c10); replace Ot_2 := Lib.hid (own_below Ot_2.out c10); clear c10; obtain ⟨b10, s10⟩ : ∃ x, f10.alloc (.cells #[.int .i64 w10, .int .i64 k11, .int .i64 b11, .int .i64 f11, .int .i64 i11, .int .i64 h11, .int .i64 m11, .int .i64 j11, .int .i64 a11] 30) = x := ⟨_, rfl⟩; have e10 : Below f10.heap.size f10 b10 := (by rw [← s10]; exact (Below.refl _ _).alloc (Nat.le_refl _) _); have m17 := Lib.hid (apart_fresh i10.out); have t10 := Lib.hid (apart_box r10); have w12 := Lib.hid (Below.step q15.out e10); have f12 := cell_below e10 q10; have x11 := cell_below e10 z10; have j12 := cell_below e10 g11; have b12 := cell_below e10 l11; have c12 := cell_below e10 d11; have g12 := cell_below e10 v10; have m12 := cell_below e10 e11; have k12 := cell_below e10 y10; have y11 := cell_below e10 n11; have r12 := cell_below e10 r10; have z12 := cell_below e10 v11; have v12 := cell_below e10 q11; have s12 := cell_below e10 w11; have q12 := cell_below e10 o11; have y12 := cell_below e10 s11; have a13 := cell_below e10 r11; have p12 := cell_below e10 t11; have t12 := cell_below e10 p11; replace i10 := Lib.hid (own_below i10.out e10); replace Ot_2 := Lib.hid (own_below Ot_2.out e10); clear e10; have l12 : b10.cell? ⟨f10.heap.size, 0, none⟩ = some (.int .i64 w10) := (by rw [← s10]; exact box_new _ _ _ 0 _ rfl); have a12 : b10.cell? ⟨f10.heap.size, 1, none⟩ = some (.int .i64 k11) := (by rw [← s10]; exact box_new _ _ _ 1 _ rfl); have n12 : b10.cell? ⟨f10.heap.size, 2, none⟩ = some (.int .i64 b11) := (by rw [← s10]; exact box_new _ _ _ 2 _ rfl); have d12 : b10.cell? ⟨f10.heap.size, 3, none⟩ = some (.int .i64 f11) := (by rw [← s10]; exact box_new _ _ _ 3 _ rfl); have e12 : b10.cell? ⟨f10.heap.size, 4, none⟩ = some (.int .i64 i11) := (by rw [← s10]; exact box_new _ _ _ 4 _ rfl)
  have z11 : b10.cell? ⟨f10.heap.size, 5, none⟩ = some (.int .i64 h11) := (by rw [← s10]; exact box_new _ _ _ 5 _ rfl); have o12 : b10.cell? ⟨f10.heap.size, 6, none⟩ = some (.int .i64 m11) := (by rw [← s10]; exact box_new _ _ _ 6 _ rfl); have i12 : b10.cell? ⟨f10.heap.size, 7, none⟩ = some (.int .i64 j11) := (by rw [← s10]; exact box_new _ _ _ 7 _ rfl); have h12 : b10.cell? ⟨f10.heap.size, 8, none⟩ = some (.int .i64 a11) := (by rw [← s10]; exact box_new _ _ _ 8 _ rfl); go_wp2_with fail; clear q10 z10 g11 l11 d11 v10 e11 y10 n11 r10 v11 q11 w11 o11 s11 r11 t11 p11; have bd6 : Below b10.heap.size b10 b10.drew := (Below.refl _ _).drew; have w12.drew := Lib.hid (Below.step w12.out bd6); replace f12 := cell_below bd6 f12; replace x11 := cell_below bd6 x11; replace j12 := cell_below bd6 j12; replace b12 := cell_below bd6 b12; replace c12 := cell_below bd6 c12; replace g12 := cell_below bd6 g12; replace m12 := cell_below bd6 m12; replace k12 := cell_below bd6 k12; replace y11 := cell_below bd6 y11; replace r12 := cell_below bd6 r12; replace z12 := cell_below bd6 z12; replace v12 := cell_below bd6 v12; replace s12 := cell_below bd6 s12; replace q12 := cell_below bd6 q12; replace y12 := cell_below bd6 y12; replace a13 := cell_below bd6 a13; replace p12 := cell_below bd6 p12; replace t12 := cell_below bd6 t12; replace l12 := cell_below bd6 l12; replace a12 := cell_below bd6 a12; replace n12 := cell_below bd6 n12; replace d12 := cell_below bd6 d12; replace e12 := cell_below bd6 e12; replace z11 := cell_below bd6 z11; replace o12 := cell_below bd6 o12; replace i12 := cell_below bd6 i12; replace h12 := cell_below bd6 h12; replace i10 := Lib.hid (own_below i10.out bd6); replace Ot_2 := Lib.hid (own_below Ot_2.out bd6); clear bd6; refine wp_region_held_drew (S := fun w' => w'.cell? ⟨w.heap.size, 0, none⟩ = some (.int .i64 x_id) ∧ w'.cell? ⟨w.heap.size, 1, none⟩ = some (.int .i64 x_day) ∧ w'.cell? ⟨w.heap.size, 2, none⟩ = some (.int .i64 x_zone) ∧ w'.cell? ⟨w.heap.size, 3, none⟩ = some (.int .i64 x_grams) ∧ w'.cell? ⟨w.heap.size, 4, none⟩ = some (.int .i64 x_paid) ∧ w'.cell? ⟨w.heap.size, 5, none⟩ = some (.int .i64 x_from_) ∧ w'.cell? ⟨w.heap.size, 6, none⟩ = some (.int .i64 x_to_) ∧ w'.cell? ⟨w.heap.size, 7, none⟩ = some (.int .i64 x_leave) ∧ w'.cell? ⟨w.heap.size, 8, none⟩ = some (.int .i64 x_arrive) ∧ w'.cell? ⟨f10.heap.size, 0, none⟩ = some (.int .i64 w10) ∧ w'.cell? ⟨f10.heap.size, 1, none⟩ = some (.int .i64 k11) ∧ w'.cell? ⟨f10.heap.size, 2, none⟩ = some (.int .i64 b11) ∧ w'.cell? ⟨f10.heap.size, 3, none⟩ = some (.int .i64 f11) ∧ w'.cell? ⟨f10.heap.size, 4, none⟩ = some (.int .i64 i11) ∧ w'.cell? ⟨f10.heap.size, 5, none⟩ = some (.int .i64 h11) ∧ w'.cell? ⟨f10.heap.size, 6, none⟩ = some (.int .i64 m11) ∧ w'.cell? ⟨f10.heap.size, 7, none⟩ = some (.int .i64 j11) ∧ w'.cell? ⟨f10.heap.size, 8, none⟩ = some (.int .i64 a11) ∧ Hid (0 ≤ w'.heap.size)) (by kernel_rfl) ⟨f12, x11, j12, b12, c12, g12, m12, k12, y11, l12, a12, n12, d12, e12, z11, o12, i12, h12, Lib.hid (Nat.zero_le _)⟩ (fun hHeld => ?_); refine wpAnyH_take (i := 0) (oi := _) (v := ?_) rfl (by kernel_rfl) (by kernel_rfl) (by kernel_rfl) (fun _ _ _ h => h) (Or.inl ⟨by rfl, ?_⟩) (by assumption) ?_
  rotate_left
  ·
   intro w hSw
   (try dsimp only at hSw)
   (try simp only [List.getElem_toArray, List.getElem_cons_zero, List.getElem_cons_succ])
   go_simp
   (try with_reducible rfl)
  try simp only [Act.put, List.getElem_toArray, List.getElem_cons_zero, List.getElem_cons_succ, List.setIfInBounds_toArray, List.set_cons_zero, List.set_cons_succ]
  refine wpAnyH_take (i := 1) (oi := _) (v := ?_) rfl (by kernel_rfl) (by kernel_rfl) (by kernel_rfl) (fun _ _ _ h => h) (Or.inl ⟨by rfl, ?_⟩) (by assumption) ?_
  rotate_left
  ·
   intro w hSw
   (try dsimp only at hSw)
   (try simp only [List.getElem_toArray, List.getElem_cons_zero, List.getElem_cons_succ])
   go_simp
   (try with_reducible rfl)
  try simp only [Act.put, List.getElem_toArray, List.getElem_cons_zero, List.getElem_cons_succ, List.setIfInBounds_toArray, List.set_cons_zero, List.set_cons_succ]
  refine wpAnyH_take (i := 2) (oi := _) (v := ?_) rfl (by kernel_rfl) (by kernel_rfl) (by kernel_rfl) (fun _ _ _ h => h) (Or.inl ⟨by rfl, ?_⟩) (by assumption) ?_
  rotate_left
  ·
   intro w hSw
   (try dsimp only at hSw)
   (try simp only [List.getElem_toArray, List.getElem_cons_zero, List.getElem_cons_succ])
   go_simp
   (try with_reducible rfl)
  try simp only [Act.put, List.getElem_toArray, List.getElem_cons_zero, List.getElem_cons_succ, List.setIfInBounds_toArray, List.set_cons_zero, List.set_cons_succ]
  refine wpAnyH_take (i := 3) (oi := _) (v := ?_) rfl (by kernel_rfl) (by kernel_rfl) (by kernel_rfl) (fun _ _ _ h => h) (Or.inl ⟨by rfl, ?_⟩) (by assumption) ?_
  rotate_left
  ·
   intro w hSw
   (try dsimp only at hSw)
   (try simp only [List.getElem_toArray, List.getElem_cons_zero, List.getElem_cons_succ])
   go_simp
   (try with_reducible rfl)
  try simp only [Act.put, List.getElem_toArray, List.getElem_cons_zero, List.getElem_cons_succ, List.setIfInBounds_toArray, List.set_cons_zero, List.set_cons_succ]
  refine wpAnyH_ready (rs := [4]) (by kernel_rfl) (by simp) ?_; refine AllReadyH.cons (o := _) rfl (fun K_ hK_ => ?_) AllReadyH.nil; obtain ⟨j10, g13⟩ : ∃ x, (((((((((b10.drew).setCell ⟨a10.heap.size, 0, none⟩ (.int .i64 w10)).setCell ⟨a10.heap.size, 1, none⟩ (.int .i64 k11)).setCell ⟨a10.heap.size, 2, none⟩ (.int .i64 b11)).setCell ⟨a10.heap.size, 3, none⟩ (.int .i64 f11)).setCell ⟨a10.heap.size, 4, none⟩ (.int .i64 i11)).setCell ⟨a10.heap.size, 5, none⟩ (.int .i64 h11)).setCell ⟨a10.heap.size, 6, none⟩ (.int .i64 m11)).setCell ⟨a10.heap.size, 7, none⟩ (.int .i64 j11)).setCell ⟨a10.heap.size, 8, none⟩ (.int .i64 a11) = x := ⟨_, rfl⟩; have s14 := Ot_2.out.frozenAt 0; have k14 := Ot_2.out.frozenAt 1; have f14 := Ot_2.out.frozenAt 2; have o13 := Ot_2.out.frozenAt 3; have y13 := Ot_2.out.frozenAt 4; have m13 := Ot_2.out.frozenAt 5; have d14 := Ot_2.out.frozenAt 6; have p13 := Ot_2.out.frozenAt 7; have i13 := Ot_2.out.frozenAt 8; have t16 : b10.frozen? ⟨a10.heap.size, 0, none⟩ = false := s14; have l15 : b10.cell? ⟨a10.heap.size, 0, none⟩ = _ := r12; have g15 : b10.frozen? ⟨a10.heap.size, 1, none⟩ = false := k14; have f15 : b10.cell? ⟨a10.heap.size, 1, none⟩ = _ := z12; have k15 : b10.frozen? ⟨a10.heap.size, 2, none⟩ = false := f14; have w15 : b10.cell? ⟨a10.heap.size, 2, none⟩ = _ := v12; have q16 : b10.frozen? ⟨a10.heap.size, 3, none⟩ = false := o13; have e16 : b10.cell? ⟨a10.heap.size, 3, none⟩ = _ := s12; have s16 : b10.frozen? ⟨a10.heap.size, 4, none⟩ = false := y13; have l16 : b10.cell? ⟨a10.heap.size, 4, none⟩ = _ := q12; have y14 : b10.frozen? ⟨a10.heap.size, 5, none⟩ = false := m13; have m15 : b10.cell? ⟨a10.heap.size, 5, none⟩ = _ := y12; have e15 : b10.frozen? ⟨a10.heap.size, 6, none⟩ = false := d14; have i15 : b10.cell? ⟨a10.heap.size, 6, none⟩ = _ := a13; have n15 : b10.frozen? ⟨a10.heap.size, 7, none⟩ = false := p13; have m16 : b10.cell? ⟨a10.heap.size, 7, none⟩ = _ := p12; have g16 : b10.frozen? ⟨a10.heap.size, 8, none⟩ = false := i13; have c16 : b10.cell? ⟨a10.heap.size, 8, none⟩ = _ := t12; have r15 : ((((((((((b10).setCell ⟨a10.heap.size, 0, none⟩ (.int .i64 w10)).setCell ⟨a10.heap.size, 1, none⟩ (.int .i64 k11)).setCell ⟨a10.heap.size, 2, none⟩ (.int .i64 b11)).setCell ⟨a10.heap.size, 3, none⟩ (.int .i64 f11)).setCell ⟨a10.heap.size, 4, none⟩ (.int .i64 i11)).setCell ⟨a10.heap.size, 5, none⟩ (.int .i64 h11)).setCell ⟨a10.heap.size, 6, none⟩ (.int .i64 m11)).setCell ⟨a10.heap.size, 7, none⟩ (.int .i64 j11)).setCell ⟨a10.heap.size, 8, none⟩ (.int .i64 a11)).drew = j10 := (by rw [← g13]; simp only [World.setCell_drew]); have b13 := Lib.hid (own_stores [(0, .int .i64 w10), (1, .int .i64 k11), (2, .int .i64 b11), (3, .int .i64 f11), (4, .int .i64 i11), (5, .int .i64 h11), (6, .int .i64 m11), (7, .int .i64 j11), (8, .int .i64 a11)] Ot_2.out); have x10 : Hid (j10.ownsRow w.heap.size 30 9 (.slice (some ⟨a10.heap.size, 0, none⟩) 1 1) 1 [.int .i64 w10, .int .i64 k11, .int .i64 b11, .int .i64 f11, .int .i64 i11, .int .i64 h11, .int .i64 m11, .int .i64 j11, .int .i64 a11]) := Lib.hid (by rw [← g13]; exact b13.out.1); have g10 : Hid (b10.drew.grownBy j10 (Value.slice (some ⟨a10.heap.size, 0, none⟩) 1 1).ownBlock) := Lib.hid (by rw [← g13]; exact b13.out.2); have k16 := Lib.hid (w12.drew.out.grown g10.out w12.drew.out.size (fun q hq => (Ot_2.out.lt q hq).1)); clear b13; have m14 := cell_other f12 g10.out h10.out; have e14 := cell_other x11 g10.out h10.out; have x14 := cell_other j12 g10.out h10.out; have x13 := cell_other b12 g10.out h10.out; have n13 := cell_other c12 g10.out h10.out; have q14 := cell_other g12 g10.out h10.out; have v14 := cell_other m12 g10.out h10.out; have h14 := cell_other k12 g10.out h10.out; have q13 := cell_other y11 g10.out h10.out; have h13 := cell_other l12 g10.out (Apart.symm t10.out); have c14 := cell_other a12 g10.out (Apart.symm t10.out)
  have w14 := cell_other n12 g10.out (Apart.symm t10.out); have k13 := cell_other d12 g10.out (Apart.symm t10.out); have r14 := cell_other e12 g10.out (Apart.symm t10.out); have l14 := cell_other z11 g10.out (Apart.symm t10.out); have t13 := cell_other o12 g10.out (Apart.symm t10.out); have a14 := cell_other i12 g10.out (Apart.symm t10.out); have b14 := cell_other h12 g10.out (Apart.symm t10.out); replace i10 := Lib.hid (own_other i10.out g10.out (Apart.symm s13.out)); clear Ot_2 g10; have a15 : j10.cell? ⟨a10.heap.size, 0, none⟩ = some (.int .i64 w10) := x10.out.cells rfl 0 _ rfl; have v15 : j10.cell? ⟨a10.heap.size, 1, none⟩ = some (.int .i64 k11) := x10.out.cells rfl 1 _ rfl; have o16 : j10.cell? ⟨a10.heap.size, 2, none⟩ = some (.int .i64 b11) := x10.out.cells rfl 2 _ rfl; have h16 : j10.cell? ⟨a10.heap.size, 3, none⟩ = some (.int .i64 f11) := x10.out.cells rfl 3 _ rfl; have y15 : j10.cell? ⟨a10.heap.size, 4, none⟩ = some (.int .i64 i11) := x10.out.cells rfl 4 _ rfl; have t15 : j10.cell? ⟨a10.heap.size, 5, none⟩ = some (.int .i64 h11) := x10.out.cells rfl 5 _ rfl; have x15 : j10.cell? ⟨a10.heap.size, 6, none⟩ = some (.int .i64 m11) := x10.out.cells rfl 6 _ rfl; have d16 : j10.cell? ⟨a10.heap.size, 7, none⟩ = some (.int .i64 j11) := x10.out.cells rfl 7 _ rfl; have j16 : j10.cell? ⟨a10.heap.size, 8, none⟩ = some (.int .i64 a11) := x10.out.cells rfl 8 _ rfl
  (try simp only [List.getElem_toArray, List.getElem_cons_zero, List.getElem_cons_succ])
  go_simp
  first | refine hK_.out _ _ ⟨m14, e14, x14, x13, n13, q14, v14, h14, q13, h13, c14, w14, k13, r14, l14, t13, a14, b14, Lib.hid (Nat.zero_le _)⟩ (fun hHeld => ?_) | (go_wp2_with fail; refine hK_.out _ _ ⟨m14, e14, x14, x13, n13, q14, v14, h14, q13, h13, c14, w14, k13, r14, l14, t13, a14, b14, Lib.hid (Nat.zero_le _)⟩ (fun hHeld => ?_))
  clear hK_ K_
  try simp only [Act.put, List.getElem_toArray, List.getElem_cons_zero, List.getElem_cons_succ, List.setIfInBounds_toArray, List.set_cons_zero, List.set_cons_succ]
  refine wpAnyH_take (i := 5) (oi := _) (v := ?_) rfl (by kernel_rfl) (by kernel_rfl) (by kernel_rfl) (fun _ _ _ h => h) (Or.inl ⟨by rfl, ?_⟩) (by assumption) ?_
  rotate_left
  ·
   intro w hSw
   (try dsimp only at hSw)
   (try simp only [List.getElem_toArray, List.getElem_cons_zero, List.getElem_cons_succ])
   go_simp
   (try with_reducible rfl)
  try simp only [Act.put, List.getElem_toArray, List.getElem_cons_zero, List.getElem_cons_succ, List.setIfInBounds_toArray, List.set_cons_zero, List.set_cons_succ]
  refine wpAnyH_done (by kernel_rfl) ?_ _
  try clear t16
  try clear l15
  try clear g15
  try clear f15
  try clear k15
  try clear w15
  try clear q16
  try clear e16
  try clear s16
  try clear l16
  try clear y14
  try clear m15
  try clear e15
  try clear i15
  try clear n15
  try clear m16
  try clear g16
  try clear c16
  try clear r15
  try clear s14
  try clear k14
  try clear f14
  try clear o13
  try clear y13
  try clear m13
  try clear d14
  try clear p13
  try clear i13
  try clear f12
  try clear x11
  try clear j12
  try clear b12
  try clear c12
  try clear g12
  try clear m12
  try clear k12
  try clear y11
  try clear l12
  try clear a12
  try clear n12
  try clear d12
  try clear e12
  try clear z11
  try clear o12
  try clear i12
  try clear h12
  try clear r12
  try clear z12
  try clear v12
  try clear s12
  try clear q12
  try clear y12
  try clear a13
  try clear p12
  try clear t12
  have hR_ := ret_hid H; simp only [Prod.mk.injEq] at hR_; obtain ⟨rfl, rfl, rfl⟩ := hR_; go_wp2_with fail
  (try simp only [Exit.inBlock, Exit.then])
  refine bodyPost_ret (v := .tuple #[.int .i64 t_20, .agg #[.int .i64 w10, .int .i64 k11, .int .i64 b11, .int .i64 f11, .int .i64 i11, .int .i64 h11, .int .i64 m11, .int .i64 j11, .int .i64 a11], .bool p16]) ?hr_ ?hd_ ?_
  case hd_ => rfl
  case hr_ => simp [results, Try.results31, a15, v15, o16, h16, y15, t15, x15, d16, j16, go_sem]
  exact ⟨rfl, k16.out⟩
 | true =>
  have s15 : Hid (t_6a.length = 0) := Lib.hid (by have := eq_of_beq n14; omega); have i16 : (t_6a.length == 0) = true := beq_iff_eq.2 s15.out; replace H := ite_t H; obtain ⟨o10, l13⟩ : ∃ x, (((((((((wt_6).setCell ⟨a10.heap.size, 0, none⟩ (.int .i64 0)).setCell ⟨a10.heap.size, 1, none⟩ (.int .i64 0)).setCell ⟨a10.heap.size, 2, none⟩ (.int .i64 0)).setCell ⟨a10.heap.size, 3, none⟩ (.int .i64 0)).setCell ⟨a10.heap.size, 4, none⟩ (.int .i64 0)).setCell ⟨a10.heap.size, 5, none⟩ (.int .i64 0)).setCell ⟨a10.heap.size, 6, none⟩ (.int .i64 0)).setCell ⟨a10.heap.size, 7, none⟩ (.int .i64 0)).setCell ⟨a10.heap.size, 8, none⟩ (.int .i64 0) = x := ⟨_, rfl⟩; have k17 := Ot_2.out.frozenAt 0; have e17 := Ot_2.out.frozenAt 1; have h17 := Ot_2.out.frozenAt 2; have r17 := Ot_2.out.frozenAt 3; have s17 := Ot_2.out.frozenAt 4; have j17 := Ot_2.out.frozenAt 5; have n17 := Ot_2.out.frozenAt 6; have y16 := Ot_2.out.frozenAt 7; have w16 := Ot_2.out.frozenAt 8; have c13 := Lib.hid (own_stores [(0, .int .i64 0), (1, .int .i64 0), (2, .int .i64 0), (3, .int .i64 0), (4, .int .i64 0), (5, .int .i64 0), (6, .int .i64 0), (7, .int .i64 0), (8, .int .i64 0)] Ot_2.out); have c11 : Hid (o10.ownsRow w.heap.size 30 9 (.slice (some ⟨a10.heap.size, 0, none⟩) 1 1) 1 [.int .i64 0, .int .i64 0, .int .i64 0, .int .i64 0, .int .i64 0, .int .i64 0, .int .i64 0, .int .i64 0, .int .i64 0]) := Lib.hid (by rw [← l13]; exact c13.out.1); have k10 : Hid (wt_6.grownBy o10 (Value.slice (some ⟨a10.heap.size, 0, none⟩) 1 1).ownBlock) := Lib.hid (by rw [← l13]; exact c13.out.2); have z14 := Lib.hid (e13.out.grown k10.out e13.out.size (fun q hq => (Ot_2.out.lt q hq).1)); clear c13; have z16 := cell_other q10 k10.out h10.out; have t17 := cell_other z10 k10.out h10.out; have c17 := cell_other g11 k10.out h10.out; have g17 := cell_other l11 k10.out h10.out; have o17 := cell_other d11 k10.out h10.out; have p17 := cell_other v10 k10.out h10.out; have a17 := cell_other e11 k10.out h10.out; have b17 := cell_other y10 k10.out h10.out; have f17 := cell_other n11 k10.out h10.out; replace i10 := Lib.hid (own_other i10.out k10.out (Apart.symm s13.out)); clear Ot_2 k10; have o15 : o10.cell? ⟨a10.heap.size, 0, none⟩ = some (.int .i64 0) := c11.out.cells rfl 0 _ rfl; have j15 : o10.cell? ⟨a10.heap.size, 1, none⟩ = some (.int .i64 0) := c11.out.cells rfl 1 _ rfl; have n16 : o10.cell? ⟨a10.heap.size, 2, none⟩ = some (.int .i64 0) := c11.out.cells rfl 2 _ rfl; have z15 : o10.cell? ⟨a10.heap.size, 3, none⟩ = some (.int .i64 0) := c11.out.cells rfl 3 _ rfl; have b16 : o10.cell? ⟨a10.heap.size, 4, none⟩ = some (.int .i64 0) := c11.out.cells rfl 4 _ rfl; have f16 : o10.cell? ⟨a10.heap.size, 5, none⟩ = some (.int .i64 0) := c11.out.cells rfl 5 _ rfl; have r16 : o10.cell? ⟨a10.heap.size, 6, none⟩ = some (.int .i64 0) := c11.out.cells rfl 6 _ rfl; have p15 : o10.cell? ⟨a10.heap.size, 7, none⟩ = some (.int .i64 0) := c11.out.cells rfl 7 _ rfl; have v16 : o10.cell? ⟨a10.heap.size, 8, none⟩ = some (.int .i64 0) := c11.out.cells rfl 8 _ rfl; have hR_ := ret_hid H; simp only [Prod.mk.injEq] at hR_; obtain ⟨rfl, rfl, rfl⟩ := hR_; go_wp2_with fail
  (try simp only [Exit.inBlock, Exit.then])
  refine bodyPost_ret (v := .tuple #[.int .i64 0, .agg #[.int .i64 0, .int .i64 0, .int .i64 0, .int .i64 0, .int .i64 0, .int .i64 0, .int .i64 0, .int .i64 0, .int .i64 0], .bool false]) ?hr_ ?hd_ ?_
  case hd_ => rfl
  case hr_ => simp [results, Try.results31, o15, j15, n16, z15, b16, f16, r16, p15, v16, go_sem]
  exact ⟨rfl, z14.out⟩
end Go.Proofs.Ytihibckijdfidaa.GiLeastChange

namespace Go.Proofs.Ytihibckijdfidaa.GiCostOf
open Go.RowKit
open Go.Proofs.Ytihibckijdfidaa.Rowed Go.Proofs.Ytihibckijdfidaa.Turn Go.Proofs.Ytihibckijdfidaa.Aid Go.Proofs.Ytihibckijdfidaa.GoP Go.Proofs.Ytihibckijdfidaa.GoM

def l0 (change : Int) (costs_x0 : Int) (costs_x1 : Int) (costs_x2 : Int) (costs_x3 : Int) (k0 : Nat) (s : Int) (nx0 bk0 : Int → Option (Int)) : Option (Int) :=
 letK s fun sum_5l0 =>
 Option.bind (idx [costs_x0, costs_x1, costs_x2, costs_x3] (k0 : Int)) fun (yt_7 : Int) =>
 letK (change / 2 ^ k0) fun (t_12 : Int) =>
 letK (bits .and IntKind.i64 t_12 1) fun (t_13 : Int) =>
 letK (t_13 == 1) fun (t_14 : Bool) =>
 iteK t_14
 (letK (IntKind.i64.wrap (sum_5l0 + yt_7)) fun (t_17 : Int) =>
 appK nx0 (t_17))
 (appK nx0 (sum_5l0))

def e0  (s : Int) : Option (Int) :=
 letK s fun sum_5l0 =>
 some sum_5l0

def P (change : Int) (costs : PIntA4.IntA4) : Option (Int) :=
 unIntA4 costs fun (costs_x0 : Int) (costs_x1 : Int) (costs_x2 : Int) (costs_x3 : Int) =>
 cntK (l0 change costs_x0 costs_x1 costs_x2 costs_x3) (4) 0 (0) (e0 )

set_option maxRecDepth 100000 in
set_option maxHeartbeats 2000000 in
theorem C (change : Int) (costs : PIntA4.IntA4)   (w : World)   {r : Int} (H : Hid (P change costs = some r)) :
  Calls Try.prog 101 #[.int .i64 change, costs.val] w (Gives (.int .i64 r) w) := by
 have HB := Lib.hid (Below.refl w.heap.size w); unfold P at H; obtain ⟨e10, f10, c10, a10⟩ := costs; replace H := unIntA4_hid H; unfold PIntA4.IntA4.val
 go_enter Try.func101, Try.ntmps101
 obtain ⟨b10, d10⟩ : ∃ x, w.alloc (.cells #[.int .i64 e10, .int .i64 f10, .int .i64 c10, .int .i64 a10] 46) = x := ⟨_, rfl⟩; have m10 : Below w.heap.size w b10 := (by rw [← d10]; exact (Below.refl _ _).alloc (Nat.le_refl _) _); have n10 := Lib.hid (Below.step HB.out m10); clear m10; have i10 : b10.cell? ⟨w.heap.size, 0, none⟩ = some (.int .i64 e10) := (by rw [← d10]; exact box_new _ _ _ 0 _ rfl); have g10 : b10.cell? ⟨w.heap.size, 1, none⟩ = some (.int .i64 f10) := (by rw [← d10]; exact box_new _ _ _ 1 _ rfl); have h10 : b10.cell? ⟨w.heap.size, 2, none⟩ = some (.int .i64 c10) := (by rw [← d10]; exact box_new _ _ _ 2 _ rfl); have j10 : b10.cell? ⟨w.heap.size, 3, none⟩ = some (.int .i64 a10) := (by rw [← d10]; exact box_new _ _ _ 3 _ rfl); go_wp2_with fail; go_loopg [9, 5] (4) (fun m_ v9_ v5_ wr => ∃ (k0 : Nat) (l10 : Int), k0 + m_ = 4 ∧ v9_ = .int .i64 (k0 : Int) ∧ v5_ = .int .i64 l10 ∧ Hid (cntK (l0 change e10 f10 c10 a10) m_ k0 (l10) (e0 ) = some r) ∧ Hid (Below w.heap.size w wr) ∧ wr.cell? ⟨w.heap.size, 0, none⟩ = some (.int .i64 e10) ∧ wr.cell? ⟨w.heap.size, 1, none⟩ = some (.int .i64 f10) ∧ wr.cell? ⟨w.heap.size, 2, none⟩ = some (.int .i64 c10) ∧ wr.cell? ⟨w.heap.size, 3, none⟩ = some (.int .i64 a10))
 case atStart => exact ⟨0, _, by omega, rfl, rfl, H, n10, i10, g10, h10, j10⟩
 case round =>
  obtain ⟨k0, l10, hkm0, rfl, rfl, H, k10, i10, g10, h10, j10⟩ := hrel; rename World => wr0
  cases gk with
  | zero =>
   obtain rfl : k0 = 4 := (by omega); have hc0 : decide (((4 : Nat) : Int) < ((4 : Nat) : Int)) = false := (by simp); replace H := cnt_zero H; unfold e0 at H; replace H := let_hid H; obtain ⟨_, rfl, H⟩ := H; obtain rfl := ret_hid H; go_wp2_with fail; go_ret; exact ⟨rfl, k10.out⟩
  | succ m0 =>
   have hlt0 : k0 < 4 := (by omega); have hc0 : decide ((k0 : Int) < ((4 : Nat) : Int)) = true := (by simp; omega); replace H := cnt_succ H; have hd0 : decide ((k0 : Int) < 4) = true := (by simp; omega); unfold l0 at H; replace H := let_hid H; obtain ⟨_, rfl, H⟩ := H; replace H := idx_hid H; obtain ⟨nt_7, yt_7, et_7, lt_7, gt_7, H⟩ := H; obtain rfl : k0 = nt_7 := (by omega); clear et_7
   have it_7 : ∀ w, (Instr.index 46 (.agg #[.int .i64 e10, .int .i64 f10, .int .i64 c10, .int .i64 a10]) (.int .i64 (k0 : Int))).run Try.prog w = .ok (.int .i64 yt_7) w := by
    intro w; have hl := lt_7; have hg := gt_7.out; clear gt_7 H
    rcases k0 with _ | _ | _ | _ | _
    ·
     obtain rfl := Option.some.inj hg; rfl
    ·
     obtain rfl := Option.some.inj hg; rfl
    ·
     obtain rfl := Option.some.inj hg; rfl
    ·
     obtain rfl := Option.some.inj hg; rfl
    ·
     simp at hl; omega
   replace H := let_hid H; obtain ⟨t_12, o10, H⟩ := H; replace H := let_hid H; obtain ⟨t_13, r10, H⟩ := H; replace H := let_hid H; obtain ⟨t_14, p10, H⟩ := H
   cases t_14 with
   | false =>
    replace H := ite_f H; replace H := app_hid H; go_wp2_with fail
    go_roundg m0
    case measure => omega
    case rel => exact ⟨k0 + 1, _, by omega, by go_num, rfl, H, k10, i10, g10, h10, j10⟩
   | true =>
    replace H := ite_t H; replace H := let_hid H; obtain ⟨t_17, q10, H⟩ := H; replace H := app_hid H; go_wp2_with fail
    go_roundg m0
    case measure => omega
    case rel => exact ⟨k0 + 1, _, by omega, by go_num, rfl, H, k10, i10, g10, h10, j10⟩
end Go.Proofs.Ytihibckijdfidaa.GiCostOf

namespace Go.Proofs.Ytihibckijdfidaa.GiAreCosts
open Go.RowKit
open Go.Proofs.Ytihibckijdfidaa.Rowed Go.Proofs.Ytihibckijdfidaa.Turn Go.Proofs.Ytihibckijdfidaa.Aid Go.Proofs.Ytihibckijdfidaa.GoP Go.Proofs.Ytihibckijdfidaa.GoM

def l0 (costs_x0 : Int) (costs_x1 : Int) (costs_x2 : Int) (costs_x3 : Int) (k0 : Nat) (s : Unit) (nx0 bk0 : Unit → Option (Bool)) : Option (Bool) :=
 
 Option.bind (idx [costs_x0, costs_x1, costs_x2, costs_x3] (k0 : Int)) fun (yt_5 : Int) =>
 Option.bind (GiWithin.P yt_5 0 1000) fun (t_8 : Bool) =>
 letK (!t_8) fun (t_9 : Bool) =>
 iteK t_9
 (some false)
 (appK nx0 ())

def e0  (s : Unit) : Option (Bool) :=
 
 some true

def P (costs : PIntA4.IntA4) : Option (Bool) :=
 unIntA4 costs fun (costs_x0 : Int) (costs_x1 : Int) (costs_x2 : Int) (costs_x3 : Int) =>
 cntK (l0 costs_x0 costs_x1 costs_x2 costs_x3) (4) 0 () (e0 )

set_option maxRecDepth 100000 in
set_option maxHeartbeats 2000000 in
theorem C (costs : PIntA4.IntA4)   (w : World)   {r : Bool} (H : Hid (P costs = some r)) :
  Calls Try.prog 97 #[costs.val] w (Gives (.bool r) w) := by
 have HB := Lib.hid (Below.refl w.heap.size w); unfold P at H; obtain ⟨j10, h10, i10, g10⟩ := costs; replace H := unIntA4_hid H; unfold PIntA4.IntA4.val
 go_enter Try.func97, Try.ntmps97
 obtain ⟨a10, e10⟩ : ∃ x, w.alloc (.cells #[.int .i64 j10, .int .i64 h10, .int .i64 i10, .int .i64 g10] 46) = x := ⟨_, rfl⟩; have k10 : Below w.heap.size w a10 := (by rw [← e10]; exact (Below.refl _ _).alloc (Nat.le_refl _) _); have n10 := Lib.hid (Below.step HB.out k10); clear k10; have d10 : a10.cell? ⟨w.heap.size, 0, none⟩ = some (.int .i64 j10) := (by rw [← e10]; exact box_new _ _ _ 0 _ rfl); have f10 : a10.cell? ⟨w.heap.size, 1, none⟩ = some (.int .i64 h10) := (by rw [← e10]; exact box_new _ _ _ 1 _ rfl); have b10 : a10.cell? ⟨w.heap.size, 2, none⟩ = some (.int .i64 i10) := (by rw [← e10]; exact box_new _ _ _ 2 _ rfl); have c10 : a10.cell? ⟨w.heap.size, 3, none⟩ = some (.int .i64 g10) := (by rw [← e10]; exact box_new _ _ _ 3 _ rfl); go_wp2_with fail; go_loopg [6] (4) (fun m_ v6_ wr => ∃ (k0 : Nat) , k0 + m_ = 4 ∧ v6_ = .int .i64 (k0 : Int) ∧ Hid (cntK (l0 j10 h10 i10 g10) m_ k0 () (e0 ) = some r) ∧ Hid (Below w.heap.size w wr) ∧ wr.cell? ⟨w.heap.size, 0, none⟩ = some (.int .i64 j10) ∧ wr.cell? ⟨w.heap.size, 1, none⟩ = some (.int .i64 h10) ∧ wr.cell? ⟨w.heap.size, 2, none⟩ = some (.int .i64 i10) ∧ wr.cell? ⟨w.heap.size, 3, none⟩ = some (.int .i64 g10))
 case atStart => exact ⟨0, by omega, rfl, H, n10, d10, f10, b10, c10⟩
 case round =>
  obtain ⟨k0, hkm0, rfl, H, m10, d10, f10, b10, c10⟩ := hrel; rename World => wr0
  cases gk with
  | zero =>
   obtain rfl : k0 = 4 := (by omega); have hc0 : decide (((4 : Nat) : Int) < ((4 : Nat) : Int)) = false := (by simp); replace H := cnt_zero H; unfold e0 at H; obtain rfl := ret_hid H; go_wp2_with fail; go_ret; exact ⟨rfl, m10.out⟩
  | succ m0 =>
   have hlt0 : k0 < 4 := (by omega); have hc0 : decide ((k0 : Int) < ((4 : Nat) : Int)) = true := (by simp; omega); replace H := cnt_succ H; have hd0 : decide ((k0 : Int) < 4) = true := (by simp; omega); unfold l0 at H; replace H := idx_hid H; obtain ⟨nt_5, yt_5, et_5, lt_5, gt_5, H⟩ := H; obtain rfl : k0 = nt_5 := (by omega); clear et_5
   have it_5 : ∀ w, (Instr.index 46 (.agg #[.int .i64 j10, .int .i64 h10, .int .i64 i10, .int .i64 g10]) (.int .i64 (k0 : Int))).run Try.prog w = .ok (.int .i64 yt_5) w := by
    intro w; have hl := lt_5; have hg := gt_5.out; clear gt_5 H
    rcases k0 with _ | _ | _ | _ | _
    ·
     obtain rfl := Option.some.inj hg; rfl
    ·
     obtain rfl := Option.some.inj hg; rfl
    ·
     obtain rfl := Option.some.inj hg; rfl
    ·
     obtain rfl := Option.some.inj hg; rfl
    ·
     simp at hl; omega
   replace H := bind_hid H; obtain ⟨t_8, qt_8, H⟩ := H; go_wp2_with fail; go_at_call 119; refine (GiWithin.C (yt_5) (0) (1000)  _    qt_8).mono ?_; rintro o10 wt_8 ⟨rfl, bt_8⟩; have l10 := Lib.hid (Below.step m10.out bt_8); replace d10 := cell_below bt_8 d10; replace f10 := cell_below bt_8 f10; replace b10 := cell_below bt_8 b10; replace c10 := cell_below bt_8 c10; clear bt_8
   cases t_8 with
   | false =>
    replace H := let_hid H; obtain ⟨t_9, ht_9, H⟩ := H; obtain rfl : t_9 = true := ht_9.symm; replace H := ite_t H; obtain rfl := ret_hid H; go_wp2_with fail; go_ret; exact ⟨rfl, l10.out⟩
   | true =>
    replace H := let_hid H; obtain ⟨t_9, ht_9, H⟩ := H; obtain rfl : t_9 = false := ht_9.symm; replace H := ite_f H; replace H := app_hid H; go_wp2_with fail
    go_roundg m0
    case measure => omega
    case rel => exact ⟨k0 + 1, by omega, by go_num, H, l10, d10, f10, b10, c10⟩
end Go.Proofs.Ytihibckijdfidaa.GiAreCosts

namespace Go.Proofs.Ytihibckijdfidaa.Q12Cost
open Go.RowKit
open Go.Proofs.Ytihibckijdfidaa.GoP Go.Proofs.Ytihibckijdfidaa.PlainStamp Go.Proofs.Ytihibckijdfidaa.QBase Go.Proofs.Ytihibckijdfidaa.Q12Bits Go.Proofs.Ytihibckijdfidaa.Q8Rate Go.Proofs.Ytihibckijdfidaa.QLoop Go.Proofs.Ytihibckijdfidaa.PIntA4

def okS (s : IntA4) : Bool := inB s.x0 0 1000 && inB s.x1 0 1000 && inB s.x2 0 1000 && inB s.x3 0 1000
theorem okS_of {s : IntA4} (h : okS s = true) : (0 ≤ s.x0 ∧ s.x0 ≤ 1000) ∧ (0 ≤ s.x1 ∧ s.x1 ≤ 1000) ∧ (0 ≤ s.x2 ∧ s.x2 ≤ 1000) ∧ (0 ≤ s.x3 ∧ s.x3 ≤ 1000) := by
  simp only [okS, Bool.and_eq_true] at h
  exact ⟨inB_of h.1.1.1, inB_of h.1.1.2, inB_of h.1.2, inB_of h.2⟩
theorem areCosts_eq (s : IntA4) : GiAreCosts.P s = some (okS s) := by
  obtain ⟨a, b, c, d⟩ := s
  have i0 : idx [a, b, c, d] ((0 : Nat) : Int) = some a := rfl
  have i1 : idx [a, b, c, d] ((1 : Nat) : Int) = some b := rfl
  have i2 : idx [a, b, c, d] ((2 : Nat) : Int) = some c := rfl
  have i3 : idx [a, b, c, d] ((3 : Nat) : Int) = some d := rfl
  simp only [GiAreCosts.P, unIntA4, cntK, GiAreCosts.l0, Nat.zero_add, Nat.reduceAdd, i0, i1, i2, i3, within_eq, Option.bind_some, letK, appK, iteK_if, GiAreCosts.e0, okS]
  cases inB a 0 1000 <;> cases inB b 0 1000 <;> cases inB c 0 1000 <;> cases inB d 0 1000 <;> simp
def costV (c : Int) (s : IntA4) : Int := (if hb c 0 = true then s.x0 else 0) + (if hb c 1 = true then s.x1 else 0) + (if hb c 2 = true then s.x2 else 0) + (if hb c 3 = true then s.x3 else 0)
theorem cost_ones (c : Int) : costV c ⟨1, 1, 1, 1⟩ = onesV c := rfl
theorem cost_impl {c : Int} (h : 0 ≤ c ∧ c ≤ 15) {s : IntA4} (hs : okS s = true) : GiCostOf.P c s = some (costV c s) := by
  have hr := okS_of hs
  obtain ⟨h0, h1, h2, h3⟩ := shr_eq h
  obtain ⟨a, b, d, e⟩ := s
  dsimp only at hr
  have i0 : idx [a, b, d, e] ((0 : Nat) : Int) = some a := rfl
  have i1 : idx [a, b, d, e] ((1 : Nat) : Int) = some b := rfl
  have i2 : idx [a, b, d, e] ((2 : Nat) : Int) = some d := rfl
  have i3 : idx [a, b, d, e] ((3 : Nat) : Int) = some e := rfl
  simp only [GiCostOf.P, unIntA4, cntK, GiCostOf.l0, Nat.zero_add, Nat.reduceAdd, i0, i1, i2, i3, h0, h1, h2, h3, Option.bind_some, letK, appK, iteK_if, GiCostOf.e0, costV]
  cases hb c 0 <;> cases hb c 1 <;> cases hb c 2 <;> cases hb c 3 <;> simp (disch := omega) only [wrap_in, Bool.false_eq_true, if_true, if_false] <;> (congr 1 <;> omega)
theorem cost_spec {c : Int} (h : 0 ≤ c ∧ c ≤ 15) {s : IntA4} (hs : okS s = true) : GsL12Cost.P c s = some (costV c s) := by
  have hr := okS_of hs
  obtain ⟨h0, h1, h2, h3⟩ := has_eq h
  obtain ⟨a, b, d, e⟩ := s
  dsimp only at hr
  have i0 : idx [a, b, d, e] ((0 : Nat) : Int) = some a := rfl
  have i1 : idx [a, b, d, e] ((1 : Nat) : Int) = some b := rfl
  have i2 : idx [a, b, d, e] ((2 : Nat) : Int) = some d := rfl
  have i3 : idx [a, b, d, e] ((3 : Nat) : Int) = some e := rfl
  have k0 : idx ([1, 2, 4, 8] : List Int) ((0 : Nat) : Int) = some 1 := rfl
  have k1 : idx ([1, 2, 4, 8] : List Int) ((1 : Nat) : Int) = some 2 := rfl
  have k2 : idx ([1, 2, 4, 8] : List Int) ((2 : Nat) : Int) = some 4 := rfl
  have k3 : idx ([1, 2, 4, 8] : List Int) ((3 : Nat) : Int) = some 8 := rfl
  simp only [GsL12Cost.P, unIntA4, cntK, GsL12Cost.l0, Nat.zero_add, Nat.reduceAdd, i0, i1, i2, i3, k0, k1, k2, k3, h0, h1, h2, h3, Option.bind_some, letK, appK, iteK_if, GsL12Cost.e0, costV]
  cases hb c 0 <;> cases hb c 1 <;> cases hb c 2 <;> cases hb c 3 <;> simp (disch := omega) only [wrap_in, Bool.false_eq_true, if_true, if_false] <;> (congr 1 <;> omega)
/-- a change is smaller -/
def lessV (a b : Int) : Bool := decide (onesV a < onesV b) || (onesV a == onesV b && decide (a < b))
theorem okOnes : okS ⟨1, 1, 1, 1⟩ = true := by decide
theorem smaller_eq {a b : Int} (ha : 0 ≤ a ∧ a ≤ 15) (hb : 0 ≤ b ∧ b ≤ 15) : GsL12Smaller.P a b = some (lessV a b) := by
  simp only [GsL12Smaller.P, cost_spec ha okOnes, cost_spec hb okOnes, cost_ones, Option.bind_some, letK, joinK, appK, iteK_if, lessV]
  by_cases h1 : onesV a < onesV b
  · simp [h1]
  · by_cases h2 : onesV a = onesV b <;> simp [h1, h2]
theorem compare_ch {a b : Int} (ha : 0 ≤ a ∧ a ≤ 15) (hb : 0 ≤ b ∧ b ≤ 15) : ∃ c, GiCompareChanges.P a b = some c ∧ decide (c < 0) = lessV a b := by
  simp only [GiCompareChanges.P, ones_eq ha, ones_eq hb, compare_eq, or_eq, Option.bind_some, letK, lessV]
  refine ⟨_, rfl, ?_⟩
  by_cases h1 : onesV a < onesV b
  · simp [h1]
  · by_cases h2 : onesV b < onesV a
    · have h3 : ¬ onesV a = onesV b := by omega
      simp [h1, h2, h3]
    · have h3 : onesV a = onesV b := by omega
      by_cases h4 : a < b
      · simp [h3, h4]
      · by_cases h5 : b < a <;> simp [h3, h4, h5]
/-- a change is cheaper, or as cheap and smaller -/
def lessC (s : IntA4) (a b : Int) : Bool := decide (costV a s < costV b s) || (costV a s == costV b s && lessV a b)
theorem lessC_ones (a b : Int) : lessC ⟨1, 1, 1, 1⟩ a b = lessV a b := by
  unfold lessC
  rw [cost_ones, cost_ones]
  unfold lessV
  by_cases h1 : onesV a < onesV b
  · simp [h1]
  · by_cases h2 : onesV a = onesV b <;> simp [h1, h2]
def minC (s : IntA4) (m x : Int) : Int := if lessC s x m = true then x else m
def bestC (s : IntA4) (l : List Int) : Int := match l with | [] => 0 | a :: r => r.foldl (minC s) a
theorem bestC_snoc (s : IntA4) {l : List Int} (hl : l ≠ []) (x : Int) : bestC s (l ++ [x]) = minC s (bestC s l) x := by
  cases l with
  | nil => exact absurd rfl hl
  | cons a r => simp [bestC]
theorem bestC_mem (s : IntA4) {l : List Int} (hl : l ≠ []) : bestC s l ∈ l := by
  cases l with
  | nil => exact absurd rfl hl
  | cons a r =>
    show r.foldl (minC s) a ∈ a :: r
    have key : ∀ (r : List Int) (a : Int), r.foldl (minC s) a = a ∨ r.foldl (minC s) a ∈ r := by
      intro r
      induction r with
      | nil => intro a; exact .inl rfl
      | cons x r ih =>
        intro a
        rw [List.foldl_cons]
        rcases ih (minC s a x) with h | h
        · rw [h]; unfold minC; split
          · exact .inr (by simp)
          · exact .inl rfl
        · exact .inr (List.mem_cons_of_mem _ h)
    rcases key r a with h | h
    · rw [h]; simp
    · exact List.mem_cons_of_mem _ h
end Go.Proofs.Ytihibckijdfidaa.Q12Cost

namespace Go.Proofs.Ytihibckijdfidaa.GiCheapestChange1
open Go.RowKit
open Go.Proofs.Ytihibckijdfidaa.Rowed Go.Proofs.Ytihibckijdfidaa.Turn Go.Proofs.Ytihibckijdfidaa.Aid Go.Proofs.Ytihibckijdfidaa.GoP Go.Proofs.Ytihibckijdfidaa.GoM

def P (a : Int) (b : Int) (hq0_x0 : Int) (hq0_x1 : Int) (hq0_x2 : Int) (hq0_x3 : Int) : Option (Int) :=
  Option.bind (Go.Proofs.Ytihibckijdfidaa.GiCostOf.P a (Go.Proofs.Ytihibckijdfidaa.PIntA4.IntA4.mk hq0_x0 hq0_x1 hq0_x2 hq0_x3)) fun (t_3 : Int) =>
  Option.bind (Go.Proofs.Ytihibckijdfidaa.GiCostOf.P b (Go.Proofs.Ytihibckijdfidaa.PIntA4.IntA4.mk hq0_x0 hq0_x1 hq0_x2 hq0_x3)) fun (t_6 : Int) =>
  Option.bind (Go.Proofs.Ytihibckijdfidaa.GxCmpCompareInt.P t_3 t_6) fun (t_7 : Int) =>
  Option.bind (Go.Proofs.Ytihibckijdfidaa.GiCompareChanges.P a b) fun (t_10 : Int) =>
  letK ([t_7, t_10]) fun (t_11 : (List Int)) =>
  Option.bind (Go.Proofs.Ytihibckijdfidaa.GxCmpOrInt.P t_11) fun (t_12 : Int) =>
  some t_12

set_option maxRecDepth 100000 in
set_option maxHeartbeats 2000000 in
theorem C (a : Int) (b : Int) (hq0_x0 : Int) (hq0_x1 : Int) (hq0_x2 : Int) (hq0_x3 : Int)  (gq0 : Nat) (w : World)  (Fq0_0h : Hid (w.cell? ⟨gq0, 0, none⟩ = some (.int .i64 hq0_x0))) (Fq0_1h : Hid (w.cell? ⟨gq0, 1, none⟩ = some (.int .i64 hq0_x1))) (Fq0_2h : Hid (w.cell? ⟨gq0, 2, none⟩ = some (.int .i64 hq0_x2))) (Fq0_3h : Hid (w.cell? ⟨gq0, 3, none⟩ = some (.int .i64 hq0_x3))) {r : Int} (H : Hid (P a b hq0_x0 hq0_x1 hq0_x2 hq0_x3 = some r)) :
    Calls Try.prog 98 #[.int .i64 a, .int .i64 b, .pointer (some ⟨gq0, 0, none⟩)] w (Gives (.int .i64 r) w) := by
  have HB := Lib.hid (Below.refl w.heap.size w); unfold P at H; have Fq0_0 := Fq0_0h.out; have Fq0_1 := Fq0_1h.out; have Fq0_2 := Fq0_2h.out; have Fq0_3 := Fq0_3h.out
  go_enter Try.func98, Try.ntmps98
  go_wp2_with fail; have bd1 : Below w.heap.size w w.drew := (Below.refl _ _).drew; have HBw.drew := Lib.hid (Below.step HB.out bd1); replace Fq0_0 := cell_below bd1 Fq0_0; replace Fq0_1 := cell_below bd1 Fq0_1; replace Fq0_2 := cell_below bd1 Fq0_2; replace Fq0_3 := cell_below bd1 Fq0_3; clear bd1; replace H := bind_hid H; obtain ⟨t_3, qt_3, H⟩ := H; replace H := bind_hid H; obtain ⟨t_6, qt_6, H⟩ := H; replace H := bind_hid H; obtain ⟨t_7, qt_7, H⟩ := H; replace H := bind_hid H; obtain ⟨t_10, qt_10, H⟩ := H; replace H := let_hid H; obtain ⟨t_11, ht_11, H⟩ := H; replace H := bind_hid H; obtain ⟨t_12, qt_12, H⟩ := H
  go_region_held3 (fun w' => w'.cell? ⟨gq0, 0, none⟩ = some (.int .i64 hq0_x0) ∧ w'.cell? ⟨gq0, 1, none⟩ = some (.int .i64 hq0_x1) ∧ w'.cell? ⟨gq0, 2, none⟩ = some (.int .i64 hq0_x2) ∧ w'.cell? ⟨gq0, 3, none⟩ = some (.int .i64 hq0_x3)) (first | exact ⟨Fq0_0, Fq0_1, Fq0_2, Fq0_3⟩ | exact ⟨Fq0_0__1925, Fq0_1__1926, Fq0_2__1927, Fq0_3__1928⟩)
      (first
        | (go_at_call 101
           refine (Go.Proofs.Ytihibckijdfidaa.GiCostOf.C (a) ((Go.Proofs.Ytihibckijdfidaa.PIntA4.IntA4.mk hq0_x0 hq0_x1 hq0_x2 hq0_x3))  _    qt_3).mono ?_; rintro e_t_3 wt_3 ⟨rfl, bt_3⟩; have HBwt_3 := Lib.hid (Below.step HBw.drew.out bt_3); replace Fq0_0 := cell_below bt_3 Fq0_0; replace Fq0_1 := cell_below bt_3 Fq0_1; replace Fq0_2 := cell_below bt_3 Fq0_2; replace Fq0_3 := cell_below bt_3 Fq0_3; clear bt_3
           clear qt_3)
        | (go_at_call 101
           refine (Go.Proofs.Ytihibckijdfidaa.GiCostOf.C (b) ((Go.Proofs.Ytihibckijdfidaa.PIntA4.IntA4.mk hq0_x0 hq0_x1 hq0_x2 hq0_x3))  _    qt_6).mono ?_; rintro e_t_6 wt_6 ⟨rfl, bt_6⟩; have HBwt_6 := Lib.hid (Below.step HBwt_3.out bt_6); replace Fq0_0 := cell_below bt_6 Fq0_0; replace Fq0_1 := cell_below bt_6 Fq0_1; replace Fq0_2 := cell_below bt_6 Fq0_2; replace Fq0_3 := cell_below bt_6 Fq0_3; clear bt_6
           clear qt_6)
        | (go_at_call 100
           refine (Go.Proofs.Ytihibckijdfidaa.GxCmpCompareInt.C (t_3) (t_6)  _    qt_7).mono ?_; rintro e_t_7 wt_7 ⟨rfl, bt_7⟩; have HBwt_7 := Lib.hid (Below.step HBwt_6.out bt_7); replace Fq0_0 := cell_below bt_7 Fq0_0; replace Fq0_1 := cell_below bt_7 Fq0_1; replace Fq0_2 := cell_below bt_7 Fq0_2; replace Fq0_3 := cell_below bt_7 Fq0_3; clear bt_7
           clear qt_7)
        | (go_at_call 95
           refine (Go.Proofs.Ytihibckijdfidaa.GiCompareChanges.C (a) (b)  _    qt_10).mono ?_; rintro e_t_10 wt_10 ⟨rfl, bt_10⟩; have HBwt_10 := Lib.hid (Below.step HBwt_7.out bt_10); replace Fq0_0 := cell_below bt_10 Fq0_0; replace Fq0_1 := cell_below bt_10 Fq0_1; replace Fq0_2 := cell_below bt_10 Fq0_2; replace Fq0_3 := cell_below bt_10 Fq0_3; clear bt_10; clear qt_10; obtain ⟨w_t_11, hw_t_11⟩ : ∃ x, wt_10.alloc (.cells #[.int .i64 t_7, .int .i64 t_10] 3) = x := ⟨_, rfl⟩; have bw_t_11 : Below wt_10.heap.size wt_10 w_t_11 := (by rw [← hw_t_11]; exact (Below.refl _ _).alloc (Nat.le_refl _) _); have hs_t_11 := HBwt_10.out.size; have nt_11 : t_11.length = 2 := (by rw [← ht_11]; rfl)
           have Ot_11 : Hid (w_t_11.ownsRow w.heap.size 3 1 (.slice (some ⟨wt_10.heap.size, 0, none⟩) 2 2) 2 (Go.Proofs.Ytihibckijdfidaa.HelpInt.iv t_11)) := by
             rw [← hw_t_11, ← ht_11]; have e_ : ([.int .i64 t_7, .int .i64 t_10] : List Value) = (Go.Proofs.Ytihibckijdfidaa.HelpInt.iv ([t_7, t_10] : List Int)) := rfl; exact Lib.hid (own_laid (n := 2) hs_t_11 e_ rfl (by unfold maxLen; omega))
           clear hs_t_11; have hht_11 := Lib.hid ht_11; clear ht_11; replace nt_11 := Lib.hid nt_11; have HBw_t_11 := Lib.hid (Below.step HBwt_10.out bw_t_11); have Fq0_0__1925 := cell_below bw_t_11 Fq0_0; have Fq0_1__1926 := cell_below bw_t_11 Fq0_1; have Fq0_2__1927 := cell_below bw_t_11 Fq0_2; have Fq0_3__1928 := cell_below bw_t_11 Fq0_3
           clear bw_t_11)
        | (have hc0_ := nt_11.out
           have Oct_12_1 := Lib.hid (own_len hc0_ Ot_11.out); have con_ := Go.Proofs.Ytihibckijdfidaa.GxCmpOrInt.C (t_11) (some ⟨wt_10.heap.size, 0, none⟩) 2 _   (Lib.hid (own_cells Oct_12_1.out)) (Lib.hid (own_max Oct_12_1.out)) qt_12; rw [hc0_] at con_; clear hc0_ Oct_12_1; go_at_call 99; refine con_.mono ?_; rintro e_t_12 wt_12 ⟨rfl, bt_12⟩; have HBwt_12 := Lib.hid (Below.step HBw_t_11.out bt_12); replace Fq0_0__1925 := cell_below bt_12 Fq0_0__1925; replace Fq0_1__1926 := cell_below bt_12 Fq0_1__1926; replace Fq0_2__1927 := cell_below bt_12 Fq0_2__1927; replace Fq0_3__1928 := cell_below bt_12 Fq0_3__1928; replace Ot_11 := Lib.hid (own_below Ot_11.out bt_12); clear bt_12
           clear qt_12))
  try clear Fq0_0
  try clear Fq0_1
  try clear Fq0_2
  try clear Fq0_3
  obtain rfl := ret_hid H; go_wp2_with fail; go_ret; exact ⟨rfl, HBwt_12.out⟩
end Go.Proofs.Ytihibckijdfidaa.GiCheapestChange1

namespace Go.Proofs.Ytihibckijdfidaa.GxSlicesMinFuncIntIntiCheapestChange1
open Go.RowKit
open Go.Proofs.Ytihibckijdfidaa.Rowed Go.Proofs.Ytihibckijdfidaa.Turn Go.Proofs.Ytihibckijdfidaa.Aid Go.Proofs.Ytihibckijdfidaa.GoP Go.Proofs.Ytihibckijdfidaa.GoM

def l0 (x : (List Int)) (hf1_0_x0 : Int) (hf1_0_x1 : Int) (hf1_0_x2 : Int) (hf1_0_x3 : Int) (s : Int × Int) (nx0 bk0 : Int × Int → Option (Int)) : Option (Int) :=
  unp2 s fun m_5l0 i_6l0 =>
  letK (decide (i_6l0 < (x.length : Int))) fun (t_14 : Bool) =>
  iteK t_14
  (Option.bind (idx x i_6l0) fun (yt_18 : Int) =>
  Option.bind (Go.Proofs.Ytihibckijdfidaa.GiCheapestChange1.P yt_18 m_5l0 hf1_0_x0 hf1_0_x1 hf1_0_x2 hf1_0_x3) fun (t_21 : Int) =>
  letK (decide (t_21 < 0)) fun (t_22 : Bool) =>
  iteK t_22
  (Option.bind (idx x i_6l0) fun (yt_25 : Int) =>
  letK (IntKind.i64.wrap (i_6l0 + 1)) fun (t_29 : Int) =>
  appK nx0 (yt_25, t_29))
  (letK (IntKind.i64.wrap (i_6l0 + 1)) fun (t_29 : Int) =>
  appK nx0 (m_5l0, t_29)))
  (appK bk0 (m_5l0, i_6l0))

def e0  (s : Int × Int) : Option (Int) :=
  unp2 s fun m_5l0 i_6l0 =>
  some m_5l0

def j0 (x : (List Int)) (hf1_0_x0 : Int) (hf1_0_x1 : Int) (hf1_0_x2 : Int) (hf1_0_x3 : Int) (fuel : Nat) (s : Unit) : Option (Int) :=
  Option.bind (idx x 0) fun (yt_7 : Int) =>
  loopK (l0 x hf1_0_x0 hf1_0_x1 hf1_0_x2 hf1_0_x3) fuel (yt_7, 1) (e0 )

def P (fuel : Nat) (x : (List Int)) (hf1_0_x0 : Int) (hf1_0_x1 : Int) (hf1_0_x2 : Int) (hf1_0_x3 : Int) : Option (Int) :=
  letK (decide ((x.length : Int) < 1)) fun (t_3 : Bool) =>
  iteK t_3
  (none)
  (j0 x hf1_0_x0 hf1_0_x1 hf1_0_x2 hf1_0_x3 fuel ())

set_option maxRecDepth 100000 in
set_option maxHeartbeats 2000000 in
theorem C (fuel : Nat) (x : (List Int)) (hf1_0_x0 : Int) (hf1_0_x1 : Int) (hf1_0_x2 : Int) (hf1_0_x3 : Int) (A0 : Option Addr) (c0 : Nat) (gf1_0 : Nat) (w : World) (M0 : Hid (Cells w 1 A0 x.length (Go.Proofs.Ytihibckijdfidaa.HelpInt.iv x))) (N0 : Hid (x.length ≤ 9223372036854775807)) (Ff1_0_0h : Hid (w.cell? ⟨gf1_0, 0, none⟩ = some (.int .i64 hf1_0_x0))) (Ff1_0_1h : Hid (w.cell? ⟨gf1_0, 1, none⟩ = some (.int .i64 hf1_0_x1))) (Ff1_0_2h : Hid (w.cell? ⟨gf1_0, 2, none⟩ = some (.int .i64 hf1_0_x2))) (Ff1_0_3h : Hid (w.cell? ⟨gf1_0, 3, none⟩ = some (.int .i64 hf1_0_x3))) {r : Int} (H : Hid (P fuel x hf1_0_x0 hf1_0_x1 hf1_0_x2 hf1_0_x3 = some r)) :
    Calls Try.prog 94 #[.slice A0 x.length c0, .func (.func 98) #[] #[.pointer (some ⟨gf1_0, 0, none⟩)]] w (Gives (.int .i64 r) w) := by
  have HB := Lib.hid (Below.refl w.heap.size w)
  unfold P at H
  have N0o := N0.out
  have Ff1_0_0 := Ff1_0_0h.out
  have Ff1_0_1 := Ff1_0_1h.out
  have Ff1_0_2 := Ff1_0_2h.out
  have Ff1_0_3 := Ff1_0_3h.out
  go_enter Try.func94, Try.ntmps94
  replace H := let_hid H
  obtain ⟨t_3, ht_3, H⟩ := H
  cases t_3 with
  | false =>
    have nht_3 : ¬ (x.length < 1) := by have := of_decide_eq_false ht_3; omega
    replace H := ite_f H
    unfold j0 at H
    replace H := idx_hid H
    obtain ⟨nt_7, yt_7, et_7, lt_7, gt_7, H⟩ := H
    obtain rfl : 0 = nt_7 := by omega
    clear et_7
    obtain ⟨ab_t_7, ao_t_7, zt_7, At_7, z_t_7, ct_7_0⟩ := Go.Proofs.Ytihibckijdfidaa.HelpInt.Ints.at_ M0.out lt_7
    obtain rfl := Option.some.inj (gt_7.out.symm.trans z_t_7)
    subst At_7
    have ltt_7 := cell_lt ct_7_0
    replace ct_7_0 := cell_below HB.out ct_7_0
    clear z_t_7
    have b1t_7 : (0 : Int) < ((x.length : Nat) : Int) := by omega
    have b3t_7 : 0 < x.length := by omega
    try simp only [Nat.zero_mul, Nat.add_zero, Nat.zero_add, Nat.reduceMul] at ct_7_0
    go_wp2_with fail
    go_loopg [5, 6] (fuel) (fun m_ v5_ v6_ wr => ∃ (m_5l0 : Int) (i_6l0 : Int), v5_ = .int .i64 m_5l0 ∧ v6_ = .int .i64 i_6l0 ∧ Hid (loopK (l0 x hf1_0_x0 hf1_0_x1 hf1_0_x2 hf1_0_x3) m_ (m_5l0, i_6l0) (e0 ) = some r) ∧ Hid (Below w.heap.size w wr) ∧ wr.cell? ⟨gf1_0, 0, none⟩ = some (.int .i64 hf1_0_x0) ∧ wr.cell? ⟨gf1_0, 1, none⟩ = some (.int .i64 hf1_0_x1) ∧ wr.cell? ⟨gf1_0, 2, none⟩ = some (.int .i64 hf1_0_x2) ∧ wr.cell? ⟨gf1_0, 3, none⟩ = some (.int .i64 hf1_0_x3))
    case atStart => exact ⟨_, _, rfl, rfl, H, HB, Ff1_0_0, Ff1_0_1, Ff1_0_2, Ff1_0_3⟩
    case round =>
      obtain ⟨m_5l0, i_6l0, rfl, rfl, H, HBwr0, Ff1_0_0, Ff1_0_1, Ff1_0_2, Ff1_0_3⟩ := hrel
      rename World => wr0
      cases gk with
      | zero => exact (loop_zero H).elim
      | succ m0 =>
        replace H := loop_succ H
        unfold l0 at H
        replace H := unp2_hid H
        replace H := let_hid H
        obtain ⟨t_14, ht_14, H⟩ := H
        cases t_14 with
        | false =>
          replace H := ite_f H
          replace H := app_hid H
          unfold e0 at H
          replace H := unp2_hid H
          obtain rfl := ret_hid H
          go_wp2_with fail
          go_ret
          exact ⟨rfl, HBwr0.out⟩
        | true =>
          replace H := ite_t H
          replace H := idx_hid H
          obtain ⟨nt_18, yt_18, et_18, lt_18, gt_18, H⟩ := H
          subst et_18
          have nc_1929 : nt_18 < x.length := by have := of_decide_eq_true ht_14; omega
          obtain ⟨ab_t_18, ao_t_18, zt_18, At_18, z_t_18, ct_18_0⟩ := Go.Proofs.Ytihibckijdfidaa.HelpInt.Ints.at_ M0.out lt_18
          obtain rfl := Option.some.inj (gt_18.out.symm.trans z_t_18)
          simp only [Option.some.injEq, Addr.mk.injEq] at At_18
          obtain ⟨rfl, rfl, _⟩ := At_18
          have ltt_18 := cell_lt ct_18_0
          replace ct_18_0 := cell_below HBwr0.out ct_18_0
          clear z_t_18
          have b0t_18 : (0 : Int) ≤ (nt_18 : Int) := by omega
          have b1t_18 : (nt_18 : Int) < ((x.length : Nat) : Int) := by omega
          have b2t_18 : ((nt_18 : Int)).toNat = nt_18 := by omega
          replace H := bind_hid H
          obtain ⟨t_21, qt_21, H⟩ := H
          go_wp2_with fail
          go_at_call 98
          refine (Go.Proofs.Ytihibckijdfidaa.GiCheapestChange1.C (yt_18) (m_5l0) (hf1_0_x0) (hf1_0_x1) (hf1_0_x2) (hf1_0_x3) (gf1_0) _   (Lib.hid Ff1_0_0) (Lib.hid Ff1_0_1) (Lib.hid Ff1_0_2) (Lib.hid Ff1_0_3) qt_21).mono ?_
          rintro e_t_21 wt_21 ⟨rfl, bt_21⟩
          have HBwt_21 := Lib.hid (Below.step HBwr0.out bt_21)
          replace Ff1_0_0 := cell_below bt_21 Ff1_0_0
          replace Ff1_0_1 := cell_below bt_21 Ff1_0_1
          replace Ff1_0_2 := cell_below bt_21 Ff1_0_2
          replace Ff1_0_3 := cell_below bt_21 Ff1_0_3
          replace ct_18_0 := cell_below bt_21 ct_18_0
          clear bt_21
          replace H := let_hid H
          obtain ⟨t_22, ht_22, H⟩ := H
          cases t_22 with
          | false =>
            replace H := ite_f H
            replace H := let_hid H
            obtain ⟨t_29, ht_29, H⟩ := H
            replace H := app_hid H
            go_wp2_with fail
            go_roundg m0
            case measure => omega
            case rel => exact ⟨_, _, rfl, rfl, H, HBwt_21, Ff1_0_0, Ff1_0_1, Ff1_0_2, Ff1_0_3⟩
          | true =>
            replace H := ite_t H
            replace H := idx_hid H
            obtain ⟨nt_25, yt_25, et_25, lt_25, gt_25, H⟩ := H
            obtain rfl : nt_18 = nt_25 := by omega
            clear et_25
            obtain rfl := Option.some.inj (gt_18.out.symm.trans gt_25.out)
            clear gt_25 lt_25
            replace H := let_hid H
            obtain ⟨t_29, ht_29, H⟩ := H
            replace H := app_hid H
            go_wp2_with fail
            go_roundg m0
            case measure => omega
            case rel => exact ⟨_, _, rfl, rfl, H, HBwt_21, Ff1_0_0, Ff1_0_1, Ff1_0_2, Ff1_0_3⟩
  | true =>
    have nht_3 : x.length < 1 := by have := of_decide_eq_true ht_3; omega
    replace H := ite_t H
    exact (none_hid H).elim
end Go.Proofs.Ytihibckijdfidaa.GxSlicesMinFuncIntIntiCheapestChange1

namespace Go.Proofs.Ytihibckijdfidaa.Q12Min
open Go.RowKit
open Go.Proofs.Ytihibckijdfidaa.GoP Go.Proofs.Ytihibckijdfidaa.PlainStamp Go.Proofs.Ytihibckijdfidaa.QBase Go.Proofs.Ytihibckijdfidaa.Q12Cost Go.Proofs.Ytihibckijdfidaa.Q12Bits Go.Proofs.Ytihibckijdfidaa.Q8Rate Go.Proofs.Ytihibckijdfidaa.QUp Go.Proofs.Ytihibckijdfidaa.QLoop Go.Proofs.Ytihibckijdfidaa.PIntA4

theorem compare_cost {a b : Int} (ha : 0 ≤ a ∧ a ≤ 15) (hb : 0 ≤ b ∧ b ≤ 15) {s : IntA4} (hs : okS s = true) : ∃ c, GiCheapestChange1.P a b s.x0 s.x1 s.x2 s.x3 = some c ∧ decide (c < 0) = lessC s a b := by
  obtain ⟨e, he, hl⟩ := compare_ch ha hb
  have c1 := cost_impl ha hs
  have c2 := cost_impl hb hs
  obtain ⟨x0, x1, x2, x3⟩ := s
  simp only [GiCheapestChange1.P, c1, c2, he, compare_eq, or_eq, Option.bind_some, letK, lessC]
  refine ⟨_, rfl, ?_⟩
  rw [← hl]
  by_cases h1 : costV a ⟨x0, x1, x2, x3⟩ < costV b ⟨x0, x1, x2, x3⟩
  · simp [h1]
  · by_cases h2 : costV b ⟨x0, x1, x2, x3⟩ < costV a ⟨x0, x1, x2, x3⟩
    · have h3 : ¬ costV a ⟨x0, x1, x2, x3⟩ = costV b ⟨x0, x1, x2, x3⟩ := by omega
      simp [h1, h2, h3]
    · have h3 : costV a ⟨x0, x1, x2, x3⟩ = costV b ⟨x0, x1, x2, x3⟩ := by omega
      simp [h3]
theorem min_ch {l : List Int} (hok : ∀ x ∈ l, 0 ≤ x ∧ x ≤ 15) (h0 : l ≠ []) (hl : l.length ≤ 1000) (fuel : Nat) (hfu : l.length < fuel) : GxSlicesMinFuncIntIntiCompareChanges.P fuel l = some (bestC ⟨1, 1, 1, 1⟩ l) := by
  have hpos : 0 < l.length := List.length_pos_iff.2 h0
  obtain ⟨a, ha, hai⟩ := at_lt (l := l) (k := 0) hpos
  have hai' : idx l 0 = some a := hai
  simp only [GxSlicesMinFuncIntIntiCompareChanges.P, letK, iteK_if]
  rw [if_neg (by simp; omega)]
  simp only [GxSlicesMinFuncIntIntiCompareChanges.j0, hai', Option.bind_some]
  refine lp_is (n := l.length) _ (fun k (s : Int × Int) => 1 ≤ k ∧ s = (bestC ⟨1, 1, 1, 1⟩ (l.take k), (k : Int))) ?_ ?_ fuel 1 _ (by omega) (by omega) ?_
  · rintro k s nx hk ⟨h1, rfl⟩ hn
    obtain ⟨x, hx, hxi⟩ := at_lt (l := l) (k := k) hk
    have hne : l.take k ≠ [] := by intro e; have := congrArg List.length e; rw [List.length_take, List.length_nil] at this; omega
    have hb := hok _ (List.mem_of_mem_take (bestC_mem ⟨1, 1, 1, 1⟩ hne))
    obtain ⟨c, hc, hcb⟩ := compare_ch (hok x (List.mem_of_getElem? hx)) hb
    simp only [GxSlicesMinFuncIntIntiCompareChanges.l0, unp2, letK, iteK_if]
    rw [if_pos (by simp; omega)]
    simp only [hxi, Option.bind_some, hc, hcb, appK]
    rw [wrap_in (by omega) (by omega)]
    have hs := bestC_snoc ⟨1, 1, 1, 1⟩ hne x
    rw [← take_next hx] at hs
    unfold minC at hs
    rw [lessC_ones] at hs
    split
    · rename_i hh; rw [if_pos hh] at hs; exact hn _ ⟨by omega, by rw [hs]; rfl⟩
    · rename_i hh; rw [if_neg hh] at hs; exact hn _ ⟨by omega, by rw [hs]; rfl⟩
  · rintro s nx ⟨h1, rfl⟩
    rw [List.take_of_length_le (Nat.le_refl _)]
    simp only [GxSlicesMinFuncIntIntiCompareChanges.l0, unp2, letK, iteK_if, appK, GxSlicesMinFuncIntIntiCompareChanges.e0]
    rw [if_neg (by simp)]
  · refine ⟨by omega, ?_⟩
    rw [take_next (k := 0) ha]; rfl
theorem min_cost {l : List Int} (hok : ∀ x ∈ l, 0 ≤ x ∧ x ≤ 15) (h0 : l ≠ []) (hl : l.length ≤ 1000) {c : IntA4} (hc : okS c = true) (fuel : Nat) (hfu : l.length < fuel) : GxSlicesMinFuncIntIntiCheapestChange1.P fuel l c.x0 c.x1 c.x2 c.x3 = some (bestC c l) := by
  have hpos : 0 < l.length := List.length_pos_iff.2 h0
  obtain ⟨a, ha, hai⟩ := at_lt (l := l) (k := 0) hpos
  have hai' : idx l 0 = some a := hai
  simp only [GxSlicesMinFuncIntIntiCheapestChange1.P, letK, iteK_if]
  rw [if_neg (by simp; omega)]
  simp only [GxSlicesMinFuncIntIntiCheapestChange1.j0, hai', Option.bind_some]
  refine lp_is (n := l.length) _ (fun k (s : Int × Int) => 1 ≤ k ∧ s = (bestC c (l.take k), (k : Int))) ?_ ?_ fuel 1 _ (by omega) (by omega) ?_
  · rintro k s nx hk ⟨h1, rfl⟩ hn
    obtain ⟨x, hx, hxi⟩ := at_lt (l := l) (k := k) hk
    have hne : l.take k ≠ [] := by intro e; have := congrArg List.length e; rw [List.length_take, List.length_nil] at this; omega
    have hb := hok _ (List.mem_of_mem_take (bestC_mem c hne))
    obtain ⟨d, hd, hcb⟩ := compare_cost (hok x (List.mem_of_getElem? hx)) hb hc
    simp only [GxSlicesMinFuncIntIntiCheapestChange1.l0, unp2, letK, iteK_if]
    rw [if_pos (by simp; omega)]
    simp only [hxi, Option.bind_some, hd, hcb, appK]
    rw [wrap_in (by omega) (by omega)]
    have hs := bestC_snoc c hne x
    rw [← take_next hx] at hs
    unfold minC at hs
    split
    · rename_i hh; rw [if_pos hh] at hs; exact hn _ ⟨by omega, by rw [hs]; rfl⟩
    · rename_i hh; rw [if_neg hh] at hs; exact hn _ ⟨by omega, by rw [hs]; rfl⟩
  · rintro s nx ⟨h1, rfl⟩
    rw [List.take_of_length_le (Nat.le_refl _)]
    simp only [GxSlicesMinFuncIntIntiCheapestChange1.l0, unp2, letK, iteK_if, appK, GxSlicesMinFuncIntIntiCheapestChange1.e0]
    rw [if_neg (by simp)]
  · refine ⟨by omega, ?_⟩
    rw [take_next (k := 0) ha]; rfl
end Go.Proofs.Ytihibckijdfidaa.Q12Min

namespace Go.Proofs.Ytihibckijdfidaa.QCount
open Go.RowKit
open Go.Proofs.Ytihibckijdfidaa.GoP Go.Proofs.Ytihibckijdfidaa.PlainStamp Go.Proofs.Ytihibckijdfidaa.QBase Go.Proofs.Ytihibckijdfidaa.QLoop

theorem count_list {α R : Type} {l : List α} {p : α → Bool} {f : Nat → Int → (Int → Option R) → (Int → Option R) → Option R} {fin : Int → Option R}
    (step : ∀ k nx x (s : Nat), l[k]? = some x → s ≤ k → f k (s : Int) nx fin = nx ((if p x = true then s + 1 else s : Nat) : Int)) : cntK f l.length 0 0 fin = fin ((l.filter p).length : Int) := by
  have key : ∀ m k, k + m = l.length → cntK f m k (((l.take k).filter p).length : Int) fin = fin ((l.filter p).length : Int) := by
    intro m
    induction m with
    | zero => intro k hk; obtain rfl : k = l.length := by omega
              rw [List.take_of_length_le (Nat.le_refl _)]; rfl
    | succ m ih =>
      intro k hk
      obtain ⟨x, hx, _⟩ := at_lt (l := l) (k := k) (by omega)
      show f k _ _ fin = _
      have hle : ((l.take k).filter p).length ≤ k := by
        have := List.length_filter_le p (l.take k)
        rw [List.length_take] at this
        omega
      rw [step k _ x _ hx hle, ← ih (k + 1) (by omega), take_next hx, List.filter_append, List.length_append]
      cases hp : p x <;> simp [List.filter, hp]
  exact key l.length 0 (by omega)
/-- the first place at which the test holds -/
def firstI {α : Type} (p : α → Bool) (l : List α) : Int := match l.findIdx? p with | some i => (i : Int) | none => -1
end Go.Proofs.Ytihibckijdfidaa.QCount

