/- Texts on which the proofs of several laws stand, one behind the other (15 of 20). No condition of their own. -/
import Derived.Test.YtgbcdmlcmnaimaaChecked
import Derived.Test.YtgbcdmlcmnaimaaX10P1
import Derived.Test.YtgbcdmlcmnaimaaX10P7
import Derived.Test.YtgbcdmlcmnaimaaX10P8
import Derived.WalkKit
import Derived.WalkSpells
import Derived.WalkLawsBesides
import Derived.BigQuiet
import Derived.OwnWalk
import Derived.Deep.LoopGhost
import Derived.Deep.QuietTactic
import Derived.IntWalk
import Derived.Lib.QuietBelow
import Derived.Test.YtgbcdmlcmnaimaaX10P9
import Derived.Test.YtgbcdmlcmnaimaaX10P10
import Derived.Test.YtgbcdmlcmnaimaaX10P4
set_option linter.unusedVariables false
set_option linter.unusedSimpArgs false
namespace Go.Proofs.Ytgbcdmlcmnaimaa.GiDueOn
open Go.RowKit
open Go.Proofs.Ytgbcdmlcmnaimaa.Rowed Go.Proofs.Ytgbcdmlcmnaimaa.Turn Go.Proofs.Ytgbcdmlcmnaimaa.Aid Go.Proofs.Ytgbcdmlcmnaimaa.GoP Go.Proofs.Ytgbcdmlcmnaimaa.GoM

def P (rates : (List PRate.Rate)) (x : PCover.Cover) : Option (Int × Bool) :=
 unCover x fun (x_id : Int) (x_day : Int) (x_zone : Int) (x_grams : Int) (x_paid : Int) (x_from_ : Int) (x_to_ : Int) (x_leave : Int) (x_arrive : Int) =>
 Option.bind (GiAreRates.P rates) fun (t_4 : Bool) =>
 letK (!t_4) fun (t_5 : Bool) =>
 joinK (fun (t_10 : Bool) =>
 iteK t_10
 (some (0, false))
 (Option.bind (GiRateOfCover.P rates (PCover.Cover.mk x_id x_day x_zone x_grams x_paid x_from_ x_to_ x_leave x_arrive)) fun (t_15 : Int) =>
 letK (t_15 == 0) fun (t_18 : Bool) =>
 iteK t_18
 (some (0, false))
 (letK (IntKind.i64.wrap (t_15 - x_paid)) fun (t_24 : Int) =>
 letK (max t_24 0) fun (t_25 : Int) =>
 letK (IntKind.i64.wrap (2 * t_25)) fun (t_26 : Int) =>
 some (t_26, true)))) fun jt_10 => iteK t_5 (appK jt_10 true) (Option.bind (GiIsCover.P (PCover.Cover.mk x_id x_day x_zone x_grams x_paid x_from_ x_to_ x_leave x_arrive)) fun (t_8 : Bool) =>
 letK (!t_8) fun (t_9 : Bool) =>
 appK jt_10 t_9)

set_option maxRecDepth 100000 in
set_option maxHeartbeats 2000000 in
theorem C (rates : (List PRate.Rate)) (x : PCover.Cover) (A0 : Option Addr) (c0 : Nat)  (w : World) (M0 : Hid (Cells w 5 A0 rates.length (PRate.flat rates))) (N0 : Hid (rates.length ≤ 9223372036854775807))  {r0 : Int} {r1 : Bool} (H : Hid (P rates x = some (r0, r1))) :
  Calls Try.prog 9 #[.slice A0 rates.length c0, x.val] w (Gives (.tuple #[.int .i64 r0, .bool r1]) w) := by
 have HB := Lib.hid (Below.refl w.heap.size w); unfold P at H; obtain ⟨x_id, x_day, x_zone, x_grams, x_paid, x_from_, x_to_, x_leave, x_arrive⟩ := x; replace H := unCover_hid H; unfold PCover.Cover.val; have N0o := N0.out
 go_enter Try.func9, Try.ntmps9
 obtain ⟨c10, b10⟩ : ∃ x, w.alloc (.cells #[.int .i64 x_id, .int .i64 x_day, .int .i64 x_zone, .int .i64 x_grams, .int .i64 x_paid, .int .i64 x_from_, .int .i64 x_to_, .int .i64 x_leave, .int .i64 x_arrive] 27) = x := ⟨_, rfl⟩; have o10 : Below w.heap.size w c10 := (by rw [← b10]; exact (Below.refl _ _).alloc (Nat.le_refl _) _); have p10 := Lib.hid (Below.step HB.out o10); clear o10; have e10 : c10.cell? ⟨w.heap.size, 0, none⟩ = some (.int .i64 x_id) := (by rw [← b10]; exact box_new _ _ _ 0 _ rfl); have h10 : c10.cell? ⟨w.heap.size, 1, none⟩ = some (.int .i64 x_day) := (by rw [← b10]; exact box_new _ _ _ 1 _ rfl); have i10 : c10.cell? ⟨w.heap.size, 2, none⟩ = some (.int .i64 x_zone) := (by rw [← b10]; exact box_new _ _ _ 2 _ rfl); have l10 : c10.cell? ⟨w.heap.size, 3, none⟩ = some (.int .i64 x_grams) := (by rw [← b10]; exact box_new _ _ _ 3 _ rfl); have j10 : c10.cell? ⟨w.heap.size, 4, none⟩ = some (.int .i64 x_paid) := (by rw [← b10]; exact box_new _ _ _ 4 _ rfl); have k10 : c10.cell? ⟨w.heap.size, 5, none⟩ = some (.int .i64 x_from_) := (by rw [← b10]; exact box_new _ _ _ 5 _ rfl); have d10 : c10.cell? ⟨w.heap.size, 6, none⟩ = some (.int .i64 x_to_) := (by rw [← b10]; exact box_new _ _ _ 6 _ rfl); have f10 : c10.cell? ⟨w.heap.size, 7, none⟩ = some (.int .i64 x_leave) := (by rw [← b10]; exact box_new _ _ _ 7 _ rfl); have g10 : c10.cell? ⟨w.heap.size, 8, none⟩ = some (.int .i64 x_arrive) := (by rw [← b10]; exact box_new _ _ _ 8 _ rfl); replace H := bind_hid H; obtain ⟨t_4, qt_4, H⟩ := H; go_wp2_with fail; go_at_call 43; refine (GiAreRates.C (rates) A0 c0 _   (Lib.hid (Cells.below M0.out p10.out)) N0 qt_4).mono ?_; rintro v10 wt_4 ⟨rfl, bt_4⟩; have n10 := Lib.hid (Below.step p10.out bt_4); replace e10 := cell_below bt_4 e10; replace h10 := cell_below bt_4 h10; replace i10 := cell_below bt_4 i10; replace l10 := cell_below bt_4 l10; replace j10 := cell_below bt_4 j10; replace k10 := cell_below bt_4 k10; replace d10 := cell_below bt_4 d10; replace f10 := cell_below bt_4 f10; replace g10 := cell_below bt_4 g10; clear bt_4
 cases t_4 with
 | false =>
  replace H := let_hid H; obtain ⟨t_5, ht_5, H⟩ := H; obtain rfl : t_5 = true := ht_5.symm; replace H := join_hid H; replace H := ite_t H; replace H := app_hid H; replace H := ite_t H; cases ret_hid H; go_wp2_with fail; go_ret2; exact ⟨rfl, n10.out⟩
 | true =>
  replace H := let_hid H; obtain ⟨t_5, ht_5, H⟩ := H; obtain rfl : t_5 = false := ht_5.symm; replace H := join_hid H; replace H := ite_f H; replace H := bind_hid H; obtain ⟨t_8, qt_8, H⟩ := H; go_wp2_with fail; go_at_call 18; refine (GiIsCover.C ((PCover.Cover.mk x_id x_day x_zone x_grams x_paid x_from_ x_to_ x_leave x_arrive))  _    qt_8).mono ?_; rintro a11 wt_8 ⟨rfl, bt_8⟩; have m10 := Lib.hid (Below.step n10.out bt_8); replace e10 := cell_below bt_8 e10; replace h10 := cell_below bt_8 h10; replace i10 := cell_below bt_8 i10; replace l10 := cell_below bt_8 l10; replace j10 := cell_below bt_8 j10; replace k10 := cell_below bt_8 k10; replace d10 := cell_below bt_8 d10; replace f10 := cell_below bt_8 f10; replace g10 := cell_below bt_8 g10; clear bt_8
  cases t_8 with
  | false =>
   replace H := let_hid H; obtain ⟨t_9, ht_9, H⟩ := H; obtain rfl : t_9 = true := ht_9.symm; replace H := app_hid H; replace H := ite_t H; cases ret_hid H; go_wp2_with fail; go_ret2; exact ⟨rfl, m10.out⟩
  | true =>
   replace H := let_hid H; obtain ⟨t_9, ht_9, H⟩ := H; obtain rfl : t_9 = false := ht_9.symm; replace H := app_hid H; replace H := ite_f H; replace H := bind_hid H; obtain ⟨t_15, r10, H⟩ := H; go_wp2_with fail; go_at_call 44; refine (GiRateOfCover.C (rates) ((PCover.Cover.mk x_id x_day x_zone x_grams x_paid x_from_ x_to_ x_leave x_arrive)) A0 c0 _   (Lib.hid (Cells.below M0.out m10.out)) N0 r10).mono ?_; rintro s10 x10 ⟨rfl, a10⟩; have q10 := Lib.hid (Below.step m10.out a10); replace e10 := cell_below a10 e10; replace h10 := cell_below a10 h10; replace i10 := cell_below a10 i10; replace l10 := cell_below a10 l10; replace j10 := cell_below a10 j10; replace k10 := cell_below a10 k10; replace d10 := cell_below a10 d10; replace f10 := cell_below a10 f10; replace g10 := cell_below a10 g10; clear a10; replace H := let_hid H; obtain ⟨t_18, y10, H⟩ := H
   cases t_18 with
   | false =>
    replace H := ite_f H; replace H := let_hid H; obtain ⟨t_24, t10, H⟩ := H; replace H := let_hid H; obtain ⟨t_25, z10, H⟩ := H; replace H := let_hid H; obtain ⟨t_26, w10, H⟩ := H; cases ret_hid H; go_wp2_with fail; go_ret2; exact ⟨rfl, q10.out⟩
   | true =>
    replace H := ite_t H; cases ret_hid H; go_wp2_with fail; go_ret2; exact ⟨rfl, q10.out⟩
end Go.Proofs.Ytgbcdmlcmnaimaa.GiDueOn

namespace Go.Proofs.Ytgbcdmlcmnaimaa.GsL1Most
open Go.RowKit
open Go.Proofs.Ytgbcdmlcmnaimaa.Rowed Go.Proofs.Ytgbcdmlcmnaimaa.Turn Go.Proofs.Ytgbcdmlcmnaimaa.Aid Go.Proofs.Ytgbcdmlcmnaimaa.GoP Go.Proofs.Ytgbcdmlcmnaimaa.GoM

def P (a : Int) (b : Int) : Option (Int) :=
  letK (decide (b < a)) fun (t_3 : Bool) =>
  iteK t_3
  (some a)
  (some b)

set_option maxRecDepth 100000 in
set_option maxHeartbeats 2000000 in
theorem C (a : Int) (b : Int)   (w : World)   {r : Int} (H : Hid (P a b = some r)) :
    Calls Try.prog 46 #[.int .i64 a, .int .i64 b] w (Gives (.int .i64 r) w) := by
  have HB := Lib.hid (Below.refl w.heap.size w)
  unfold P at H
  go_enter Try.func46, Try.ntmps46
  replace H := let_hid H
  obtain ⟨t_3, ht_3, H⟩ := H
  cases t_3 with
  | false =>
    replace H := ite_f H
    obtain rfl := ret_hid H
    go_wp2_with fail
    go_ret
    exact ⟨rfl, HB.out⟩
  | true =>
    replace H := ite_t H
    obtain rfl := ret_hid H
    go_wp2_with fail
    go_ret
    exact ⟨rfl, HB.out⟩

set_option maxRecDepth 100000 in
set_option maxHeartbeats 2000000 in
theorem C0 (a : Int) (b : Int)   (w : World)   {r : Int} (H : Hid (P a b = some r)) :
    Calls Try.prog 46 #[.int .i64 a, .int .i64 b] w (fun e w'' => e = .returned (.int .i64 r) ∧ w'' = w) := by
  have HB := Lib.hid (Below.refl w.heap.size w)
  unfold P at H
  go_enter Try.func46, Try.ntmps46
  replace H := let_hid H
  obtain ⟨t_3, ht_3, H⟩ := H
  cases t_3 with
  | false =>
    replace H := ite_f H
    obtain rfl := ret_hid H
    go_wp2_with fail
    go_ret
    exact ⟨rfl, rfl⟩
  | true =>
    replace H := ite_t H
    obtain rfl := ret_hid H
    go_wp2_with fail
    go_ret
    exact ⟨rfl, rfl⟩
end Go.Proofs.Ytgbcdmlcmnaimaa.GsL1Most

namespace Go.Proofs.Ytgbcdmlcmnaimaa.GsDueOn
open Go.RowKit
open Go.Proofs.Ytgbcdmlcmnaimaa.Rowed Go.Proofs.Ytgbcdmlcmnaimaa.Turn Go.Proofs.Ytgbcdmlcmnaimaa.Aid Go.Proofs.Ytgbcdmlcmnaimaa.GoP Go.Proofs.Ytgbcdmlcmnaimaa.GoM

def P (fuel : Nat) (rates : (List PRate.Rate)) (x : PCover.Cover) : Option (Int × Bool) :=
 unCover x fun (x_id : Int) (x_day : Int) (x_zone : Int) (x_grams : Int) (x_paid : Int) (x_from_ : Int) (x_to_ : Int) (x_leave : Int) (x_arrive : Int) =>
 Option.bind (GsL8Good.P fuel rates) fun (t_4 : Bool) =>
 letK (!t_4) fun (t_5 : Bool) =>
 joinK (fun (t_10 : Bool) =>
 iteK t_10
 (some (0, false))
 (Option.bind (GsL8For.P rates x_day x_zone x_grams) fun (t_20 : Int) =>
 letK (t_20 == 0) fun (t_23 : Bool) =>
 iteK t_23
 (some (0, false))
 (letK (IntKind.i64.wrap (t_20 - x_paid)) fun (t_29 : Int) =>
 Option.bind (GsL1Most.P 0 t_29) fun (t_30 : Int) =>
 letK (IntKind.i64.wrap (2 * t_30)) fun (t_31 : Int) =>
 some (t_31, true)))) fun jt_10 => iteK t_5 (appK jt_10 true) (Option.bind (GsL10One.P (PCover.Cover.mk x_id x_day x_zone x_grams x_paid x_from_ x_to_ x_leave x_arrive)) fun (t_8 : Bool) =>
 letK (!t_8) fun (t_9 : Bool) =>
 appK jt_10 t_9)

set_option maxRecDepth 100000 in
set_option maxHeartbeats 2000000 in
theorem C (fuel : Nat) (rates : (List PRate.Rate)) (x : PCover.Cover) (A0 : Option Addr) (c0 : Nat)  (w : World) (M0 : Hid (Cells w 5 A0 rates.length (PRate.flat rates))) (N0 : Hid (rates.length ≤ 9223372036854775807))  {r0 : Int} {r1 : Bool} (H : Hid (P fuel rates x = some (r0, r1))) :
  Calls Try.prog 10 #[.slice A0 rates.length c0, x.val] w (Gives (.tuple #[.int .i64 r0, .bool r1]) w) := by
 have HB := Lib.hid (Below.refl w.heap.size w); unfold P at H; obtain ⟨x_id, x_day, x_zone, x_grams, x_paid, x_from_, x_to_, x_leave, x_arrive⟩ := x; replace H := unCover_hid H; unfold PCover.Cover.val; have N0o := N0.out
 go_enter Try.func10, Try.ntmps10
 obtain ⟨c10, d10⟩ : ∃ x, w.alloc (.cells #[.int .i64 x_id, .int .i64 x_day, .int .i64 x_zone, .int .i64 x_grams, .int .i64 x_paid, .int .i64 x_from_, .int .i64 x_to_, .int .i64 x_leave, .int .i64 x_arrive] 27) = x := ⟨_, rfl⟩; have r10 : Below w.heap.size w c10 := (by rw [← d10]; exact (Below.refl _ _).alloc (Nat.le_refl _) _); have q10 := Lib.hid (Below.step HB.out r10); clear r10; have f10 : c10.cell? ⟨w.heap.size, 0, none⟩ = some (.int .i64 x_id) := (by rw [← d10]; exact box_new _ _ _ 0 _ rfl); have k10 : c10.cell? ⟨w.heap.size, 1, none⟩ = some (.int .i64 x_day) := (by rw [← d10]; exact box_new _ _ _ 1 _ rfl); have h10 : c10.cell? ⟨w.heap.size, 2, none⟩ = some (.int .i64 x_zone) := (by rw [← d10]; exact box_new _ _ _ 2 _ rfl); have g10 : c10.cell? ⟨w.heap.size, 3, none⟩ = some (.int .i64 x_grams) := (by rw [← d10]; exact box_new _ _ _ 3 _ rfl); have e10 : c10.cell? ⟨w.heap.size, 4, none⟩ = some (.int .i64 x_paid) := (by rw [← d10]; exact box_new _ _ _ 4 _ rfl); have i10 : c10.cell? ⟨w.heap.size, 5, none⟩ = some (.int .i64 x_from_) := (by rw [← d10]; exact box_new _ _ _ 5 _ rfl); have m10 : c10.cell? ⟨w.heap.size, 6, none⟩ = some (.int .i64 x_to_) := (by rw [← d10]; exact box_new _ _ _ 6 _ rfl); have l10 : c10.cell? ⟨w.heap.size, 7, none⟩ = some (.int .i64 x_leave) := (by rw [← d10]; exact box_new _ _ _ 7 _ rfl); have j10 : c10.cell? ⟨w.heap.size, 8, none⟩ = some (.int .i64 x_arrive) := (by rw [← d10]; exact box_new _ _ _ 8 _ rfl); replace H := bind_hid H; obtain ⟨t_4, qt_4, H⟩ := H; go_wp2_with fail; go_at_call 39; refine (GsL8Good.C fuel (rates) A0 c0 _   (Lib.hid (Cells.below M0.out q10.out)) N0 qt_4).mono ?_; rintro w10 wt_4 ⟨rfl, bt_4⟩; have o10 := Lib.hid (Below.step q10.out bt_4); replace f10 := cell_below bt_4 f10; replace k10 := cell_below bt_4 k10; replace h10 := cell_below bt_4 h10; replace g10 := cell_below bt_4 g10; replace e10 := cell_below bt_4 e10; replace i10 := cell_below bt_4 i10; replace m10 := cell_below bt_4 m10; replace l10 := cell_below bt_4 l10; replace j10 := cell_below bt_4 j10; clear bt_4
 cases t_4 with
 | false =>
  replace H := let_hid H; obtain ⟨t_5, ht_5, H⟩ := H; obtain rfl : t_5 = true := ht_5.symm; replace H := join_hid H; replace H := ite_t H; replace H := app_hid H; replace H := ite_t H; cases ret_hid H; go_wp2_with fail; go_ret2; exact ⟨rfl, o10.out⟩
 | true =>
  replace H := let_hid H; obtain ⟨t_5, ht_5, H⟩ := H; obtain rfl : t_5 = false := ht_5.symm; replace H := join_hid H; replace H := ite_f H; replace H := bind_hid H; obtain ⟨t_8, qt_8, H⟩ := H; go_wp2_with fail; go_at_call 41; refine (GsL10One.C ((PCover.Cover.mk x_id x_day x_zone x_grams x_paid x_from_ x_to_ x_leave x_arrive))  _    qt_8).mono ?_; rintro a11 wt_8 ⟨rfl, bt_8⟩; have n10 := Lib.hid (Below.step o10.out bt_8); replace f10 := cell_below bt_8 f10; replace k10 := cell_below bt_8 k10; replace h10 := cell_below bt_8 h10; replace g10 := cell_below bt_8 g10; replace e10 := cell_below bt_8 e10; replace i10 := cell_below bt_8 i10; replace m10 := cell_below bt_8 m10; replace l10 := cell_below bt_8 l10; replace j10 := cell_below bt_8 j10; clear bt_8
  cases t_8 with
  | false =>
   replace H := let_hid H; obtain ⟨t_9, ht_9, H⟩ := H; obtain rfl : t_9 = true := ht_9.symm; replace H := app_hid H; replace H := ite_t H; cases ret_hid H; go_wp2_with fail; go_ret2; exact ⟨rfl, n10.out⟩
  | true =>
   replace H := let_hid H; obtain ⟨t_9, ht_9, H⟩ := H; obtain rfl : t_9 = false := ht_9.symm; replace H := app_hid H; replace H := ite_f H; replace H := bind_hid H; obtain ⟨t_20, s10, H⟩ := H; go_wp2_with fail; go_at_call 45; refine (GsL8For.C (rates) (x_day) (x_zone) (x_grams) A0 c0 _   (Lib.hid (Cells.below M0.out n10.out)) N0 s10).mono ?_; rintro y10 x10 ⟨rfl, b10⟩; have p10 := Lib.hid (Below.step n10.out b10); replace f10 := cell_below b10 f10; replace k10 := cell_below b10 k10; replace h10 := cell_below b10 h10; replace g10 := cell_below b10 g10; replace e10 := cell_below b10 e10; replace i10 := cell_below b10 i10; replace m10 := cell_below b10 m10; replace l10 := cell_below b10 l10; replace j10 := cell_below b10 j10; clear b10; replace H := let_hid H; obtain ⟨t_23, z10, H⟩ := H
   cases t_23 with
   | false =>
    replace H := ite_f H; replace H := let_hid H; obtain ⟨t_29, d11, H⟩ := H; replace H := bind_hid H; obtain ⟨t_30, v10, H⟩ := H; go_wp2_with fail; go_at_call 46; refine (GsL1Most.C (0) (t_29)  _    v10).mono ?_; rintro b11 c11 ⟨rfl, a10⟩; have t10 := Lib.hid (Below.step p10.out a10); replace f10 := cell_below a10 f10; replace k10 := cell_below a10 k10; replace h10 := cell_below a10 h10; replace g10 := cell_below a10 g10; replace e10 := cell_below a10 e10; replace i10 := cell_below a10 i10; replace m10 := cell_below a10 m10; replace l10 := cell_below a10 l10; replace j10 := cell_below a10 j10; clear a10; replace H := let_hid H; obtain ⟨t_31, e11, H⟩ := H; cases ret_hid H; go_wp2_with fail; go_ret2; exact ⟨rfl, t10.out⟩
   | true =>
    replace H := ite_t H; cases ret_hid H; go_wp2_with fail; go_ret2; exact ⟨rfl, p10.out⟩
end Go.Proofs.Ytgbcdmlcmnaimaa.GsDueOn

namespace Go.Proofs.Ytgbcdmlcmnaimaa.GiSpareMinutes
open Go.RowKit
open Go.Proofs.Ytgbcdmlcmnaimaa.Rowed Go.Proofs.Ytgbcdmlcmnaimaa.Turn Go.Proofs.Ytgbcdmlcmnaimaa.Aid Go.Proofs.Ytgbcdmlcmnaimaa.GoP Go.Proofs.Ytgbcdmlcmnaimaa.GoM

def P (fuel : Nat) (mails : (List PMail.Mail)) (x : PCover.Cover) : Option (Int × Bool) :=
 unCover x fun (x_id : Int) (x_day : Int) (x_zone : Int) (x_grams : Int) (x_paid : Int) (x_from_ : Int) (x_to_ : Int) (x_leave : Int) (x_arrive : Int) =>
 Option.bind (GiIsTimetable.P mails) fun (t_4 : Bool) =>
 letK (!t_4) fun (t_5 : Bool) =>
 joinK (fun (t_10 : Bool) =>
 iteK t_10
 (some (0, false))
 (Option.bind (GiLatestMinutes.P fuel mails x_to_ x_arrive) fun (t_21 : PIntA10.IntA10) =>
 unIntA10 t_21 fun (t_21_x0 : Int) (t_21_x1 : Int) (t_21_x2 : Int) (t_21_x3 : Int) (t_21_x4 : Int) (t_21_x5 : Int) (t_21_x6 : Int) (t_21_x7 : Int) (t_21_x8 : Int) (t_21_x9 : Int) =>
 Option.bind (idx [t_21_x0, t_21_x1, t_21_x2, t_21_x3, t_21_x4, t_21_x5, t_21_x6, t_21_x7, t_21_x8, t_21_x9] x_from_) fun (yt_24 : Int) =>
 letK (decide (yt_24 < x_leave)) fun (t_31 : Bool) =>
 iteK t_31
 (some (0, false))
 (letK (IntKind.i64.wrap (yt_24 - x_leave)) fun (t_38 : Int) =>
 some (t_38, true)))) fun jt_10 => iteK t_5 (appK jt_10 true) (Option.bind (GiIsCover.P (PCover.Cover.mk x_id x_day x_zone x_grams x_paid x_from_ x_to_ x_leave x_arrive)) fun (t_8 : Bool) =>
 letK (!t_8) fun (t_9 : Bool) =>
 appK jt_10 t_9)

set_option maxRecDepth 100000 in
set_option maxHeartbeats 2000000 in
theorem C (fuel : Nat) (mails : (List PMail.Mail)) (x : PCover.Cover) (A0 : Option Addr) (c0 : Nat)  (w : World) (M0 : Hid (Cells w 4 A0 mails.length (PMail.flat mails))) (N0 : Hid (mails.length ≤ 9223372036854775807))  {r0 : Int} {r1 : Bool} (H : Hid (P fuel mails x = some (r0, r1))) :
  Calls Try.prog 15 #[.slice A0 mails.length c0, x.val] w (Gives (.tuple #[.int .i64 r0, .bool r1]) w) := by
 have HB := Lib.hid (Below.refl w.heap.size w); unfold P at H; obtain ⟨x_id, x_day, x_zone, x_grams, x_paid, x_from_, x_to_, x_leave, x_arrive⟩ := x; replace H := unCover_hid H; unfold PCover.Cover.val; have N0o := N0.out
 go_enter Try.func15, Try.ntmps15
 obtain ⟨g10, h10⟩ : ∃ x, w.alloc (.cells #[.int .i64 x_id, .int .i64 x_day, .int .i64 x_zone, .int .i64 x_grams, .int .i64 x_paid, .int .i64 x_from_, .int .i64 x_to_, .int .i64 x_leave, .int .i64 x_arrive] 27) = x := ⟨_, rfl⟩; have j12 : Below w.heap.size w g10 := (by rw [← h10]; exact (Below.refl _ _).alloc (Nat.le_refl _) _); have h12 := Lib.hid (Below.step HB.out j12); clear j12; have v10 : g10.cell? ⟨w.heap.size, 0, none⟩ = some (.int .i64 x_id) := (by rw [← h10]; exact box_new _ _ _ 0 _ rfl); have a11 : g10.cell? ⟨w.heap.size, 1, none⟩ = some (.int .i64 x_day) := (by rw [← h10]; exact box_new _ _ _ 1 _ rfl); have w10 : g10.cell? ⟨w.heap.size, 2, none⟩ = some (.int .i64 x_zone) := (by rw [← h10]; exact box_new _ _ _ 2 _ rfl); have z10 : g10.cell? ⟨w.heap.size, 3, none⟩ = some (.int .i64 x_grams) := (by rw [← h10]; exact box_new _ _ _ 3 _ rfl); have b11 : g10.cell? ⟨w.heap.size, 4, none⟩ = some (.int .i64 x_paid) := (by rw [← h10]; exact box_new _ _ _ 4 _ rfl); have x10 : g10.cell? ⟨w.heap.size, 5, none⟩ = some (.int .i64 x_from_) := (by rw [← h10]; exact box_new _ _ _ 5 _ rfl); have d11 : g10.cell? ⟨w.heap.size, 6, none⟩ = some (.int .i64 x_to_) := (by rw [← h10]; exact box_new _ _ _ 6 _ rfl); have c11 : g10.cell? ⟨w.heap.size, 7, none⟩ = some (.int .i64 x_leave) := (by rw [← h10]; exact box_new _ _ _ 7 _ rfl); have y10 : g10.cell? ⟨w.heap.size, 8, none⟩ = some (.int .i64 x_arrive) := (by rw [← h10]; exact box_new _ _ _ 8 _ rfl); replace H := bind_hid H; obtain ⟨t_4, qt_4, H⟩ := H; go_wp2_with fail; go_at_call 47; refine (GiIsTimetable.C (mails) A0 c0 _   (Lib.hid (Cells.below M0.out h12.out)) N0 qt_4).mono ?_; rintro b13 wt_4 ⟨rfl, bt_4⟩; have z11 := Lib.hid (Below.step h12.out bt_4); replace v10 := cell_below bt_4 v10; replace a11 := cell_below bt_4 a11; replace w10 := cell_below bt_4 w10; replace z10 := cell_below bt_4 z10; replace b11 := cell_below bt_4 b11; replace x10 := cell_below bt_4 x10; replace d11 := cell_below bt_4 d11; replace c11 := cell_below bt_4 c11; replace y10 := cell_below bt_4 y10; clear bt_4
 cases t_4 with
 | false =>
  replace H := let_hid H; obtain ⟨t_5, ht_5, H⟩ := H; obtain rfl : t_5 = true := ht_5.symm; replace H := join_hid H; replace H := ite_t H; replace H := app_hid H; replace H := ite_t H; cases ret_hid H; go_wp2_with fail; go_ret2; exact ⟨rfl, z11.out⟩
 | true =>
  replace H := let_hid H; obtain ⟨t_5, ht_5, H⟩ := H; obtain rfl : t_5 = false := ht_5.symm; replace H := join_hid H; replace H := ite_f H; replace H := bind_hid H; obtain ⟨t_8, qt_8, H⟩ := H; go_wp2_with fail; go_at_call 18; refine (GiIsCover.C ((PCover.Cover.mk x_id x_day x_zone x_grams x_paid x_from_ x_to_ x_leave x_arrive))  _    qt_8).mono ?_; rintro f13 wt_8 ⟨rfl, bt_8⟩; have q11 := Lib.hid (Below.step z11.out bt_8); replace v10 := cell_below bt_8 v10; replace a11 := cell_below bt_8 a11; replace w10 := cell_below bt_8 w10; replace z10 := cell_below bt_8 z10; replace b11 := cell_below bt_8 b11; replace x10 := cell_below bt_8 x10; replace d11 := cell_below bt_8 d11; replace c11 := cell_below bt_8 c11; replace y10 := cell_below bt_8 y10; clear bt_8
  cases t_8 with
  | false =>
   replace H := let_hid H; obtain ⟨t_9, ht_9, H⟩ := H; obtain rfl : t_9 = true := ht_9.symm; replace H := app_hid H; replace H := ite_t H; cases ret_hid H; go_wp2_with fail; go_ret2; exact ⟨rfl, q11.out⟩
  | true =>
   replace H := let_hid H; obtain ⟨t_9, ht_9, H⟩ := H; obtain rfl : t_9 = false := ht_9.symm; replace H := app_hid H; replace H := ite_f H; obtain ⟨b10, e10⟩ : ∃ x, wt_8.alloc (.cells #[.int .i64 x_id, .int .i64 x_day, .int .i64 x_zone, .int .i64 x_grams, .int .i64 x_paid, .int .i64 x_from_, .int .i64 x_to_, .int .i64 x_leave, .int .i64 x_arrive] 27) = x := ⟨_, rfl⟩; have f10 : Below wt_8.heap.size wt_8 b10 := (by rw [← e10]; exact (Below.refl _ _).alloc (Nat.le_refl _) _); have o10 := Lib.hid (apart_box v10); have p11 := Lib.hid (Below.step q11.out f10); have r10 := cell_below f10 v10; have n10 := cell_below f10 a11; have i10 := cell_below f10 w10; have j10 := cell_below f10 z10; have p10 := cell_below f10 b11; have l10 := cell_below f10 x10; have q10 := cell_below f10 d11; have k10 := cell_below f10 c11; have s10 := cell_below f10 y10; clear f10; have l11 : b10.cell? ⟨wt_8.heap.size, 0, none⟩ = some (.int .i64 x_id) := (by rw [← e10]; exact box_new _ _ _ 0 _ rfl); have o11 : b10.cell? ⟨wt_8.heap.size, 1, none⟩ = some (.int .i64 x_day) := (by rw [← e10]; exact box_new _ _ _ 1 _ rfl); have k11 : b10.cell? ⟨wt_8.heap.size, 2, none⟩ = some (.int .i64 x_zone) := (by rw [← e10]; exact box_new _ _ _ 2 _ rfl); have f11 : b10.cell? ⟨wt_8.heap.size, 3, none⟩ = some (.int .i64 x_grams) := (by rw [← e10]; exact box_new _ _ _ 3 _ rfl); have i11 : b10.cell? ⟨wt_8.heap.size, 4, none⟩ = some (.int .i64 x_paid) := (by rw [← e10]; exact box_new _ _ _ 4 _ rfl); have e11 : b10.cell? ⟨wt_8.heap.size, 5, none⟩ = some (.int .i64 x_from_) := (by rw [← e10]; exact box_new _ _ _ 5 _ rfl); have g11 : b10.cell? ⟨wt_8.heap.size, 6, none⟩ = some (.int .i64 x_to_) := (by rw [← e10]; exact box_new _ _ _ 6 _ rfl); have j11 : b10.cell? ⟨wt_8.heap.size, 7, none⟩ = some (.int .i64 x_leave) := (by rw [← e10]; exact box_new _ _ _ 7 _ rfl); have m11 : b10.cell? ⟨wt_8.heap.size, 8, none⟩ = some (.int .i64 x_arrive) := (by rw [← e10]; exact box_new _ _ _ 8 _ rfl); have t10 : Hid (b10.ownsRow w.heap.size 27 9 (.slice (some ⟨wt_8.heap.size, 0, none⟩) 1 1) 1 [.int .i64 x_id, .int .i64 x_day, .int .i64 x_zone, .int .i64 x_grams, .int .i64 x_paid, .int .i64 x_from_, .int .i64 x_to_, .int .i64 x_leave, .int .i64 x_arrive]) := Lib.hid (by rw [← e10]; exact own_laid (n := 1) q11.out.size rfl rfl (by unfold maxLen; omega)); go_wp2_with fail; clear v10 a11 w10 z10 b11 x10 d11 c11 y10; have bd4 : Below b10.heap.size b10 b10.drew := (Below.refl _ _).drew; have p11.drew := Lib.hid (Below.step p11.out bd4); replace r10 := cell_below bd4 r10; replace n10 := cell_below bd4 n10; replace i10 := cell_below bd4 i10; replace j10 := cell_below bd4 j10; replace p10 := cell_below bd4 p10; replace l10 := cell_below bd4 l10; replace q10 := cell_below bd4 q10; replace k10 := cell_below bd4 k10; replace s10 := cell_below bd4 s10; replace l11 := cell_below bd4 l11; replace o11 := cell_below bd4 o11; replace k11 := cell_below bd4 k11; replace f11 := cell_below bd4 f11; replace i11 := cell_below bd4 i11; replace e11 := cell_below bd4 e11; replace g11 := cell_below bd4 g11; replace j11 := cell_below bd4 j11; replace m11 := cell_below bd4 m11; replace t10 := Lib.hid (own_below t10.out bd4); clear bd4; replace H := bind_hid H; obtain ⟨t_21, f12, H⟩ := H; obtain ⟨q12, t12, p12, m12, n12, s12, l12, v12, o12, w12⟩ := t_21; replace H := unIntA10_hid H; replace H := idx_hid H; obtain ⟨n11, h11, y12, x12, a12, H⟩ := H; subst y12
   have z12 : ∀ w, (Instr.index 78 (.agg #[.int .i64 q12, .int .i64 t12, .int .i64 p12, .int .i64 m12, .int .i64 n12, .int .i64 s12, .int .i64 l12, .int .i64 v12, .int .i64 o12, .int .i64 w12]) (.int .i64 (n11 : Int))).run Try.prog w = .ok (.int .i64 h11) w := by
    intro w; have hl := x12; have hg := a12.out; clear a12 H
    rcases n11 with _ | _ | _ | _ | _ | _ | _ | _ | _ | _ | _
    · obtain rfl := Option.some.inj hg; rfl
    · obtain rfl := Option.some.inj hg; rfl
    · obtain rfl := Option.some.inj hg; rfl
    · obtain rfl := Option.some.inj hg; rfl
    · obtain rfl := Option.some.inj hg; rfl
    · obtain rfl := Option.some.inj hg; rfl
    · obtain rfl := Option.some.inj hg; rfl
    · obtain rfl := Option.some.inj hg; rfl
    · obtain rfl := Option.some.inj hg; rfl
    · obtain rfl := Option.some.inj hg; rfl
    · simp at hl; omega
   refine wp_region_held_drew (S := fun w' => w'.cell? ⟨w.heap.size, 0, none⟩ = some (.int .i64 x_id) ∧ w'.cell? ⟨w.heap.size, 1, none⟩ = some (.int .i64 x_day) ∧ w'.cell? ⟨w.heap.size, 2, none⟩ = some (.int .i64 x_zone) ∧ w'.cell? ⟨w.heap.size, 3, none⟩ = some (.int .i64 x_grams) ∧ w'.cell? ⟨w.heap.size, 4, none⟩ = some (.int .i64 x_paid) ∧ w'.cell? ⟨w.heap.size, 5, none⟩ = some (.int .i64 (n11 : Int)) ∧ w'.cell? ⟨w.heap.size, 6, none⟩ = some (.int .i64 x_to_) ∧ w'.cell? ⟨w.heap.size, 7, none⟩ = some (.int .i64 x_leave) ∧ w'.cell? ⟨w.heap.size, 8, none⟩ = some (.int .i64 x_arrive) ∧ Hid (0 ≤ w'.heap.size)) (by kernel_rfl) ⟨r10, n10, i10, j10, p10, l10, q10, k10, s10, Lib.hid (Nat.zero_le _)⟩ (fun hHeld => ?_); refine wpAnyH_take (i := 0) (oi := _) (v := ?_) rfl (by kernel_rfl) (by kernel_rfl) (by kernel_rfl) (fun _ _ _ h => h) (Or.inl ⟨by rfl, ?_⟩) (by assumption) ?_
   rotate_left
   · intro w hSw
    (try dsimp only at hSw)
    (try simp only [List.getElem_toArray, List.getElem_cons_zero, List.getElem_cons_succ])
    go_simp
    (try with_reducible rfl)
   try simp only [Act.put, List.getElem_toArray, List.getElem_cons_zero, List.getElem_cons_succ, List.setIfInBounds_toArray, List.set_cons_zero, List.set_cons_succ]
   refine wpAnyH_take (i := 1) (oi := _) (v := ?_) rfl (by kernel_rfl) (by kernel_rfl) (by kernel_rfl) (fun _ _ _ h => h) (Or.inl ⟨by rfl, ?_⟩) (by assumption) ?_
   rotate_left
   · intro w hSw
    (try dsimp only at hSw)
    (try simp only [List.getElem_toArray, List.getElem_cons_zero, List.getElem_cons_succ])
    go_simp
    (try with_reducible rfl)
   try simp only [Act.put, List.getElem_toArray, List.getElem_cons_zero, List.getElem_cons_succ, List.setIfInBounds_toArray, List.set_cons_zero, List.set_cons_succ]
   refine wpAnyH_take (i := 2) (oi := _) (v := ?_) rfl (by kernel_rfl) (by kernel_rfl) (by kernel_rfl) (fun _ _ _ h => h) (Or.inl ⟨by rfl, ?_⟩) (by assumption) ?_
   rotate_left
   · intro w hSw
    (try dsimp only at hSw)
    (try simp only [List.getElem_toArray, List.getElem_cons_zero, List.getElem_cons_succ])
    go_simp
    (try with_reducible rfl)
   try simp only [Act.put, List.getElem_toArray, List.getElem_cons_zero, List.getElem_cons_succ, List.setIfInBounds_toArray, List.set_cons_zero, List.set_cons_succ]
   refine wpAnyH_take (i := 3) (oi := _) (v := ?_) rfl (by kernel_rfl) (by kernel_rfl) (by kernel_rfl) (fun _ _ _ h => h) (Or.inl ⟨by rfl, ?_⟩) (by assumption) ?_
   rotate_left
   · intro w hSw
    (try dsimp only at hSw)
    (try simp only [List.getElem_toArray, List.getElem_cons_zero, List.getElem_cons_succ])
    go_simp
    (try with_reducible rfl)
   try simp only [Act.put, List.getElem_toArray, List.getElem_cons_zero, List.getElem_cons_succ, List.setIfInBounds_toArray, List.set_cons_zero, List.set_cons_succ]
   refine wpAnyH_take (i := 4) (oi := _) (v := ?_) rfl (by kernel_rfl) (by kernel_rfl) (by kernel_rfl) (fun _ _ _ h => h) (Or.inl ⟨by rfl, ?_⟩) (by assumption) ?_
   rotate_left
   · intro w hSw
    (try dsimp only at hSw)
    (try simp only [List.getElem_toArray, List.getElem_cons_zero, List.getElem_cons_succ])
    go_simp
    (try with_reducible rfl)
   try simp only [Act.put, List.getElem_toArray, List.getElem_cons_zero, List.getElem_cons_succ, List.setIfInBounds_toArray, List.set_cons_zero, List.set_cons_succ]
   refine wpAnyH_take (i := 6) (oi := _) (v := ?_) rfl (by kernel_rfl) (by kernel_rfl) (by kernel_rfl) (fun _ _ _ h => h) (Or.inl ⟨by rfl, ?_⟩) (by assumption) ?_
   rotate_left
   · intro w hSw
    (try dsimp only at hSw)
    (try simp only [List.getElem_toArray, List.getElem_cons_zero, List.getElem_cons_succ])
    go_simp
    (try with_reducible rfl)
   try simp only [Act.put, List.getElem_toArray, List.getElem_cons_zero, List.getElem_cons_succ, List.setIfInBounds_toArray, List.set_cons_zero, List.set_cons_succ]
   refine wpAnyH_take (i := 7) (oi := _) (v := ?_) rfl (by kernel_rfl) (by kernel_rfl) (by kernel_rfl) (fun _ _ _ h => h) (Or.inl ⟨by rfl, ?_⟩) (by assumption) ?_
   rotate_left
   · intro w hSw
    (try dsimp only at hSw)
    (try simp only [List.getElem_toArray, List.getElem_cons_zero, List.getElem_cons_succ])
    go_simp
    (try with_reducible rfl)
   try simp only [Act.put, List.getElem_toArray, List.getElem_cons_zero, List.getElem_cons_succ, List.setIfInBounds_toArray, List.set_cons_zero, List.set_cons_succ]
   refine wpAnyH_ready (rs := [5]) (by kernel_rfl) (by simp) ?_; refine AllReadyH.cons (o := _) rfl (fun K_ hK_ => ?_) AllReadyH.nil
   (try simp only [List.getElem_toArray, List.getElem_cons_zero, List.getElem_cons_succ])
   go_simp
   go_at_call 54; refine (GiLatestMinutes.C fuel (mails) (x_to_) (x_arrive) A0 c0 _   (Lib.hid (Cells.below M0.out p11.drew.out)) N0 f12).mono ?_; rintro n13 k12 ⟨rfl, a10⟩; unfold PIntA10.IntA10.val; have y11 := Lib.hid (Below.step p11.drew.out a10); replace r10 := cell_below a10 r10; replace n10 := cell_below a10 n10; replace i10 := cell_below a10 i10; replace j10 := cell_below a10 j10; replace p10 := cell_below a10 p10; replace l10 := cell_below a10 l10; replace q10 := cell_below a10 q10; replace k10 := cell_below a10 k10; replace s10 := cell_below a10 s10; replace l11 := cell_below a10 l11; replace o11 := cell_below a10 o11; replace k11 := cell_below a10 k11; replace f11 := cell_below a10 f11; replace i11 := cell_below a10 i11; replace e11 := cell_below a10 e11; replace g11 := cell_below a10 g11; replace j11 := cell_below a10 j11; replace m11 := cell_below a10 m11; replace t10 := Lib.hid (own_below t10.out a10); clear a10; clear f12
   first | refine hK_.out _ _ ⟨r10, n10, i10, j10, p10, l10, q10, k10, s10, Lib.hid (Nat.zero_le _)⟩ (fun hHeld => ?_) | (go_wp2_with fail; refine hK_.out _ _ ⟨r10, n10, i10, j10, p10, l10, q10, k10, s10, Lib.hid (Nat.zero_le _)⟩ (fun hHeld => ?_))
   clear hK_ K_
   try simp only [Act.put, List.getElem_toArray, List.getElem_cons_zero, List.getElem_cons_succ, List.setIfInBounds_toArray, List.set_cons_zero, List.set_cons_succ]
   refine wpAnyH_take (i := 8) (oi := _) (v := ?_) rfl (by kernel_rfl) (by kernel_rfl) (by kernel_rfl) (fun _ _ _ h => h) (Or.inl ⟨by rfl, ?_⟩) (by assumption) ?_
   rotate_left
   · intro w hSw
    (try dsimp only at hSw)
    (try simp only [List.getElem_toArray, List.getElem_cons_zero, List.getElem_cons_succ])
    go_simp
    (try with_reducible rfl)
   try simp only [Act.put, List.getElem_toArray, List.getElem_cons_zero, List.getElem_cons_succ, List.setIfInBounds_toArray, List.set_cons_zero, List.set_cons_succ]
   refine wpAnyH_take (i := 9) (oi := _) (v := ?_) rfl (by kernel_rfl) (by kernel_rfl) (by kernel_rfl) (fun _ _ _ h => h) (Or.inl ⟨by rfl, ?_⟩) (by assumption) ?_
   rotate_left
   · intro w hSw
    (try dsimp only at hSw)
    (try simp only [List.getElem_toArray, List.getElem_cons_zero, List.getElem_cons_succ])
    go_simp
    (try with_reducible rfl)
   try simp only [Act.put, List.getElem_toArray, List.getElem_cons_zero, List.getElem_cons_succ, List.setIfInBounds_toArray, List.set_cons_zero, List.set_cons_succ]
   refine wpAnyH_ready (rs := [10]) (by kernel_rfl) (by simp) ?_; refine AllReadyH.cons (o := _) rfl (fun K_ hK_ => ?_) AllReadyH.nil; obtain ⟨c10, e12⟩ : ∃ x, (k12).setCell ⟨wt_8.heap.size, 7, none⟩ (.int .i64 h11) = x := ⟨_, rfl⟩; have r12 := t10.out.frozenAt 7; have r11 := Lib.hid (own_stores [(7, .int .i64 h11)] t10.out); have m10 : Hid (c10.ownsRow w.heap.size 27 9 (.slice (some ⟨wt_8.heap.size, 0, none⟩) 1 1) 1 [.int .i64 x_id, .int .i64 x_day, .int .i64 x_zone, .int .i64 x_grams, .int .i64 x_paid, .int .i64 (n11 : Int), .int .i64 x_to_, .int .i64 h11, .int .i64 x_arrive]) := Lib.hid (by rw [← e12]; exact r11.out.1); have d10 : Hid (k12.grownBy c10 (Value.slice (some ⟨wt_8.heap.size, 0, none⟩) 1 1).ownBlock) := Lib.hid (by rw [← e12]; exact r11.out.2); have b12 := Lib.hid (y11.out.grown d10.out y11.out.size (fun q hq => (t10.out.lt q hq).1)); clear r11; have s11 := cell_other r10 d10.out o10.out; have c12 := cell_other n10 d10.out o10.out; have t11 := cell_other i10 d10.out o10.out; have w11 := cell_other j10 d10.out o10.out; have d12 := cell_other p10 d10.out o10.out; have x11 := cell_other l10 d10.out o10.out; have g12 := cell_other q10 d10.out o10.out; have v11 := cell_other k10 d10.out o10.out; have i12 := cell_other s10 d10.out o10.out; clear t10 d10; have e13 : c10.cell? ⟨wt_8.heap.size, 0, none⟩ = some (.int .i64 x_id) := m10.out.cells rfl 0 _ rfl; have h13 : c10.cell? ⟨wt_8.heap.size, 1, none⟩ = some (.int .i64 x_day) := m10.out.cells rfl 1 _ rfl; have k13 : c10.cell? ⟨wt_8.heap.size, 2, none⟩ = some (.int .i64 x_zone) := m10.out.cells rfl 2 _ rfl; have c13 : c10.cell? ⟨wt_8.heap.size, 3, none⟩ = some (.int .i64 x_grams) := m10.out.cells rfl 3 _ rfl; have i13 : c10.cell? ⟨wt_8.heap.size, 4, none⟩ = some (.int .i64 x_paid) := m10.out.cells rfl 4 _ rfl; have l13 : c10.cell? ⟨wt_8.heap.size, 5, none⟩ = some (.int .i64 (n11 : Int)) := m10.out.cells rfl 5 _ rfl; have m13 : c10.cell? ⟨wt_8.heap.size, 6, none⟩ = some (.int .i64 x_to_) := m10.out.cells rfl 6 _ rfl; have g13 : c10.cell? ⟨wt_8.heap.size, 7, none⟩ = some (.int .i64 h11) := m10.out.cells rfl 7 _ rfl; have a13 : c10.cell? ⟨wt_8.heap.size, 8, none⟩ = some (.int .i64 x_arrive) := m10.out.cells rfl 8 _ rfl
   (try simp only [List.getElem_toArray, List.getElem_cons_zero, List.getElem_cons_succ])
   go_simp
   first | refine hK_.out _ _ ⟨s11, c12, t11, w11, d12, x11, g12, v11, i12, Lib.hid (Nat.zero_le _)⟩ (fun hHeld => ?_) | (go_wp2_with fail; refine hK_.out _ _ ⟨s11, c12, t11, w11, d12, x11, g12, v11, i12, Lib.hid (Nat.zero_le _)⟩ (fun hHeld => ?_))
   clear hK_ K_
   try simp only [Act.put, List.getElem_toArray, List.getElem_cons_zero, List.getElem_cons_succ, List.setIfInBounds_toArray, List.set_cons_zero, List.set_cons_succ]
   refine wpAnyH_done (by kernel_rfl) ?_ _
   try clear r12
   try clear r10
   try clear n10
   try clear i10
   try clear j10
   try clear p10
   try clear l10
   try clear q10
   try clear k10
   try clear s10
   try clear l11
   try clear o11
   try clear k11
   try clear f11
   try clear i11
   try clear e11
   try clear g11
   try clear j11
   try clear m11
   replace H := let_hid H; obtain ⟨t_31, j13, H⟩ := H
   cases t_31 with
   | false =>
    replace H := ite_f H; replace H := let_hid H; obtain ⟨t_38, d13, H⟩ := H; cases ret_hid H; go_wp2_with fail; go_ret2; exact ⟨rfl, b12.out⟩
   | true =>
    replace H := ite_t H; cases ret_hid H; go_wp2_with fail; go_ret2; exact ⟨rfl, b12.out⟩
end Go.Proofs.Ytgbcdmlcmnaimaa.GiSpareMinutes

namespace Go.Proofs.Ytgbcdmlcmnaimaa.GsLatestLeave
open Go.RowKit
open Go.Proofs.Ytgbcdmlcmnaimaa.Rowed Go.Proofs.Ytgbcdmlcmnaimaa.Turn Go.Proofs.Ytgbcdmlcmnaimaa.Aid Go.Proofs.Ytgbcdmlcmnaimaa.GoP Go.Proofs.Ytgbcdmlcmnaimaa.GoM

def l0 (list : (List PMail.Mail)) (from_1 : Int) (to_2 : Int) (by_3 : Int) (s : Int) (nx0 bk0 : Int → Option (Int × Bool)) : Option (Int × Bool) :=
 letK s fun i_10l0 =>
 letK (decide (0 ≤ i_10l0)) fun (t_24 : Bool) =>
 iteK t_24
 (Option.bind (idx list i_10l0) fun (yt_27 : PMail.Mail) =>
 unMail yt_27 fun (t_27_leave : Int) (t_27_from_ : Int) (t_27_to_ : Int) (t_27_arrive : Int) =>
 letK (t_27_from_ == from_1) fun (t_34 : Bool) =>
 joinK (fun (t_40 : Bool) =>
 joinK (fun (t_53 : Bool) =>
 iteK t_53
 (some (t_27_leave, true))
 (letK (IntKind.i64.wrap (i_10l0 - 1)) fun (t_59 : Int) =>
 appK nx0 (t_59))) fun jt_53 => iteK t_40 (Option.bind (GsL9Times.P list t_27_to_ t_27_arrive) fun (t_47 : (List Int)) =>
 Option.bind (idx t_47 to_2) fun (yt_49 : Int) =>
 letK (decide (yt_49 ≤ by_3)) fun (t_52 : Bool) =>
 appK jt_53 t_52) (appK jt_53 false)) fun jt_40 => iteK t_34 (letK (decide (t_27_arrive ≤ by_3)) fun (t_39 : Bool) =>
 appK jt_40 t_39) (appK jt_40 false))
 (appK bk0 (i_10l0))

def e0  (s : Int) : Option (Int × Bool) :=
 letK s fun i_10l0 =>
 some (0, false)

def P (fuel : Nat) (list : (List PMail.Mail)) (from_1 : Int) (to_2 : Int) (by_3 : Int) : Option (Int × Bool) :=
 Option.bind (GsL9Asked.P list from_1 by_3) fun (t_5 : Bool) =>
 letK (!t_5) fun (t_6 : Bool) =>
 joinK (fun (t_11 : Bool) =>
 joinK (fun (t_16 : Bool) =>
 iteK t_16
 (some (0, false))
 (letK (IntKind.i64.wrap ((list.length : Int) - 1)) fun (t_21 : Int) =>
 loopK (l0 list from_1 to_2 by_3) fuel (t_21) (e0 ))) fun jt_16 => iteK t_11 (appK jt_16 true) (letK (from_1 == to_2) fun (t_15 : Bool) =>
 appK jt_16 t_15)) fun jt_11 => iteK t_6 (appK jt_11 true) (Option.bind (GsL9Office.P to_2) fun (t_9 : Bool) =>
 letK (!t_9) fun (t_10 : Bool) =>
 appK jt_11 t_10)

set_option maxRecDepth 100000 in
set_option maxHeartbeats 2000000 in
theorem C (fuel : Nat) (list : (List PMail.Mail)) (from_1 : Int) (to_2 : Int) (by_3 : Int) (A0 : Option Addr) (c0 : Nat)  (w : World) (M0 : Hid (Cells w 4 A0 list.length (PMail.flat list))) (N0 : Hid (list.length ≤ 9223372036854775807))  {r0 : Int} {r1 : Bool} (H : Hid (P fuel list from_1 to_2 by_3 = some (r0, r1))) :
  Calls Try.prog 55 #[.slice A0 list.length c0, .int .i64 from_1, .int .i64 to_2, .int .i64 by_3] w (Gives (.tuple #[.int .i64 r0, .bool r1]) w) := by
 have HB := Lib.hid (Below.refl w.heap.size w); unfold P at H; have N0o := N0.out
 go_enter Try.func55, Try.ntmps55
 replace H := bind_hid H; obtain ⟨t_5, qt_5, H⟩ := H; go_wp2_with fail; go_at_call 99; refine (GsL9Asked.C (list) (from_1) (by_3) A0 c0 _   (Lib.hid (Cells.below M0.out HB.out)) N0 qt_5).mono ?_; rintro k12 wt_5 ⟨rfl, bt_5⟩; have a11 := Lib.hid (Below.step HB.out bt_5); clear bt_5
 cases t_5 with
 | false =>
  replace H := let_hid H; obtain ⟨t_6, ht_6, H⟩ := H; obtain rfl : t_6 = true := ht_6.symm; replace H := join_hid H; replace H := ite_t H; replace H := app_hid H; replace H := join_hid H; replace H := ite_t H; replace H := app_hid H; replace H := ite_t H; cases ret_hid H; go_wp2_with fail; go_ret2; exact ⟨rfl, a11.out⟩
 | true =>
  replace H := let_hid H; obtain ⟨t_6, ht_6, H⟩ := H; obtain rfl : t_6 = false := ht_6.symm; replace H := join_hid H; replace H := ite_f H; replace H := bind_hid H; obtain ⟨t_9, qt_9, H⟩ := H; go_wp2_with fail; go_at_call 74; refine (GsL9Office.C (to_2)  _    qt_9).mono ?_; rintro i12 wt_9 ⟨rfl, bt_9⟩; have s10 := Lib.hid (Below.step a11.out bt_9); clear bt_9
  cases t_9 with
  | false =>
   replace H := let_hid H; obtain ⟨t_10, q10, H⟩ := H; obtain rfl : t_10 = true := q10.symm; replace H := app_hid H; replace H := join_hid H; replace H := ite_t H; replace H := app_hid H; replace H := ite_t H; cases ret_hid H; go_wp2_with fail; go_ret2; exact ⟨rfl, s10.out⟩
  | true =>
   replace H := let_hid H; obtain ⟨t_10, q10, H⟩ := H; obtain rfl : t_10 = false := q10.symm; replace H := app_hid H; replace H := join_hid H; replace H := ite_f H; replace H := let_hid H; obtain ⟨t_15, s12, H⟩ := H; replace H := app_hid H
   cases t_15 with
   | false =>
    replace H := ite_f H; replace H := let_hid H; obtain ⟨t_21, w11, H⟩ := H
    try have s11 : (list.length : Int) - 1 = t_21 := by rw [← w11]; exact (IntWalk.i64_in _ (by omega)).symm
    try have h12 : IntKind.i64.wrap t_21 = t_21 := by rw [← s11]; exact IntWalk.i64_in _ (by omega)
    go_wp2_with fail; go_loopg [10] (fuel) (fun m_ v10_ wr => ∃ (o10 : Int), v10_ = .int .i64 o10 ∧ Hid (loopK (l0 list from_1 to_2 by_3) m_ (o10) (e0 ) = some (r0, r1)) ∧ Hid (Below w.heap.size w wr))
    case atStart => exact ⟨_, rfl, H, s10⟩
    case round =>
     obtain ⟨o10, rfl, H, c10⟩ := hrel; rename World => wr0
     cases gk with
     | zero => exact (loop_zero H).elim
     | succ m0 =>
      replace H := loop_succ H; unfold l0 at H; replace H := let_hid H; obtain ⟨_, rfl, H⟩ := H; replace H := let_hid H; obtain ⟨t_24, v11, H⟩ := H
      cases t_24 with
      | false =>
       replace H := ite_f H; replace H := app_hid H; unfold e0 at H; replace H := let_hid H; obtain ⟨_, rfl, H⟩ := H; cases ret_hid H; go_wp2_with fail; go_ret2; exact ⟨rfl, c10.out⟩
      | true =>
       replace H := ite_t H; replace H := idx_hid H; obtain ⟨k10, l11, p11, q11, y11, H⟩ := H; subst p11; have g12 : 0 ≤ k10 := (by have := of_decide_eq_true v11; omega); obtain ⟨g11, t10, n10, p10⟩ := l11; replace H := unMail_hid H; obtain ⟨o11, z11, z12, k11, c11, b10, g10, d10, f10⟩ := OMail.at_ M0.out q11; obtain rfl := Option.some.inj (y11.out.symm.trans c11); subst k11; have n12 := cell_lt b10; replace b10 := cell_below c10.out b10; replace g10 := cell_below c10.out g10; replace d10 := cell_below c10.out d10; replace f10 := cell_below c10.out f10; clear c11; have b13 : (0 : Int) ≤ (k10 : Int) := (by omega); have a13 : (k10 : Int) < ((list.length : Nat) : Int) := (by omega); have t12 : ((k10 : Int)).toNat = k10 := (by omega); obtain ⟨i10, h10⟩ : ∃ x, wr0.alloc (.cells #[.int .i64 g11, .int .i64 t10, .int .i64 n10, .int .i64 p10] 77) = x := ⟨_, rfl⟩; have e10 : Below wr0.heap.size wr0 i10 := (by rw [← h10]; exact (Below.refl _ _).alloc (Nat.le_refl _) _); have j10 := Lib.hid (Below.step c10.out e10); have e11 := cell_below e10 b10; have x10 := cell_below e10 g10; have f11 := cell_below e10 d10; have i11 := cell_below e10 f10; clear e10; have m10 : i10.cell? ⟨wr0.heap.size, 0, none⟩ = some (.int .i64 g11) := (by rw [← h10]; exact box_new _ _ _ 0 _ rfl); have y10 : i10.cell? ⟨wr0.heap.size, 1, none⟩ = some (.int .i64 t10) := (by rw [← h10]; exact box_new _ _ _ 1 _ rfl); have z10 : i10.cell? ⟨wr0.heap.size, 2, none⟩ = some (.int .i64 n10) := (by rw [← h10]; exact box_new _ _ _ 2 _ rfl); have b11 : i10.cell? ⟨wr0.heap.size, 3, none⟩ = some (.int .i64 p10) := (by rw [← h10]; exact box_new _ _ _ 3 _ rfl); replace H := let_hid H; obtain ⟨t_34, w12, H⟩ := H; replace H := join_hid H
       cases t_34 with
       | false =>
        replace H := ite_f H; replace H := app_hid H; replace H := join_hid H; replace H := ite_f H; replace H := app_hid H; replace H := ite_f H; replace H := let_hid H; obtain ⟨t_59, d11, H⟩ := H; replace H := app_hid H; go_wp2_with fail; clear b10 g10 d10 f10
        go_roundg m0
        case measure => omega
        case rel => exact ⟨_, rfl, H, j10⟩
       | true =>
        replace H := ite_t H; replace H := let_hid H; obtain ⟨t_39, b12, H⟩ := H; replace H := app_hid H; replace H := join_hid H
        cases t_39 with
        | false =>
         replace H := ite_f H; replace H := app_hid H; replace H := ite_f H; replace H := let_hid H; obtain ⟨t_59, d11, H⟩ := H; replace H := app_hid H; go_wp2_with fail; clear b10 g10 d10 f10
         go_roundg m0
         case measure => omega
         case rel => exact ⟨_, rfl, H, j10⟩
        | true =>
         replace H := ite_t H; replace H := bind_hid H; obtain ⟨t_47, m11, H⟩ := H; go_wp2_with fail; clear b10 g10 d10 f10; go_at_call 87; refine (GsL9Times.C (list) (n10) (p10) (some ⟨o11, z11, none⟩) c0 _   (Lib.hid (Cells.below M0.out j10.out)) N0 m11).mono ?_; rintro e12 o12 ⟨c12, r12, rfl, r10, a10⟩; have p12 := Lib.hid (apart_callbox r10 m10); have v10 := Lib.hid (own_lower r10 j10.out.size); clear r10; have w10 := Lib.hid (Below.step j10.out a10); replace e11 := cell_below a10 e11; replace x10 := cell_below a10 x10; replace f11 := cell_below a10 f11; replace i11 := cell_below a10 i11; replace m10 := cell_below a10 m10; replace y10 := cell_below a10 y10; replace z10 := cell_below a10 z10; replace b11 := cell_below a10 b11; clear a10; replace H := idx_hid H; obtain ⟨l10, x12, t11, j12, r11, H⟩ := H; subst t11; obtain ⟨q12, n11⟩ := own_some v10.out (by omega); subst n11; obtain ⟨f12, d12, y12, j11, h11, x11⟩ := HelpInt.Ints.at_ (own_cells v10.out) (k := l10) (by omega); obtain rfl := Option.some.inj (r11.out.symm.trans h11); simp only [Option.some.injEq, Addr.mk.injEq] at j11; obtain ⟨rfl, rfl, _⟩ := j11; clear h11; simp only [Nat.zero_add] at x11; have v12 : (0 : Int) ≤ (l10 : Int) := (by omega); have l12 : (l10 : Int) < ((t_47.length : Nat) : Int) := (by omega); have a12 : ((l10 : Int)).toNat = l10 := (by omega); replace H := let_hid H; obtain ⟨t_52, m12, H⟩ := H; replace H := app_hid H
         cases t_52 with
         | false =>
          replace H := ite_f H; replace H := let_hid H; obtain ⟨t_59, d11, H⟩ := H; replace H := app_hid H; go_wp2_with fail
          go_roundg m0
          case measure => omega
          case rel => exact ⟨_, rfl, H, w10⟩
         | true =>
          replace H := ite_t H; cases ret_hid H; go_wp2_with fail; go_ret2; exact ⟨rfl, w10.out⟩
   | true =>
    replace H := ite_t H; cases ret_hid H; go_wp2_with fail; go_ret2; exact ⟨rfl, s10.out⟩
end Go.Proofs.Ytgbcdmlcmnaimaa.GsLatestLeave

namespace Go.Proofs.Ytgbcdmlcmnaimaa.GsSpareMinutes
open Go.RowKit
open Go.Proofs.Ytgbcdmlcmnaimaa.Rowed Go.Proofs.Ytgbcdmlcmnaimaa.Turn Go.Proofs.Ytgbcdmlcmnaimaa.Aid Go.Proofs.Ytgbcdmlcmnaimaa.GoP Go.Proofs.Ytgbcdmlcmnaimaa.GoM

def P (fuel : Nat) (mails : (List PMail.Mail)) (x : PCover.Cover) : Option (Int × Bool) :=
 unCover x fun (x_id : Int) (x_day : Int) (x_zone : Int) (x_grams : Int) (x_paid : Int) (x_from_ : Int) (x_to_ : Int) (x_leave : Int) (x_arrive : Int) =>
 Option.bind (GsL9Good.P mails) fun (t_4 : Bool) =>
 letK (!t_4) fun (t_5 : Bool) =>
 joinK (fun (t_10 : Bool) =>
 iteK t_10
 (some (0, false))
 (bind2 (GsLatestLeave.P fuel mails x_from_ x_to_ x_arrive) fun (t_20a : Int) (t_20b : Bool) =>
 letK (!t_20b) fun (t_27 : Bool) =>
 joinK (fun (t_33 : Bool) =>
 iteK t_33
 (some (0, false))
 (letK (IntKind.i64.wrap (t_20a - x_leave)) fun (t_39 : Int) =>
 some (t_39, true))) fun jt_33 => iteK t_27 (appK jt_33 true) (letK (decide (t_20a < x_leave)) fun (t_32 : Bool) =>
 appK jt_33 t_32))) fun jt_10 => iteK t_5 (appK jt_10 true) (Option.bind (GsL10One.P (PCover.Cover.mk x_id x_day x_zone x_grams x_paid x_from_ x_to_ x_leave x_arrive)) fun (t_8 : Bool) =>
 letK (!t_8) fun (t_9 : Bool) =>
 appK jt_10 t_9)

set_option maxRecDepth 100000 in
set_option maxHeartbeats 2000000 in
theorem C (fuel : Nat) (mails : (List PMail.Mail)) (x : PCover.Cover) (A0 : Option Addr) (c0 : Nat)  (w : World) (M0 : Hid (Cells w 4 A0 mails.length (PMail.flat mails))) (N0 : Hid (mails.length ≤ 9223372036854775807))  {r0 : Int} {r1 : Bool} (H : Hid (P fuel mails x = some (r0, r1))) :
  Calls Try.prog 16 #[.slice A0 mails.length c0, x.val] w (Gives (.tuple #[.int .i64 r0, .bool r1]) w) := by
 have HB := Lib.hid (Below.refl w.heap.size w); unfold P at H; obtain ⟨x_id, x_day, x_zone, x_grams, x_paid, x_from_, x_to_, x_leave, x_arrive⟩ := x; replace H := unCover_hid H; unfold PCover.Cover.val; have N0o := N0.out
 go_enter Try.func16, Try.ntmps16
 obtain ⟨c10, b10⟩ : ∃ x, w.alloc (.cells #[.int .i64 x_id, .int .i64 x_day, .int .i64 x_zone, .int .i64 x_grams, .int .i64 x_paid, .int .i64 x_from_, .int .i64 x_to_, .int .i64 x_leave, .int .i64 x_arrive] 27) = x := ⟨_, rfl⟩; have r10 : Below w.heap.size w c10 := (by rw [← b10]; exact (Below.refl _ _).alloc (Nat.le_refl _) _); have p10 := Lib.hid (Below.step HB.out r10); clear r10; have d10 : c10.cell? ⟨w.heap.size, 0, none⟩ = some (.int .i64 x_id) := (by rw [← b10]; exact box_new _ _ _ 0 _ rfl); have k10 : c10.cell? ⟨w.heap.size, 1, none⟩ = some (.int .i64 x_day) := (by rw [← b10]; exact box_new _ _ _ 1 _ rfl); have j10 : c10.cell? ⟨w.heap.size, 2, none⟩ = some (.int .i64 x_zone) := (by rw [← b10]; exact box_new _ _ _ 2 _ rfl); have e10 : c10.cell? ⟨w.heap.size, 3, none⟩ = some (.int .i64 x_grams) := (by rw [← b10]; exact box_new _ _ _ 3 _ rfl); have h10 : c10.cell? ⟨w.heap.size, 4, none⟩ = some (.int .i64 x_paid) := (by rw [← b10]; exact box_new _ _ _ 4 _ rfl); have l10 : c10.cell? ⟨w.heap.size, 5, none⟩ = some (.int .i64 x_from_) := (by rw [← b10]; exact box_new _ _ _ 5 _ rfl); have g10 : c10.cell? ⟨w.heap.size, 6, none⟩ = some (.int .i64 x_to_) := (by rw [← b10]; exact box_new _ _ _ 6 _ rfl); have i10 : c10.cell? ⟨w.heap.size, 7, none⟩ = some (.int .i64 x_leave) := (by rw [← b10]; exact box_new _ _ _ 7 _ rfl); have f10 : c10.cell? ⟨w.heap.size, 8, none⟩ = some (.int .i64 x_arrive) := (by rw [← b10]; exact box_new _ _ _ 8 _ rfl); replace H := bind_hid H; obtain ⟨t_4, qt_4, H⟩ := H; go_wp2_with fail; go_at_call 40; refine (GsL9Good.C (mails) A0 c0 _   (Lib.hid (Cells.below M0.out p10.out)) N0 qt_4).mono ?_; rintro w10 wt_4 ⟨rfl, bt_4⟩; have q10 := Lib.hid (Below.step p10.out bt_4); replace d10 := cell_below bt_4 d10; replace k10 := cell_below bt_4 k10; replace j10 := cell_below bt_4 j10; replace e10 := cell_below bt_4 e10; replace h10 := cell_below bt_4 h10; replace l10 := cell_below bt_4 l10; replace g10 := cell_below bt_4 g10; replace i10 := cell_below bt_4 i10; replace f10 := cell_below bt_4 f10; clear bt_4
 cases t_4 with
 | false =>
  replace H := let_hid H; obtain ⟨t_5, ht_5, H⟩ := H; obtain rfl : t_5 = true := ht_5.symm; replace H := join_hid H; replace H := ite_t H; replace H := app_hid H; replace H := ite_t H; cases ret_hid H; go_wp2_with fail; go_ret2; exact ⟨rfl, q10.out⟩
 | true =>
  replace H := let_hid H; obtain ⟨t_5, ht_5, H⟩ := H; obtain rfl : t_5 = false := ht_5.symm; replace H := join_hid H; replace H := ite_f H; replace H := bind_hid H; obtain ⟨t_8, qt_8, H⟩ := H; go_wp2_with fail; go_at_call 41; refine (GsL10One.C ((PCover.Cover.mk x_id x_day x_zone x_grams x_paid x_from_ x_to_ x_leave x_arrive))  _    qt_8).mono ?_; rintro a11 wt_8 ⟨rfl, bt_8⟩; have m10 := Lib.hid (Below.step q10.out bt_8); replace d10 := cell_below bt_8 d10; replace k10 := cell_below bt_8 k10; replace j10 := cell_below bt_8 j10; replace e10 := cell_below bt_8 e10; replace h10 := cell_below bt_8 h10; replace l10 := cell_below bt_8 l10; replace g10 := cell_below bt_8 g10; replace i10 := cell_below bt_8 i10; replace f10 := cell_below bt_8 f10; clear bt_8
  cases t_8 with
  | false =>
   replace H := let_hid H; obtain ⟨t_9, ht_9, H⟩ := H; obtain rfl : t_9 = true := ht_9.symm; replace H := app_hid H; replace H := ite_t H; cases ret_hid H; go_wp2_with fail; go_ret2; exact ⟨rfl, m10.out⟩
  | true =>
   replace H := let_hid H; obtain ⟨t_9, ht_9, H⟩ := H; obtain rfl : t_9 = false := ht_9.symm; replace H := app_hid H; replace H := ite_f H; replace H := bind2_hid H; obtain ⟨z10, t10, s10, H⟩ := H; go_wp2_with fail; go_at_call 55; refine (GsLatestLeave.C fuel (mails) (x_from_) (x_to_) (x_arrive) A0 c0 _   (Lib.hid (Cells.below M0.out m10.out)) N0 s10).mono ?_; rintro b11 x10 ⟨rfl, a10⟩; have n10 := Lib.hid (Below.step m10.out a10); replace d10 := cell_below a10 d10; replace k10 := cell_below a10 k10; replace j10 := cell_below a10 j10; replace e10 := cell_below a10 e10; replace h10 := cell_below a10 h10; replace l10 := cell_below a10 l10; replace g10 := cell_below a10 g10; replace i10 := cell_below a10 i10; replace f10 := cell_below a10 f10; clear a10
   cases t10 with
   | false =>
    replace H := let_hid H; obtain ⟨t_27, o10, H⟩ := H; obtain rfl : t_27 = true := o10.symm; replace H := join_hid H; replace H := ite_t H; replace H := app_hid H; replace H := ite_t H; cases ret_hid H; go_wp2_with fail; go_ret2; exact ⟨rfl, n10.out⟩
   | true =>
    replace H := let_hid H; obtain ⟨t_27, o10, H⟩ := H; obtain rfl : t_27 = false := o10.symm; replace H := join_hid H; replace H := ite_f H; replace H := let_hid H; obtain ⟨t_32, y10, H⟩ := H; replace H := app_hid H
    cases t_32 with
    | false =>
     replace H := ite_f H; replace H := let_hid H; obtain ⟨t_39, v10, H⟩ := H; cases ret_hid H; go_wp2_with fail; go_ret2; exact ⟨rfl, n10.out⟩
    | true =>
     replace H := ite_t H; cases ret_hid H; go_wp2_with fail; go_ret2; exact ⟨rfl, n10.out⟩
end Go.Proofs.Ytgbcdmlcmnaimaa.GsSpareMinutes

namespace Go.Proofs.Ytgbcdmlcmnaimaa.GsIsCover
open Go.RowKit
open Go.Proofs.Ytgbcdmlcmnaimaa.Rowed Go.Proofs.Ytgbcdmlcmnaimaa.Turn Go.Proofs.Ytgbcdmlcmnaimaa.Aid Go.Proofs.Ytgbcdmlcmnaimaa.GoP Go.Proofs.Ytgbcdmlcmnaimaa.GoM

def P (x : PCover.Cover) : Option (Bool) :=
 unCover x fun (x_id : Int) (x_day : Int) (x_zone : Int) (x_grams : Int) (x_paid : Int) (x_from_ : Int) (x_to_ : Int) (x_leave : Int) (x_arrive : Int) =>
 Option.bind (GsL10One.P (PCover.Cover.mk x_id x_day x_zone x_grams x_paid x_from_ x_to_ x_leave x_arrive)) fun (t_3 : Bool) =>
 some t_3

set_option maxRecDepth 100000 in
set_option maxHeartbeats 2000000 in
theorem C (x : PCover.Cover)   (w : World)   {r : Bool} (H : Hid (P x = some r)) :
  Calls Try.prog 19 #[x.val] w (Gives (.bool r) w) := by
 have HB := Lib.hid (Below.refl w.heap.size w); unfold P at H; obtain ⟨x_id, x_day, x_zone, x_grams, x_paid, x_from_, x_to_, x_leave, x_arrive⟩ := x; replace H := unCover_hid H; unfold PCover.Cover.val
 go_enter Try.func19, Try.ntmps19
 obtain ⟨b10, a10⟩ : ∃ x, w.alloc (.cells #[.int .i64 x_id, .int .i64 x_day, .int .i64 x_zone, .int .i64 x_grams, .int .i64 x_paid, .int .i64 x_from_, .int .i64 x_to_, .int .i64 x_leave, .int .i64 x_arrive] 27) = x := ⟨_, rfl⟩; have g10 : Below w.heap.size w b10 := (by rw [← a10]; exact (Below.refl _ _).alloc (Nat.le_refl _) _); have n10 := Lib.hid (Below.step HB.out g10); clear g10; have k10 : b10.cell? ⟨w.heap.size, 0, none⟩ = some (.int .i64 x_id) := (by rw [← a10]; exact box_new _ _ _ 0 _ rfl); have e10 : b10.cell? ⟨w.heap.size, 1, none⟩ = some (.int .i64 x_day) := (by rw [← a10]; exact box_new _ _ _ 1 _ rfl); have l10 : b10.cell? ⟨w.heap.size, 2, none⟩ = some (.int .i64 x_zone) := (by rw [← a10]; exact box_new _ _ _ 2 _ rfl); have f10 : b10.cell? ⟨w.heap.size, 3, none⟩ = some (.int .i64 x_grams) := (by rw [← a10]; exact box_new _ _ _ 3 _ rfl); have i10 : b10.cell? ⟨w.heap.size, 4, none⟩ = some (.int .i64 x_paid) := (by rw [← a10]; exact box_new _ _ _ 4 _ rfl); have c10 : b10.cell? ⟨w.heap.size, 5, none⟩ = some (.int .i64 x_from_) := (by rw [← a10]; exact box_new _ _ _ 5 _ rfl); have j10 : b10.cell? ⟨w.heap.size, 6, none⟩ = some (.int .i64 x_to_) := (by rw [← a10]; exact box_new _ _ _ 6 _ rfl); have d10 : b10.cell? ⟨w.heap.size, 7, none⟩ = some (.int .i64 x_leave) := (by rw [← a10]; exact box_new _ _ _ 7 _ rfl); have h10 : b10.cell? ⟨w.heap.size, 8, none⟩ = some (.int .i64 x_arrive) := (by rw [← a10]; exact box_new _ _ _ 8 _ rfl); replace H := bind_hid H; obtain ⟨t_3, qt_3, H⟩ := H; go_wp2_with fail; go_at_call 41; refine (GsL10One.C ((PCover.Cover.mk x_id x_day x_zone x_grams x_paid x_from_ x_to_ x_leave x_arrive))  _    qt_3).mono ?_; rintro o10 wt_3 ⟨rfl, bt_3⟩; have m10 := Lib.hid (Below.step n10.out bt_3); replace k10 := cell_below bt_3 k10; replace e10 := cell_below bt_3 e10; replace l10 := cell_below bt_3 l10; replace f10 := cell_below bt_3 f10; replace i10 := cell_below bt_3 i10; replace c10 := cell_below bt_3 c10; replace j10 := cell_below bt_3 j10; replace d10 := cell_below bt_3 d10; replace h10 := cell_below bt_3 h10; clear bt_3; obtain rfl := ret_hid H; go_wp2_with fail; go_ret; exact ⟨rfl, m10.out⟩
end Go.Proofs.Ytgbcdmlcmnaimaa.GsIsCover

namespace Go.Proofs.Ytgbcdmlcmnaimaa.GiFaultText
open Go.RowKit
open Go.Proofs.Ytgbcdmlcmnaimaa.Rowed Go.Proofs.Ytgbcdmlcmnaimaa.Turn Go.Proofs.Ytgbcdmlcmnaimaa.Aid Go.Proofs.Ytgbcdmlcmnaimaa.GoP Go.Proofs.Ytgbcdmlcmnaimaa.GoM

def P (fault : Int) : Option (ByteArray × Bool) :=
 Option.bind (GiWithin.P fault 0 5) fun (t_3 : Bool) =>
 letK (!t_3) fun (t_4 : Bool) =>
 iteK t_4
 (some ((⟨#[]⟩ : ByteArray), false))
 (Option.bind (idx [(⟨#[116, 114, 117, 101]⟩ : ByteArray), (⟨#[122, 111, 110, 101]⟩ : ByteArray), (⟨#[115, 104, 111, 114, 116]⟩ : ByteArray), (⟨#[111, 118, 101, 114]⟩ : ByteArray), (⟨#[114, 111, 117, 116, 101]⟩ : ByteArray), (⟨#[101, 97, 114, 108, 121]⟩ : ByteArray)] fault) fun (yt_9 : ByteArray) =>
 some (yt_9, true))

set_option maxRecDepth 100000 in
set_option maxHeartbeats 2000000 in
theorem C (fault : Int)   (w : World)   {r0 : ByteArray} {r1 : Bool} (H : Hid (P fault = some (r0, r1))) :
  Calls Try.prog 21 #[.int .i64 fault] w (Gives (.tuple #[.string r0, .bool r1]) w) := by
 have HB := Lib.hid (Below.refl w.heap.size w); unfold P at H
 go_enter Try.func21, Try.ntmps21
 replace H := bind_hid H; obtain ⟨t_3, qt_3, H⟩ := H; go_wp2_with fail; go_at_call 52; refine (GiWithin.C (fault) (0) (5)  _    qt_3).mono ?_; rintro b10 wt_3 ⟨rfl, bt_3⟩; have a10 := Lib.hid (Below.step HB.out bt_3); clear bt_3
 cases t_3 with
 | false =>
  replace H := let_hid H; obtain ⟨t_4, ht_4, H⟩ := H; obtain rfl : t_4 = true := ht_4.symm; replace H := ite_t H; cases ret_hid H; go_wp2_with fail; go_ret2; exact ⟨rfl, a10.out⟩
 | true =>
  replace H := let_hid H; obtain ⟨t_4, ht_4, H⟩ := H; obtain rfl : t_4 = false := ht_4.symm; replace H := ite_f H; replace H := idx_hid H; obtain ⟨nt_9, yt_9, et_9, lt_9, gt_9, H⟩ := H; subst et_9
  have it_9 : ∀ w, (Instr.index 84 (.agg #[.string (⟨#[116, 114, 117, 101]⟩ : ByteArray), .string (⟨#[122, 111, 110, 101]⟩ : ByteArray), .string (⟨#[115, 104, 111, 114, 116]⟩ : ByteArray), .string (⟨#[111, 118, 101, 114]⟩ : ByteArray), .string (⟨#[114, 111, 117, 116, 101]⟩ : ByteArray), .string (⟨#[101, 97, 114, 108, 121]⟩ : ByteArray)]) (.int .i64 (nt_9 : Int))).run Try.prog w = .ok (.string yt_9) w := by
   intro w; have hl := lt_9; have hg := gt_9.out; clear gt_9 H
   rcases nt_9 with _ | _ | _ | _ | _ | _ | _
   · obtain rfl := Option.some.inj hg; rfl
   · obtain rfl := Option.some.inj hg; rfl
   · obtain rfl := Option.some.inj hg; rfl
   · obtain rfl := Option.some.inj hg; rfl
   · obtain rfl := Option.some.inj hg; rfl
   · obtain rfl := Option.some.inj hg; rfl
   · simp at hl; omega
  cases ret_hid H; go_wp2_with fail; go_ret2; exact ⟨rfl, a10.out⟩
end Go.Proofs.Ytgbcdmlcmnaimaa.GiFaultText

namespace Go.Proofs.Ytgbcdmlcmnaimaa.GsFaultText
open Go.RowKit
open Go.Proofs.Ytgbcdmlcmnaimaa.Rowed Go.Proofs.Ytgbcdmlcmnaimaa.Turn Go.Proofs.Ytgbcdmlcmnaimaa.Aid Go.Proofs.Ytgbcdmlcmnaimaa.GoP Go.Proofs.Ytgbcdmlcmnaimaa.GoM

def P (fault : Int) : Option (ByteArray × Bool) :=
 Option.bind (GsL1In.P fault 0 5) fun (t_3 : Bool) =>
 letK (!t_3) fun (t_4 : Bool) =>
 iteK t_4
 (some ((⟨#[]⟩ : ByteArray), false))
 (letK ([(⟨#[116, 114, 117, 101]⟩ : ByteArray), (⟨#[122, 111, 110, 101]⟩ : ByteArray), (⟨#[115, 104, 111, 114, 116]⟩ : ByteArray), (⟨#[111, 118, 101, 114]⟩ : ByteArray), (⟨#[114, 111, 117, 116, 101]⟩ : ByteArray), (⟨#[101, 97, 114, 108, 121]⟩ : ByteArray)]) fun (t_7 : (List ByteArray)) =>
 Option.bind (idx t_7 fault) fun (yt_9 : ByteArray) =>
 some (yt_9, true))

set_option maxRecDepth 100000 in
set_option maxHeartbeats 2000000 in
theorem C (fault : Int)   (w : World)   {r0 : ByteArray} {r1 : Bool} (H : Hid (P fault = some (r0, r1))) :
  Calls Try.prog 22 #[.int .i64 fault] w (Gives (.tuple #[.string r0, .bool r1]) w) := by
 have HB := Lib.hid (Below.refl w.heap.size w); unfold P at H
 go_enter Try.func22, Try.ntmps22
 replace H := bind_hid H; obtain ⟨t_3, qt_3, H⟩ := H; go_wp2_with fail; go_at_call 64; refine (GsL1In.C (fault) (0) (5)  _    qt_3).mono ?_; rintro p10 wt_3 ⟨rfl, bt_3⟩; have a10 := Lib.hid (Below.step HB.out bt_3); clear bt_3
 cases t_3 with
 | false =>
  replace H := let_hid H; obtain ⟨t_4, ht_4, H⟩ := H; obtain rfl : t_4 = true := ht_4.symm; replace H := ite_t H; cases ret_hid H; go_wp2_with fail; go_ret2; exact ⟨rfl, a10.out⟩
 | true =>
  replace H := let_hid H; obtain ⟨t_4, ht_4, H⟩ := H; obtain rfl : t_4 = false := ht_4.symm; replace H := ite_f H; replace H := let_hid H; obtain ⟨t_7, ht_7, H⟩ := H; obtain ⟨e10, b10⟩ : ∃ x, wt_3.alloc (.cells #[.string (⟨#[116, 114, 117, 101]⟩ : ByteArray), .string (⟨#[122, 111, 110, 101]⟩ : ByteArray), .string (⟨#[115, 104, 111, 114, 116]⟩ : ByteArray), .string (⟨#[111, 118, 101, 114]⟩ : ByteArray), .string (⟨#[114, 111, 117, 116, 101]⟩ : ByteArray), .string (⟨#[101, 97, 114, 108, 121]⟩ : ByteArray)] 9) = x := ⟨_, rfl⟩; have f10 : Below wt_3.heap.size wt_3 e10 := (by rw [← b10]; exact (Below.refl _ _).alloc (Nat.le_refl _) _); have d10 := a10.out.size; have nt_7 : t_7.length = 6 := (by rw [← ht_7]; rfl)
  have Ot_7 : Hid (e10.ownsRow w.heap.size 9 1 (.slice (some ⟨wt_3.heap.size, 0, none⟩) 6 6) 6 (t_7.map Value.string)) := by
   rw [← b10, ← ht_7]; have e_ : ([.string (⟨#[116, 114, 117, 101]⟩ : ByteArray), .string (⟨#[122, 111, 110, 101]⟩ : ByteArray), .string (⟨#[115, 104, 111, 114, 116]⟩ : ByteArray), .string (⟨#[111, 118, 101, 114]⟩ : ByteArray), .string (⟨#[114, 111, 117, 116, 101]⟩ : ByteArray), .string (⟨#[101, 97, 114, 108, 121]⟩ : ByteArray)] : List Value) = (([(⟨#[116, 114, 117, 101]⟩ : ByteArray), (⟨#[122, 111, 110, 101]⟩ : ByteArray), (⟨#[115, 104, 111, 114, 116]⟩ : ByteArray), (⟨#[111, 118, 101, 114]⟩ : ByteArray), (⟨#[114, 111, 117, 116, 101]⟩ : ByteArray), (⟨#[101, 97, 114, 108, 121]⟩ : ByteArray)] : List ByteArray).map Value.string) := rfl; exact Lib.hid (own_laid (n := 6) d10 e_ rfl (by unfold maxLen; omega))
  clear d10; have j10 := Lib.hid ht_7; clear ht_7; replace nt_7 := Lib.hid nt_7; have h10 := Lib.hid (Below.step a10.out f10); clear f10; replace H := idx_hid H; obtain ⟨nt_9, yt_9, et_9, lt_9, gt_9, H⟩ := H; subst et_9; have g10 := nt_7.out; obtain ⟨n10, o10, zt_9, At_9, c10, i10⟩ := strs_at (own_cells Ot_7.out) (k := nt_9) (by omega); obtain rfl := Option.some.inj (gt_9.out.symm.trans c10); simp only [Option.some.injEq, Addr.mk.injEq] at At_9; obtain ⟨rfl, rfl, _⟩ := At_9; clear c10; simp only [Nat.zero_add] at i10; have m10 : (0 : Int) ≤ (nt_9 : Int) := (by omega); have k10 : (nt_9 : Int) < ((6 : Nat) : Int) := (by omega); have l10 : ((nt_9 : Int)).toNat = nt_9 := (by omega); clear g10; cases ret_hid H; go_wp2_with fail; go_ret2; exact ⟨rfl, h10.out⟩
end Go.Proofs.Ytgbcdmlcmnaimaa.GsFaultText

