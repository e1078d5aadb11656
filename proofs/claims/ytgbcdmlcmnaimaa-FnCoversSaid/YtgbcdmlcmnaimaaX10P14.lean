/- Texts on which the proofs of several laws stand, one behind the other (14 of 18). No condition of their own. -/
import Derived.Test.YtgbcdmlcmnaimaaChecked
import Derived.Test.YtgbcdmlcmnaimaaX10P1
import Derived.Test.YtgbcdmlcmnaimaaX10P7
import Derived.Test.YtgbcdmlcmnaimaaX10P8
import Derived.WalkKit
import Derived.WalkSpells
import Derived.WalkLawsBesides
import Derived.BigQuiet
import Derived.OwnWalk
import Derived.Deep.LoopGhost
import Derived.Deep.QuietTactic
import Derived.IntWalk
import Derived.Lib.QuietBelow
import Derived.Test.YtgbcdmlcmnaimaaX10P9
import Derived.Test.YtgbcdmlcmnaimaaX10P10
import Derived.Test.YtgbcdmlcmnaimaaX10P4
set_option linter.unusedVariables false
set_option linter.unusedSimpArgs false
namespace Go.Proofs.Ytgbcdmlcmnaimaa.GiDueOn
open Go.RowKit
open Go.Proofs.Ytgbcdmlcmnaimaa.Rowed Go.Proofs.Ytgbcdmlcmnaimaa.Turn Go.Proofs.Ytgbcdmlcmnaimaa.Aid Go.Proofs.Ytgbcdmlcmnaimaa.GoP Go.Proofs.Ytgbcdmlcmnaimaa.GoM

def P (rates : (List PRate.Rate)) (x : PCover.Cover) : Option (Int × Bool) :=
 unCover x fun (x_id : Int) (x_day : Int) (x_zone : Int) (x_grams : Int) (x_paid : Int) (x_from_ : Int) (x_to_ : Int) (x_leave : Int) (x_arrive : Int) =>
 Option.bind (GiAreRates.P rates) fun (t_4 : Bool) =>
 letK (!t_4) fun (t_5 : Bool) =>
 joinK (fun (t_10 : Bool) =>
 iteK t_10
 (some (0, false))
 (Option.bind (GiRateOfCover.P rates (PCover.Cover.mk x_id x_day x_zone x_grams x_paid x_from_ x_to_ x_leave x_arrive)) fun (t_15 : Int) =>
 letK (t_15 == 0) fun (t_18 : Bool) =>
 iteK t_18
 (some (0, false))
 (letK (IntKind.i64.wrap (t_15 - x_paid)) fun (t_24 : Int) =>
 letK (max t_24 0) fun (t_25 : Int) =>
 letK (IntKind.i64.wrap (2 * t_25)) fun (t_26 : Int) =>
 some (t_26, true)))) fun jt_10 => iteK t_5 (appK jt_10 true) (Option.bind (GiIsCover.P (PCover.Cover.mk x_id x_day x_zone x_grams x_paid x_from_ x_to_ x_leave x_arrive)) fun (t_8 : Bool) =>
 letK (!t_8) fun (t_9 : Bool) =>
 appK jt_10 t_9)

set_option maxRecDepth 100000 in
set_option maxHeartbeats 2000000 in
theorem C (rates : (List PRate.Rate)) (x : PCover.Cover) (A0 : Option Addr) (c0 : Nat)  (w : World) (M0 : Hid (Cells w 5 A0 rates.length (PRate.flat rates))) (N0 : Hid (rates.length ≤ 9223372036854775807))  {r0 : Int} {r1 : Bool} (H : Hid (P rates x = some (r0, r1))) :
  Calls Try.prog 9 #[.slice A0 rates.length c0, x.val] w (Gives (.tuple #[.int .i64 r0, .bool r1]) w) := by
 have HB := Lib.hid (Below.refl w.heap.size w); unfold P at H; obtain ⟨x_id, x_day, x_zone, x_grams, x_paid, x_from_, x_to_, x_leave, x_arrive⟩ := x; replace H := unCover_hid H; unfold PCover.Cover.val; have N0o := N0.out
 go_enter Try.func9, Try.ntmps9
 obtain ⟨b10, c10⟩ : ∃ x, w.alloc (.cells #[.int .i64 x_id, .int .i64 x_day, .int .i64 x_zone, .int .i64 x_grams, .int .i64 x_paid, .int .i64 x_from_, .int .i64 x_to_, .int .i64 x_leave, .int .i64 x_arrive] 27) = x := ⟨_, rfl⟩; have p10 : Below w.heap.size w b10 := (by rw [← c10]; exact (Below.refl _ _).alloc (Nat.le_refl _) _); have o10 := Lib.hid (Below.step HB.out p10); clear p10; have j10 : b10.cell? ⟨w.heap.size, 0, none⟩ = some (.int .i64 x_id) := (by rw [← c10]; exact box_new _ _ _ 0 _ rfl); have i10 : b10.cell? ⟨w.heap.size, 1, none⟩ = some (.int .i64 x_day) := (by rw [← c10]; exact box_new _ _ _ 1 _ rfl); have g10 : b10.cell? ⟨w.heap.size, 2, none⟩ = some (.int .i64 x_zone) := (by rw [← c10]; exact box_new _ _ _ 2 _ rfl); have f10 : b10.cell? ⟨w.heap.size, 3, none⟩ = some (.int .i64 x_grams) := (by rw [← c10]; exact box_new _ _ _ 3 _ rfl); have e10 : b10.cell? ⟨w.heap.size, 4, none⟩ = some (.int .i64 x_paid) := (by rw [← c10]; exact box_new _ _ _ 4 _ rfl); have h10 : b10.cell? ⟨w.heap.size, 5, none⟩ = some (.int .i64 x_from_) := (by rw [← c10]; exact box_new _ _ _ 5 _ rfl); have d10 : b10.cell? ⟨w.heap.size, 6, none⟩ = some (.int .i64 x_to_) := (by rw [← c10]; exact box_new _ _ _ 6 _ rfl); have l10 : b10.cell? ⟨w.heap.size, 7, none⟩ = some (.int .i64 x_leave) := (by rw [← c10]; exact box_new _ _ _ 7 _ rfl); have k10 : b10.cell? ⟨w.heap.size, 8, none⟩ = some (.int .i64 x_arrive) := (by rw [← c10]; exact box_new _ _ _ 8 _ rfl); replace H := bind_hid H; obtain ⟨t_4, qt_4, H⟩ := H; go_wp2_with fail; go_at_call 43; refine (GiAreRates.C (rates) A0 c0 _   (Lib.hid (Cells.below M0.out o10.out)) N0 qt_4).mono ?_; rintro x10 wt_4 ⟨rfl, bt_4⟩; have n10 := Lib.hid (Below.step o10.out bt_4); replace j10 := cell_below bt_4 j10; replace i10 := cell_below bt_4 i10; replace g10 := cell_below bt_4 g10; replace f10 := cell_below bt_4 f10; replace e10 := cell_below bt_4 e10; replace h10 := cell_below bt_4 h10; replace d10 := cell_below bt_4 d10; replace l10 := cell_below bt_4 l10; replace k10 := cell_below bt_4 k10; clear bt_4
 cases t_4 with
 | false =>
  replace H := let_hid H; obtain ⟨t_5, ht_5, H⟩ := H; obtain rfl : t_5 = true := ht_5.symm; replace H := join_hid H; replace H := ite_t H; replace H := app_hid H; replace H := ite_t H; cases ret_hid H; go_wp2_with fail; go_ret2; exact ⟨rfl, n10.out⟩
 | true =>
  replace H := let_hid H; obtain ⟨t_5, ht_5, H⟩ := H; obtain rfl : t_5 = false := ht_5.symm; replace H := join_hid H; replace H := ite_f H; replace H := bind_hid H; obtain ⟨t_8, qt_8, H⟩ := H; go_wp2_with fail; go_at_call 18; refine (GiIsCover.C ((PCover.Cover.mk x_id x_day x_zone x_grams x_paid x_from_ x_to_ x_leave x_arrive))  _    qt_8).mono ?_; rintro z10 wt_8 ⟨rfl, bt_8⟩; have m10 := Lib.hid (Below.step n10.out bt_8); replace j10 := cell_below bt_8 j10; replace i10 := cell_below bt_8 i10; replace g10 := cell_below bt_8 g10; replace f10 := cell_below bt_8 f10; replace e10 := cell_below bt_8 e10; replace h10 := cell_below bt_8 h10; replace d10 := cell_below bt_8 d10; replace l10 := cell_below bt_8 l10; replace k10 := cell_below bt_8 k10; clear bt_8
  cases t_8 with
  | false =>
   replace H := let_hid H; obtain ⟨t_9, ht_9, H⟩ := H; obtain rfl : t_9 = true := ht_9.symm; replace H := app_hid H; replace H := ite_t H; cases ret_hid H; go_wp2_with fail; go_ret2; exact ⟨rfl, m10.out⟩
  | true =>
   replace H := let_hid H; obtain ⟨t_9, ht_9, H⟩ := H; obtain rfl : t_9 = false := ht_9.symm; replace H := app_hid H; replace H := ite_f H; replace H := bind_hid H; obtain ⟨t_15, r10, H⟩ := H; go_wp2_with fail; go_at_call 44; refine (GiRateOfCover.C (rates) ((PCover.Cover.mk x_id x_day x_zone x_grams x_paid x_from_ x_to_ x_leave x_arrive)) A0 c0 _   (Lib.hid (Cells.below M0.out m10.out)) N0 r10).mono ?_; rintro v10 y10 ⟨rfl, a10⟩; have q10 := Lib.hid (Below.step m10.out a10); replace j10 := cell_below a10 j10; replace i10 := cell_below a10 i10; replace g10 := cell_below a10 g10; replace f10 := cell_below a10 f10; replace e10 := cell_below a10 e10; replace h10 := cell_below a10 h10; replace d10 := cell_below a10 d10; replace l10 := cell_below a10 l10; replace k10 := cell_below a10 k10; clear a10; replace H := let_hid H; obtain ⟨t_18, w10, H⟩ := H
   cases t_18 with
   | false =>
    replace H := ite_f H; replace H := let_hid H; obtain ⟨t_24, t10, H⟩ := H; replace H := let_hid H; obtain ⟨t_25, s10, H⟩ := H; replace H := let_hid H; obtain ⟨t_26, a11, H⟩ := H; cases ret_hid H; go_wp2_with fail; go_ret2; exact ⟨rfl, q10.out⟩
   | true =>
    replace H := ite_t H; cases ret_hid H; go_wp2_with fail; go_ret2; exact ⟨rfl, q10.out⟩
end Go.Proofs.Ytgbcdmlcmnaimaa.GiDueOn

namespace Go.Proofs.Ytgbcdmlcmnaimaa.GsL1Most
open Go.RowKit
open Go.Proofs.Ytgbcdmlcmnaimaa.Rowed Go.Proofs.Ytgbcdmlcmnaimaa.Turn Go.Proofs.Ytgbcdmlcmnaimaa.Aid Go.Proofs.Ytgbcdmlcmnaimaa.GoP Go.Proofs.Ytgbcdmlcmnaimaa.GoM

def P (a : Int) (b : Int) : Option (Int) :=
  letK (decide (b < a)) fun (t_3 : Bool) =>
  iteK t_3
  (some a)
  (some b)

set_option maxRecDepth 100000 in
set_option maxHeartbeats 2000000 in
theorem C (a : Int) (b : Int)   (w : World)   {r : Int} (H : Hid (P a b = some r)) :
    Calls Try.prog 46 #[.int .i64 a, .int .i64 b] w (Gives (.int .i64 r) w) := by
  have HB := Lib.hid (Below.refl w.heap.size w)
  unfold P at H
  go_enter Try.func46, Try.ntmps46
  replace H := let_hid H
  obtain ⟨t_3, ht_3, H⟩ := H
  cases t_3 with
  | false =>
    replace H := ite_f H
    obtain rfl := ret_hid H
    go_wp2_with fail
    go_ret
    exact ⟨rfl, HB.out⟩
  | true =>
    replace H := ite_t H
    obtain rfl := ret_hid H
    go_wp2_with fail
    go_ret
    exact ⟨rfl, HB.out⟩

set_option maxRecDepth 100000 in
set_option maxHeartbeats 2000000 in
theorem C0 (a : Int) (b : Int)   (w : World)   {r : Int} (H : Hid (P a b = some r)) :
    Calls Try.prog 46 #[.int .i64 a, .int .i64 b] w (fun e w'' => e = .returned (.int .i64 r) ∧ w'' = w) := by
  have HB := Lib.hid (Below.refl w.heap.size w)
  unfold P at H
  go_enter Try.func46, Try.ntmps46
  replace H := let_hid H
  obtain ⟨t_3, ht_3, H⟩ := H
  cases t_3 with
  | false =>
    replace H := ite_f H
    obtain rfl := ret_hid H
    go_wp2_with fail
    go_ret
    exact ⟨rfl, rfl⟩
  | true =>
    replace H := ite_t H
    obtain rfl := ret_hid H
    go_wp2_with fail
    go_ret
    exact ⟨rfl, rfl⟩
end Go.Proofs.Ytgbcdmlcmnaimaa.GsL1Most

namespace Go.Proofs.Ytgbcdmlcmnaimaa.GsDueOn
open Go.RowKit
open Go.Proofs.Ytgbcdmlcmnaimaa.Rowed Go.Proofs.Ytgbcdmlcmnaimaa.Turn Go.Proofs.Ytgbcdmlcmnaimaa.Aid Go.Proofs.Ytgbcdmlcmnaimaa.GoP Go.Proofs.Ytgbcdmlcmnaimaa.GoM

def P (fuel : Nat) (rates : (List PRate.Rate)) (x : PCover.Cover) : Option (Int × Bool) :=
 unCover x fun (x_id : Int) (x_day : Int) (x_zone : Int) (x_grams : Int) (x_paid : Int) (x_from_ : Int) (x_to_ : Int) (x_leave : Int) (x_arrive : Int) =>
 Option.bind (GsL8Good.P fuel rates) fun (t_4 : Bool) =>
 letK (!t_4) fun (t_5 : Bool) =>
 joinK (fun (t_10 : Bool) =>
 iteK t_10
 (some (0, false))
 (Option.bind (GsL8For.P rates x_day x_zone x_grams) fun (t_20 : Int) =>
 letK (t_20 == 0) fun (t_23 : Bool) =>
 iteK t_23
 (some (0, false))
 (letK (IntKind.i64.wrap (t_20 - x_paid)) fun (t_29 : Int) =>
 Option.bind (GsL1Most.P 0 t_29) fun (t_30 : Int) =>
 letK (IntKind.i64.wrap (2 * t_30)) fun (t_31 : Int) =>
 some (t_31, true)))) fun jt_10 => iteK t_5 (appK jt_10 true) (Option.bind (GsL10One.P (PCover.Cover.mk x_id x_day x_zone x_grams x_paid x_from_ x_to_ x_leave x_arrive)) fun (t_8 : Bool) =>
 letK (!t_8) fun (t_9 : Bool) =>
 appK jt_10 t_9)

set_option maxRecDepth 100000 in
set_option maxHeartbeats 2000000 in
theorem C (fuel : Nat) (rates : (List PRate.Rate)) (x : PCover.Cover) (A0 : Option Addr) (c0 : Nat)  (w : World) (M0 : Hid (Cells w 5 A0 rates.length (PRate.flat rates))) (N0 : Hid (rates.length ≤ 9223372036854775807))  {r0 : Int} {r1 : Bool} (H : Hid (P fuel rates x = some (r0, r1))) :
  Calls Try.prog 10 #[.slice A0 rates.length c0, x.val] w (Gives (.tuple #[.int .i64 r0, .bool r1]) w) := by
 have HB := Lib.hid (Below.refl w.heap.size w); unfold P at H; obtain ⟨x_id, x_day, x_zone, x_grams, x_paid, x_from_, x_to_, x_leave, x_arrive⟩ := x; replace H := unCover_hid H; unfold PCover.Cover.val; have N0o := N0.out
 go_enter Try.func10, Try.ntmps10
 obtain ⟨d10, c10⟩ : ∃ x, w.alloc (.cells #[.int .i64 x_id, .int .i64 x_day, .int .i64 x_zone, .int .i64 x_grams, .int .i64 x_paid, .int .i64 x_from_, .int .i64 x_to_, .int .i64 x_leave, .int .i64 x_arrive] 27) = x := ⟨_, rfl⟩; have p10 : Below w.heap.size w d10 := (by rw [← c10]; exact (Below.refl _ _).alloc (Nat.le_refl _) _); have o10 := Lib.hid (Below.step HB.out p10); clear p10; have k10 : d10.cell? ⟨w.heap.size, 0, none⟩ = some (.int .i64 x_id) := (by rw [← c10]; exact box_new _ _ _ 0 _ rfl); have e10 : d10.cell? ⟨w.heap.size, 1, none⟩ = some (.int .i64 x_day) := (by rw [← c10]; exact box_new _ _ _ 1 _ rfl); have f10 : d10.cell? ⟨w.heap.size, 2, none⟩ = some (.int .i64 x_zone) := (by rw [← c10]; exact box_new _ _ _ 2 _ rfl); have g10 : d10.cell? ⟨w.heap.size, 3, none⟩ = some (.int .i64 x_grams) := (by rw [← c10]; exact box_new _ _ _ 3 _ rfl); have j10 : d10.cell? ⟨w.heap.size, 4, none⟩ = some (.int .i64 x_paid) := (by rw [← c10]; exact box_new _ _ _ 4 _ rfl); have i10 : d10.cell? ⟨w.heap.size, 5, none⟩ = some (.int .i64 x_from_) := (by rw [← c10]; exact box_new _ _ _ 5 _ rfl); have h10 : d10.cell? ⟨w.heap.size, 6, none⟩ = some (.int .i64 x_to_) := (by rw [← c10]; exact box_new _ _ _ 6 _ rfl); have m10 : d10.cell? ⟨w.heap.size, 7, none⟩ = some (.int .i64 x_leave) := (by rw [← c10]; exact box_new _ _ _ 7 _ rfl); have l10 : d10.cell? ⟨w.heap.size, 8, none⟩ = some (.int .i64 x_arrive) := (by rw [← c10]; exact box_new _ _ _ 8 _ rfl); replace H := bind_hid H; obtain ⟨t_4, qt_4, H⟩ := H; go_wp2_with fail; go_at_call 39; refine (GsL8Good.C fuel (rates) A0 c0 _   (Lib.hid (Cells.below M0.out o10.out)) N0 qt_4).mono ?_; rintro e11 wt_4 ⟨rfl, bt_4⟩; have q10 := Lib.hid (Below.step o10.out bt_4); replace k10 := cell_below bt_4 k10; replace e10 := cell_below bt_4 e10; replace f10 := cell_below bt_4 f10; replace g10 := cell_below bt_4 g10; replace j10 := cell_below bt_4 j10; replace i10 := cell_below bt_4 i10; replace h10 := cell_below bt_4 h10; replace m10 := cell_below bt_4 m10; replace l10 := cell_below bt_4 l10; clear bt_4
 cases t_4 with
 | false =>
  replace H := let_hid H; obtain ⟨t_5, ht_5, H⟩ := H; obtain rfl : t_5 = true := ht_5.symm; replace H := join_hid H; replace H := ite_t H; replace H := app_hid H; replace H := ite_t H; cases ret_hid H; go_wp2_with fail; go_ret2; exact ⟨rfl, q10.out⟩
 | true =>
  replace H := let_hid H; obtain ⟨t_5, ht_5, H⟩ := H; obtain rfl : t_5 = false := ht_5.symm; replace H := join_hid H; replace H := ite_f H; replace H := bind_hid H; obtain ⟨t_8, qt_8, H⟩ := H; go_wp2_with fail; go_at_call 41; refine (GsL10One.C ((PCover.Cover.mk x_id x_day x_zone x_grams x_paid x_from_ x_to_ x_leave x_arrive))  _    qt_8).mono ?_; rintro y10 wt_8 ⟨rfl, bt_8⟩; have n10 := Lib.hid (Below.step q10.out bt_8); replace k10 := cell_below bt_8 k10; replace e10 := cell_below bt_8 e10; replace f10 := cell_below bt_8 f10; replace g10 := cell_below bt_8 g10; replace j10 := cell_below bt_8 j10; replace i10 := cell_below bt_8 i10; replace h10 := cell_below bt_8 h10; replace m10 := cell_below bt_8 m10; replace l10 := cell_below bt_8 l10; clear bt_8
  cases t_8 with
  | false =>
   replace H := let_hid H; obtain ⟨t_9, ht_9, H⟩ := H; obtain rfl : t_9 = true := ht_9.symm; replace H := app_hid H; replace H := ite_t H; cases ret_hid H; go_wp2_with fail; go_ret2; exact ⟨rfl, n10.out⟩
  | true =>
   replace H := let_hid H; obtain ⟨t_9, ht_9, H⟩ := H; obtain rfl : t_9 = false := ht_9.symm; replace H := app_hid H; replace H := ite_f H; replace H := bind_hid H; obtain ⟨t_20, v10, H⟩ := H; go_wp2_with fail; go_at_call 45; refine (GsL8For.C (rates) (x_day) (x_zone) (x_grams) A0 c0 _   (Lib.hid (Cells.below M0.out n10.out)) N0 v10).mono ?_; rintro x10 w10 ⟨rfl, b10⟩; have r10 := Lib.hid (Below.step n10.out b10); replace k10 := cell_below b10 k10; replace e10 := cell_below b10 e10; replace f10 := cell_below b10 f10; replace g10 := cell_below b10 g10; replace j10 := cell_below b10 j10; replace i10 := cell_below b10 i10; replace h10 := cell_below b10 h10; replace m10 := cell_below b10 m10; replace l10 := cell_below b10 l10; clear b10; replace H := let_hid H; obtain ⟨t_23, d11, H⟩ := H
   cases t_23 with
   | false =>
    replace H := ite_f H; replace H := let_hid H; obtain ⟨t_29, c11, H⟩ := H; replace H := bind_hid H; obtain ⟨t_30, t10, H⟩ := H; go_wp2_with fail; go_at_call 46; refine (GsL1Most.C (0) (t_29)  _    t10).mono ?_; rintro a11 b11 ⟨rfl, a10⟩; have s10 := Lib.hid (Below.step r10.out a10); replace k10 := cell_below a10 k10; replace e10 := cell_below a10 e10; replace f10 := cell_below a10 f10; replace g10 := cell_below a10 g10; replace j10 := cell_below a10 j10; replace i10 := cell_below a10 i10; replace h10 := cell_below a10 h10; replace m10 := cell_below a10 m10; replace l10 := cell_below a10 l10; clear a10; replace H := let_hid H; obtain ⟨t_31, z10, H⟩ := H; cases ret_hid H; go_wp2_with fail; go_ret2; exact ⟨rfl, s10.out⟩
   | true =>
    replace H := ite_t H; cases ret_hid H; go_wp2_with fail; go_ret2; exact ⟨rfl, r10.out⟩
end Go.Proofs.Ytgbcdmlcmnaimaa.GsDueOn

namespace Go.Proofs.Ytgbcdmlcmnaimaa.GiSpareMinutes
open Go.RowKit
open Go.Proofs.Ytgbcdmlcmnaimaa.Rowed Go.Proofs.Ytgbcdmlcmnaimaa.Turn Go.Proofs.Ytgbcdmlcmnaimaa.Aid Go.Proofs.Ytgbcdmlcmnaimaa.GoP Go.Proofs.Ytgbcdmlcmnaimaa.GoM

def P (fuel : Nat) (mails : (List PMail.Mail)) (x : PCover.Cover) : Option (Int × Bool) :=
 unCover x fun (x_id : Int) (x_day : Int) (x_zone : Int) (x_grams : Int) (x_paid : Int) (x_from_ : Int) (x_to_ : Int) (x_leave : Int) (x_arrive : Int) =>
 Option.bind (GiIsTimetable.P mails) fun (t_4 : Bool) =>
 letK (!t_4) fun (t_5 : Bool) =>
 joinK (fun (t_10 : Bool) =>
 iteK t_10
 (some (0, false))
 (Option.bind (GiLatestMinutes.P fuel mails x_to_ x_arrive) fun (t_21 : PIntA10.IntA10) =>
 unIntA10 t_21 fun (t_21_x0 : Int) (t_21_x1 : Int) (t_21_x2 : Int) (t_21_x3 : Int) (t_21_x4 : Int) (t_21_x5 : Int) (t_21_x6 : Int) (t_21_x7 : Int) (t_21_x8 : Int) (t_21_x9 : Int) =>
 Option.bind (idx [t_21_x0, t_21_x1, t_21_x2, t_21_x3, t_21_x4, t_21_x5, t_21_x6, t_21_x7, t_21_x8, t_21_x9] x_from_) fun (yt_24 : Int) =>
 letK (decide (yt_24 < x_leave)) fun (t_31 : Bool) =>
 iteK t_31
 (some (0, false))
 (letK (IntKind.i64.wrap (yt_24 - x_leave)) fun (t_38 : Int) =>
 some (t_38, true)))) fun jt_10 => iteK t_5 (appK jt_10 true) (Option.bind (GiIsCover.P (PCover.Cover.mk x_id x_day x_zone x_grams x_paid x_from_ x_to_ x_leave x_arrive)) fun (t_8 : Bool) =>
 letK (!t_8) fun (t_9 : Bool) =>
 appK jt_10 t_9)

set_option maxRecDepth 100000 in
set_option maxHeartbeats 2000000 in
theorem C (fuel : Nat) (mails : (List PMail.Mail)) (x : PCover.Cover) (A0 : Option Addr) (c0 : Nat)  (w : World) (M0 : Hid (Cells w 4 A0 mails.length (PMail.flat mails))) (N0 : Hid (mails.length ≤ 9223372036854775807))  {r0 : Int} {r1 : Bool} (H : Hid (P fuel mails x = some (r0, r1))) :
  Calls Try.prog 15 #[.slice A0 mails.length c0, x.val] w (Gives (.tuple #[.int .i64 r0, .bool r1]) w) := by
 have HB := Lib.hid (Below.refl w.heap.size w); unfold P at H; obtain ⟨x_id, x_day, x_zone, x_grams, x_paid, x_from_, x_to_, x_leave, x_arrive⟩ := x; replace H := unCover_hid H; unfold PCover.Cover.val; have N0o := N0.out
 go_enter Try.func15, Try.ntmps15
 obtain ⟨h10, g10⟩ : ∃ x, w.alloc (.cells #[.int .i64 x_id, .int .i64 x_day, .int .i64 x_zone, .int .i64 x_grams, .int .i64 x_paid, .int .i64 x_from_, .int .i64 x_to_, .int .i64 x_leave, .int .i64 x_arrive] 27) = x := ⟨_, rfl⟩; have x11 : Below w.heap.size w h10 := (by rw [← g10]; exact (Below.refl _ _).alloc (Nat.le_refl _) _); have i12 := Lib.hid (Below.step HB.out x11); clear x11; have v10 : h10.cell? ⟨w.heap.size, 0, none⟩ = some (.int .i64 x_id) := (by rw [← g10]; exact box_new _ _ _ 0 _ rfl); have x10 : h10.cell? ⟨w.heap.size, 1, none⟩ = some (.int .i64 x_day) := (by rw [← g10]; exact box_new _ _ _ 1 _ rfl); have c11 : h10.cell? ⟨w.heap.size, 2, none⟩ = some (.int .i64 x_zone) := (by rw [← g10]; exact box_new _ _ _ 2 _ rfl); have y10 : h10.cell? ⟨w.heap.size, 3, none⟩ = some (.int .i64 x_grams) := (by rw [← g10]; exact box_new _ _ _ 3 _ rfl); have z10 : h10.cell? ⟨w.heap.size, 4, none⟩ = some (.int .i64 x_paid) := (by rw [← g10]; exact box_new _ _ _ 4 _ rfl); have d11 : h10.cell? ⟨w.heap.size, 5, none⟩ = some (.int .i64 x_from_) := (by rw [← g10]; exact box_new _ _ _ 5 _ rfl); have b11 : h10.cell? ⟨w.heap.size, 6, none⟩ = some (.int .i64 x_to_) := (by rw [← g10]; exact box_new _ _ _ 6 _ rfl); have w10 : h10.cell? ⟨w.heap.size, 7, none⟩ = some (.int .i64 x_leave) := (by rw [← g10]; exact box_new _ _ _ 7 _ rfl); have a11 : h10.cell? ⟨w.heap.size, 8, none⟩ = some (.int .i64 x_arrive) := (by rw [← g10]; exact box_new _ _ _ 8 _ rfl); replace H := bind_hid H; obtain ⟨t_4, qt_4, H⟩ := H; go_wp2_with fail; go_at_call 47; refine (GiIsTimetable.C (mails) A0 c0 _   (Lib.hid (Cells.below M0.out i12.out)) N0 qt_4).mono ?_; rintro d13 wt_4 ⟨rfl, bt_4⟩; have f12 := Lib.hid (Below.step i12.out bt_4); replace v10 := cell_below bt_4 v10; replace x10 := cell_below bt_4 x10; replace c11 := cell_below bt_4 c11; replace y10 := cell_below bt_4 y10; replace z10 := cell_below bt_4 z10; replace d11 := cell_below bt_4 d11; replace b11 := cell_below bt_4 b11; replace w10 := cell_below bt_4 w10; replace a11 := cell_below bt_4 a11; clear bt_4
 cases t_4 with
 | false =>
  replace H := let_hid H; obtain ⟨t_5, ht_5, H⟩ := H; obtain rfl : t_5 = true := ht_5.symm; replace H := join_hid H; replace H := ite_t H; replace H := app_hid H; replace H := ite_t H; cases ret_hid H; go_wp2_with fail; go_ret2; exact ⟨rfl, f12.out⟩
 | true =>
  replace H := let_hid H; obtain ⟨t_5, ht_5, H⟩ := H; obtain rfl : t_5 = false := ht_5.symm; replace H := join_hid H; replace H := ite_f H; replace H := bind_hid H; obtain ⟨t_8, qt_8, H⟩ := H; go_wp2_with fail; go_at_call 18; refine (GiIsCover.C ((PCover.Cover.mk x_id x_day x_zone x_grams x_paid x_from_ x_to_ x_leave x_arrive))  _    qt_8).mono ?_; rintro j13 wt_8 ⟨rfl, bt_8⟩; have r11 := Lib.hid (Below.step f12.out bt_8); replace v10 := cell_below bt_8 v10; replace x10 := cell_below bt_8 x10; replace c11 := cell_below bt_8 c11; replace y10 := cell_below bt_8 y10; replace z10 := cell_below bt_8 z10; replace d11 := cell_below bt_8 d11; replace b11 := cell_below bt_8 b11; replace w10 := cell_below bt_8 w10; replace a11 := cell_below bt_8 a11; clear bt_8
  cases t_8 with
  | false =>
   replace H := let_hid H; obtain ⟨t_9, ht_9, H⟩ := H; obtain rfl : t_9 = true := ht_9.symm; replace H := app_hid H; replace H := ite_t H; cases ret_hid H; go_wp2_with fail; go_ret2; exact ⟨rfl, r11.out⟩
  | true =>
   replace H := let_hid H; obtain ⟨t_9, ht_9, H⟩ := H; obtain rfl : t_9 = false := ht_9.symm; replace H := app_hid H; replace H := ite_f H; obtain ⟨b10, e10⟩ : ∃ x, wt_8.alloc (.cells #[.int .i64 x_id, .int .i64 x_day, .int .i64 x_zone, .int .i64 x_grams, .int .i64 x_paid, .int .i64 x_from_, .int .i64 x_to_, .int .i64 x_leave, .int .i64 x_arrive] 27) = x := ⟨_, rfl⟩; have f10 : Below wt_8.heap.size wt_8 b10 := (by rw [← e10]; exact (Below.refl _ _).alloc (Nat.le_refl _) _); have m10 := Lib.hid (apart_box v10); have p11 := Lib.hid (Below.step r11.out f10); have o10 := cell_below f10 v10; have i10 := cell_below f10 x10; have k10 := cell_below f10 c11; have r10 := cell_below f10 y10; have p10 := cell_below f10 z10; have l10 := cell_below f10 d11; have n10 := cell_below f10 b11; have j10 := cell_below f10 w10; have q10 := cell_below f10 a11; clear f10; have g11 : b10.cell? ⟨wt_8.heap.size, 0, none⟩ = some (.int .i64 x_id) := (by rw [← e10]; exact box_new _ _ _ 0 _ rfl); have j11 : b10.cell? ⟨wt_8.heap.size, 1, none⟩ = some (.int .i64 x_day) := (by rw [← e10]; exact box_new _ _ _ 1 _ rfl); have h11 : b10.cell? ⟨wt_8.heap.size, 2, none⟩ = some (.int .i64 x_zone) := (by rw [← e10]; exact box_new _ _ _ 2 _ rfl); have f11 : b10.cell? ⟨wt_8.heap.size, 3, none⟩ = some (.int .i64 x_grams) := (by rw [← e10]; exact box_new _ _ _ 3 _ rfl); have e11 : b10.cell? ⟨wt_8.heap.size, 4, none⟩ = some (.int .i64 x_paid) := (by rw [← e10]; exact box_new _ _ _ 4 _ rfl); have m11 : b10.cell? ⟨wt_8.heap.size, 5, none⟩ = some (.int .i64 x_from_) := (by rw [← e10]; exact box_new _ _ _ 5 _ rfl); have n11 : b10.cell? ⟨wt_8.heap.size, 6, none⟩ = some (.int .i64 x_to_) := (by rw [← e10]; exact box_new _ _ _ 6 _ rfl); have i11 : b10.cell? ⟨wt_8.heap.size, 7, none⟩ = some (.int .i64 x_leave) := (by rw [← e10]; exact box_new _ _ _ 7 _ rfl); have o11 : b10.cell? ⟨wt_8.heap.size, 8, none⟩ = some (.int .i64 x_arrive) := (by rw [← e10]; exact box_new _ _ _ 8 _ rfl); have t10 : Hid (b10.ownsRow w.heap.size 27 9 (.slice (some ⟨wt_8.heap.size, 0, none⟩) 1 1) 1 [.int .i64 x_id, .int .i64 x_day, .int .i64 x_zone, .int .i64 x_grams, .int .i64 x_paid, .int .i64 x_from_, .int .i64 x_to_, .int .i64 x_leave, .int .i64 x_arrive]) := Lib.hid (by rw [← e10]; exact own_laid (n := 1) r11.out.size rfl rfl (by unfold maxLen; omega)); go_wp2_with fail; clear v10 x10 c11 y10 z10 d11 b11 w10 a11; have bd4 : Below b10.heap.size b10 b10.drew := (Below.refl _ _).drew; have p11.drew := Lib.hid (Below.step p11.out bd4); replace o10 := cell_below bd4 o10; replace i10 := cell_below bd4 i10; replace k10 := cell_below bd4 k10; replace r10 := cell_below bd4 r10; replace p10 := cell_below bd4 p10; replace l10 := cell_below bd4 l10; replace n10 := cell_below bd4 n10; replace j10 := cell_below bd4 j10; replace q10 := cell_below bd4 q10; replace g11 := cell_below bd4 g11; replace j11 := cell_below bd4 j11; replace h11 := cell_below bd4 h11; replace f11 := cell_below bd4 f11; replace e11 := cell_below bd4 e11; replace m11 := cell_below bd4 m11; replace n11 := cell_below bd4 n11; replace i11 := cell_below bd4 i11; replace o11 := cell_below bd4 o11; replace t10 := Lib.hid (own_below t10.out bd4); clear bd4; replace H := bind_hid H; obtain ⟨t_21, s11, H⟩ := H; obtain ⟨t12, y12, w12, q12, l12, x12, m12, o12, v12, s12⟩ := t_21; replace H := unIntA10_hid H; replace H := idx_hid H; obtain ⟨k11, l11, p12, r12, j12, H⟩ := H; subst p12
   have a13 : ∀ w, (Instr.index 78 (.agg #[.int .i64 t12, .int .i64 y12, .int .i64 w12, .int .i64 q12, .int .i64 l12, .int .i64 x12, .int .i64 m12, .int .i64 o12, .int .i64 v12, .int .i64 s12]) (.int .i64 (k11 : Int))).run Try.prog w = .ok (.int .i64 l11) w := by
    intro w; have hl := r12; have hg := j12.out; clear j12 H
    rcases k11 with _ | _ | _ | _ | _ | _ | _ | _ | _ | _ | _
    ·
     obtain rfl := Option.some.inj hg; rfl
    ·
     obtain rfl := Option.some.inj hg; rfl
    ·
     obtain rfl := Option.some.inj hg; rfl
    ·
     obtain rfl := Option.some.inj hg; rfl
    ·
     obtain rfl := Option.some.inj hg; rfl
    ·
     obtain rfl := Option.some.inj hg; rfl
    ·
     obtain rfl := Option.some.inj hg; rfl
    ·
     obtain rfl := Option.some.inj hg; rfl
    ·
     obtain rfl := Option.some.inj hg; rfl
    ·
     obtain rfl := Option.some.inj hg; rfl
    ·
     simp at hl; omega
   refine wp_region_held_drew (S := fun w' => w'.cell? ⟨w.heap.size, 0, none⟩ = some (.int .i64 x_id) ∧ w'.cell? ⟨w.heap.size, 1, none⟩ = some (.int .i64 x_day) ∧ w'.cell? ⟨w.heap.size, 2, none⟩ = some (.int .i64 x_zone) ∧ w'.cell? ⟨w.heap.size, 3, none⟩ = some (.int .i64 x_grams) ∧ w'.cell? ⟨w.heap.size, 4, none⟩ = some (.int .i64 x_paid) ∧ w'.cell? ⟨w.heap.size, 5, none⟩ = some (.int .i64 (k11 : Int)) ∧ w'.cell? ⟨w.heap.size, 6, none⟩ = some (.int .i64 x_to_) ∧ w'.cell? ⟨w.heap.size, 7, none⟩ = some (.int .i64 x_leave) ∧ w'.cell? ⟨w.heap.size, 8, none⟩ = some (.int .i64 x_arrive) ∧ Hid (0 ≤ w'.heap.size)) (by kernel_rfl) ⟨o10, i10, k10, r10, p10, l10, n10, j10, q10, Lib.hid (Nat.zero_le _)⟩ (fun hHeld => ?_); refine wpAnyH_take (i := 0) (oi := _) (v := ?_) rfl (by kernel_rfl) (by kernel_rfl) (by kernel_rfl) (fun _ _ _ h => h) (Or.inl ⟨by rfl, ?_⟩) (by assumption) ?_
   rotate_left
   ·
    intro w hSw
    (try dsimp only at hSw)
    (try simp only [List.getElem_toArray, List.getElem_cons_zero, List.getElem_cons_succ])
    go_simp
    (try with_reducible rfl)
   try simp only [Act.put, List.getElem_toArray, List.getElem_cons_zero, List.getElem_cons_succ, List.setIfInBounds_toArray, List.set_cons_zero, List.set_cons_succ]
   refine wpAnyH_take (i := 1) (oi := _) (v := ?_) rfl (by kernel_rfl) (by kernel_rfl) (by kernel_rfl) (fun _ _ _ h => h) (Or.inl ⟨by rfl, ?_⟩) (by assumption) ?_
   rotate_left
   ·
    intro w hSw
    (try dsimp only at hSw)
    (try simp only [List.getElem_toArray, List.getElem_cons_zero, List.getElem_cons_succ])
    go_simp
    (try with_reducible rfl)
   try simp only [Act.put, List.getElem_toArray, List.getElem_cons_zero, List.getElem_cons_succ, List.setIfInBounds_toArray, List.set_cons_zero, List.set_cons_succ]
   refine wpAnyH_take (i := 2) (oi := _) (v := ?_) rfl (by kernel_rfl) (by kernel_rfl) (by kernel_rfl) (fun _ _ _ h => h) (Or.inl ⟨by rfl, ?_⟩) (by assumption) ?_
   rotate_left
   ·
    intro w hSw
    (try dsimp only at hSw)
    (try simp only [List.getElem_toArray, List.getElem_cons_zero, List.getElem_cons_succ])
    go_simp
    (try with_reducible rfl)
   try simp only [Act.put, List.getElem_toArray, List.getElem_cons_zero, List.getElem_cons_succ, List.setIfInBounds_toArray, List.set_cons_zero, List.set_cons_succ]
   refine wpAnyH_take (i := 3) (oi := _) (v := ?_) rfl (by kernel_rfl) (by kernel_rfl) (by kernel_rfl) (fun _ _ _ h => h) (Or.inl ⟨by rfl, ?_⟩) (by assumption) ?_
   rotate_left
   ·
    intro w hSw
    (try dsimp only at hSw)
    (try simp only [List.getElem_toArray, List.getElem_cons_zero, List.getElem_cons_succ])
    go_simp
    (try with_reducible rfl)
   try simp only [Act.put, List.getElem_toArray, List.getElem_cons_zero, List.getElem_cons_succ, List.setIfInBounds_toArray, List.set_cons_zero, List.set_cons_succ]
   refine wpAnyH_take (i := 4) (oi := _) (v := ?_) rfl (by kernel_rfl) (by kernel_rfl) (by kernel_rfl) (fun _ _ _ h => h) (Or.inl ⟨by rfl, ?_⟩) (by assumption) ?_
   rotate_left
   ·
    intro w hSw
    (try dsimp only at hSw)
    (try simp only [List.getElem_toArray, List.getElem_cons_zero, List.getElem_cons_succ])
    go_simp
    (try with_reducible rfl)
   try simp only [Act.put, List.getElem_toArray, List.getElem_cons_zero, List.getElem_cons_succ, List.setIfInBounds_toArray, List.set_cons_zero, List.set_cons_succ]
   refine wpAnyH_take (i := 6) (oi := _) (v := ?_) rfl (by kernel_rfl) (by kernel_rfl) (by kernel_rfl) (fun _ _ _ h => h) (Or.inl ⟨by rfl, ?_⟩) (by assumption) ?_
   rotate_left
   ·
    intro w hSw
    (try dsimp only at hSw)
    (try simp only [List.getElem_toArray, List.getElem_cons_zero, List.getElem_cons_succ])
    go_simp
    (try with_reducible rfl)
   try simp only [Act.put, List.getElem_toArray, List.getElem_cons_zero, List.getElem_cons_succ, List.setIfInBounds_toArray, List.set_cons_zero, List.set_cons_succ]
   refine wpAnyH_take (i := 7) (oi := _) (v := ?_) rfl (by kernel_rfl) (by kernel_rfl) (by kernel_rfl) (fun _ _ _ h => h) (Or.inl ⟨by rfl, ?_⟩) (by assumption) ?_
   rotate_left
   ·
    intro w hSw
    (try dsimp only at hSw)
    (try simp only [List.getElem_toArray, List.getElem_cons_zero, List.getElem_cons_succ])
    go_simp
    (try with_reducible rfl)
   try simp only [Act.put, List.getElem_toArray, List.getElem_cons_zero, List.getElem_cons_succ, List.setIfInBounds_toArray, List.set_cons_zero, List.set_cons_succ]
   refine wpAnyH_ready (rs := [5]) (by kernel_rfl) (by simp) ?_; refine AllReadyH.cons (o := _) rfl (fun K_ hK_ => ?_) AllReadyH.nil
   (try simp only [List.getElem_toArray, List.getElem_cons_zero, List.getElem_cons_succ])
   go_simp
   go_at_call 54; refine (GiLatestMinutes.C fuel (mails) (x_to_) (x_arrive) A0 c0 _   (Lib.hid (Cells.below M0.out p11.drew.out)) N0 s11).mono ?_; rintro f13 y11 ⟨rfl, a10⟩; unfold PIntA10.IntA10.val; have v11 := Lib.hid (Below.step p11.drew.out a10); replace o10 := cell_below a10 o10; replace i10 := cell_below a10 i10; replace k10 := cell_below a10 k10; replace r10 := cell_below a10 r10; replace p10 := cell_below a10 p10; replace l10 := cell_below a10 l10; replace n10 := cell_below a10 n10; replace j10 := cell_below a10 j10; replace q10 := cell_below a10 q10; replace g11 := cell_below a10 g11; replace j11 := cell_below a10 j11; replace h11 := cell_below a10 h11; replace f11 := cell_below a10 f11; replace e11 := cell_below a10 e11; replace m11 := cell_below a10 m11; replace n11 := cell_below a10 n11; replace i11 := cell_below a10 i11; replace o11 := cell_below a10 o11; replace t10 := Lib.hid (own_below t10.out a10); clear a10; clear s11
   first | refine hK_.out _ _ ⟨o10, i10, k10, r10, p10, l10, n10, j10, q10, Lib.hid (Nat.zero_le _)⟩ (fun hHeld => ?_) | (go_wp2_with fail; refine hK_.out _ _ ⟨o10, i10, k10, r10, p10, l10, n10, j10, q10, Lib.hid (Nat.zero_le _)⟩ (fun hHeld => ?_))
   clear hK_ K_
   try simp only [Act.put, List.getElem_toArray, List.getElem_cons_zero, List.getElem_cons_succ, List.setIfInBounds_toArray, List.set_cons_zero, List.set_cons_succ]
   refine wpAnyH_take (i := 8) (oi := _) (v := ?_) rfl (by kernel_rfl) (by kernel_rfl) (by kernel_rfl) (fun _ _ _ h => h) (Or.inl ⟨by rfl, ?_⟩) (by assumption) ?_
   rotate_left
   ·
    intro w hSw
    (try dsimp only at hSw)
    (try simp only [List.getElem_toArray, List.getElem_cons_zero, List.getElem_cons_succ])
    go_simp
    (try with_reducible rfl)
   try simp only [Act.put, List.getElem_toArray, List.getElem_cons_zero, List.getElem_cons_succ, List.setIfInBounds_toArray, List.set_cons_zero, List.set_cons_succ]
   refine wpAnyH_take (i := 9) (oi := _) (v := ?_) rfl (by kernel_rfl) (by kernel_rfl) (by kernel_rfl) (fun _ _ _ h => h) (Or.inl ⟨by rfl, ?_⟩) (by assumption) ?_
   rotate_left
   ·
    intro w hSw
    (try dsimp only at hSw)
    (try simp only [List.getElem_toArray, List.getElem_cons_zero, List.getElem_cons_succ])
    go_simp
    (try with_reducible rfl)
   try simp only [Act.put, List.getElem_toArray, List.getElem_cons_zero, List.getElem_cons_succ, List.setIfInBounds_toArray, List.set_cons_zero, List.set_cons_succ]
   refine wpAnyH_ready (rs := [10]) (by kernel_rfl) (by simp) ?_; refine AllReadyH.cons (o := _) rfl (fun K_ hK_ => ?_) AllReadyH.nil; obtain ⟨d10, d12⟩ : ∃ x, (y11).setCell ⟨wt_8.heap.size, 7, none⟩ (.int .i64 l11) = x := ⟨_, rfl⟩; have n12 := t10.out.frozenAt 7; have q11 := Lib.hid (own_stores [(7, .int .i64 l11)] t10.out); have s10 : Hid (d10.ownsRow w.heap.size 27 9 (.slice (some ⟨wt_8.heap.size, 0, none⟩) 1 1) 1 [.int .i64 x_id, .int .i64 x_day, .int .i64 x_zone, .int .i64 x_grams, .int .i64 x_paid, .int .i64 (k11 : Int), .int .i64 x_to_, .int .i64 l11, .int .i64 x_arrive]) := Lib.hid (by rw [← d12]; exact q11.out.1); have c10 : Hid (y11.grownBy d10 (Value.slice (some ⟨wt_8.heap.size, 0, none⟩) 1 1).ownBlock) := Lib.hid (by rw [← d12]; exact q11.out.2); have b12 := Lib.hid (v11.out.grown c10.out v11.out.size (fun q hq => (t10.out.lt q hq).1)); clear q11; have c12 := cell_other o10 c10.out m10.out; have z11 := cell_other i10 c10.out m10.out; have t11 := cell_other k10 c10.out m10.out; have k12 := cell_other r10 c10.out m10.out; have w11 := cell_other p10 c10.out m10.out; have g12 := cell_other l10 c10.out m10.out; have h12 := cell_other n10 c10.out m10.out; have a12 := cell_other j10 c10.out m10.out; have e12 := cell_other q10 c10.out m10.out; clear t10 c10; have i13 : d10.cell? ⟨wt_8.heap.size, 0, none⟩ = some (.int .i64 x_id) := s10.out.cells rfl 0 _ rfl; have m13 : d10.cell? ⟨wt_8.heap.size, 1, none⟩ = some (.int .i64 x_day) := s10.out.cells rfl 1 _ rfl; have k13 : d10.cell? ⟨wt_8.heap.size, 2, none⟩ = some (.int .i64 x_zone) := s10.out.cells rfl 2 _ rfl; have n13 : d10.cell? ⟨wt_8.heap.size, 3, none⟩ = some (.int .i64 x_grams) := s10.out.cells rfl 3 _ rfl; have z12 : d10.cell? ⟨wt_8.heap.size, 4, none⟩ = some (.int .i64 x_paid) := s10.out.cells rfl 4 _ rfl; have g13 : d10.cell? ⟨wt_8.heap.size, 5, none⟩ = some (.int .i64 (k11 : Int)) := s10.out.cells rfl 5 _ rfl; have c13 : d10.cell? ⟨wt_8.heap.size, 6, none⟩ = some (.int .i64 x_to_) := s10.out.cells rfl 6 _ rfl; have l13 : d10.cell? ⟨wt_8.heap.size, 7, none⟩ = some (.int .i64 l11) := s10.out.cells rfl 7 _ rfl; have b13 : d10.cell? ⟨wt_8.heap.size, 8, none⟩ = some (.int .i64 x_arrive) := s10.out.cells rfl 8 _ rfl
   (try simp only [List.getElem_toArray, List.getElem_cons_zero, List.getElem_cons_succ])
   go_simp
   first | refine hK_.out _ _ ⟨c12, z11, t11, k12, w11, g12, h12, a12, e12, Lib.hid (Nat.zero_le _)⟩ (fun hHeld => ?_) | (go_wp2_with fail; refine hK_.out _ _ ⟨c12, z11, t11, k12, w11, g12, h12, a12, e12, Lib.hid (Nat.zero_le _)⟩ (fun hHeld => ?_))
   clear hK_ K_
   try simp only [Act.put, List.getElem_toArray, List.getElem_cons_zero, List.getElem_cons_succ, List.setIfInBounds_toArray, List.set_cons_zero, List.set_cons_succ]
   refine wpAnyH_done (by kernel_rfl) ?_ _
   try clear n12
   try clear o10
   try clear i10
   try clear k10
   try clear r10
   try clear p10
   try clear l10
   try clear n10
   try clear j10
   try clear q10
   try clear g11
   try clear j11
   try clear h11
   try clear f11
   try clear e11
   try clear m11
   try clear n11
   try clear i11
   try clear o11
   replace H := let_hid H; obtain ⟨t_31, e13, H⟩ := H
   cases t_31 with
   | false =>
    replace H := ite_f H; replace H := let_hid H; obtain ⟨t_38, h13, H⟩ := H; cases ret_hid H; go_wp2_with fail; go_ret2; exact ⟨rfl, b12.out⟩
   | true =>
    replace H := ite_t H; cases ret_hid H; go_wp2_with fail; go_ret2; exact ⟨rfl, b12.out⟩
end Go.Proofs.Ytgbcdmlcmnaimaa.GiSpareMinutes

namespace Go.Proofs.Ytgbcdmlcmnaimaa.GsLatestLeave
open Go.RowKit
open Go.Proofs.Ytgbcdmlcmnaimaa.Rowed Go.Proofs.Ytgbcdmlcmnaimaa.Turn Go.Proofs.Ytgbcdmlcmnaimaa.Aid Go.Proofs.Ytgbcdmlcmnaimaa.GoP Go.Proofs.Ytgbcdmlcmnaimaa.GoM

def l0 (list : (List PMail.Mail)) (from_1 : Int) (to_2 : Int) (by_3 : Int) (s : Int) (nx0 bk0 : Int → Option (Int × Bool)) : Option (Int × Bool) :=
 letK s fun i_10l0 =>
 letK (decide (0 ≤ i_10l0)) fun (t_24 : Bool) =>
 iteK t_24
 (Option.bind (idx list i_10l0) fun (yt_27 : PMail.Mail) =>
 unMail yt_27 fun (t_27_leave : Int) (t_27_from_ : Int) (t_27_to_ : Int) (t_27_arrive : Int) =>
 letK (t_27_from_ == from_1) fun (t_34 : Bool) =>
 joinK (fun (t_40 : Bool) =>
 joinK (fun (t_53 : Bool) =>
 iteK t_53
 (some (t_27_leave, true))
 (letK (IntKind.i64.wrap (i_10l0 - 1)) fun (t_59 : Int) =>
 appK nx0 (t_59))) fun jt_53 => iteK t_40 (Option.bind (GsL9Times.P list t_27_to_ t_27_arrive) fun (t_47 : (List Int)) =>
 Option.bind (idx t_47 to_2) fun (yt_49 : Int) =>
 letK (decide (yt_49 ≤ by_3)) fun (t_52 : Bool) =>
 appK jt_53 t_52) (appK jt_53 false)) fun jt_40 => iteK t_34 (letK (decide (t_27_arrive ≤ by_3)) fun (t_39 : Bool) =>
 appK jt_40 t_39) (appK jt_40 false))
 (appK bk0 (i_10l0))

def e0  (s : Int) : Option (Int × Bool) :=
 letK s fun i_10l0 =>
 some (0, false)

def P (fuel : Nat) (list : (List PMail.Mail)) (from_1 : Int) (to_2 : Int) (by_3 : Int) : Option (Int × Bool) :=
 Option.bind (GsL9Asked.P list from_1 by_3) fun (t_5 : Bool) =>
 letK (!t_5) fun (t_6 : Bool) =>
 joinK (fun (t_11 : Bool) =>
 joinK (fun (t_16 : Bool) =>
 iteK t_16
 (some (0, false))
 (letK (IntKind.i64.wrap ((list.length : Int) - 1)) fun (t_21 : Int) =>
 loopK (l0 list from_1 to_2 by_3) fuel (t_21) (e0 ))) fun jt_16 => iteK t_11 (appK jt_16 true) (letK (from_1 == to_2) fun (t_15 : Bool) =>
 appK jt_16 t_15)) fun jt_11 => iteK t_6 (appK jt_11 true) (Option.bind (GsL9Office.P to_2) fun (t_9 : Bool) =>
 letK (!t_9) fun (t_10 : Bool) =>
 appK jt_11 t_10)

set_option maxRecDepth 100000 in
set_option maxHeartbeats 2000000 in
theorem C (fuel : Nat) (list : (List PMail.Mail)) (from_1 : Int) (to_2 : Int) (by_3 : Int) (A0 : Option Addr) (c0 : Nat)  (w : World) (M0 : Hid (Cells w 4 A0 list.length (PMail.flat list))) (N0 : Hid (list.length ≤ 9223372036854775807))  {r0 : Int} {r1 : Bool} (H : Hid (P fuel list from_1 to_2 by_3 = some (r0, r1))) :
  Calls Try.prog 55 #[.slice A0 list.length c0, .int .i64 from_1, .int .i64 to_2, .int .i64 by_3] w (Gives (.tuple #[.int .i64 r0, .bool r1]) w) := by
 have HB := Lib.hid (Below.refl w.heap.size w); unfold P at H; have N0o := N0.out
 go_enter Try.func55, Try.ntmps55
 replace H := bind_hid H; obtain ⟨t_5, qt_5, H⟩ := H; go_wp2_with fail; go_at_call 99; refine (GsL9Asked.C (list) (from_1) (by_3) A0 c0 _   (Lib.hid (Cells.below M0.out HB.out)) N0 qt_5).mono ?_; rintro a12 wt_5 ⟨rfl, bt_5⟩; have a11 := Lib.hid (Below.step HB.out bt_5); clear bt_5
 cases t_5 with
 | false =>
  replace H := let_hid H; obtain ⟨t_6, ht_6, H⟩ := H; obtain rfl : t_6 = true := ht_6.symm; replace H := join_hid H; replace H := ite_t H; replace H := app_hid H; replace H := join_hid H; replace H := ite_t H; replace H := app_hid H; replace H := ite_t H; cases ret_hid H; go_wp2_with fail; go_ret2; exact ⟨rfl, a11.out⟩
 | true =>
  replace H := let_hid H; obtain ⟨t_6, ht_6, H⟩ := H; obtain rfl : t_6 = false := ht_6.symm; replace H := join_hid H; replace H := ite_f H; replace H := bind_hid H; obtain ⟨t_9, qt_9, H⟩ := H; go_wp2_with fail; go_at_call 74; refine (GsL9Office.C (to_2)  _    qt_9).mono ?_; rintro z12 wt_9 ⟨rfl, bt_9⟩; have m10 := Lib.hid (Below.step a11.out bt_9); clear bt_9
  cases t_9 with
  | false =>
   replace H := let_hid H; obtain ⟨t_10, s10, H⟩ := H; obtain rfl : t_10 = true := s10.symm; replace H := app_hid H; replace H := join_hid H; replace H := ite_t H; replace H := app_hid H; replace H := ite_t H; cases ret_hid H; go_wp2_with fail; go_ret2; exact ⟨rfl, m10.out⟩
  | true =>
   replace H := let_hid H; obtain ⟨t_10, s10, H⟩ := H; obtain rfl : t_10 = false := s10.symm; replace H := app_hid H; replace H := join_hid H; replace H := ite_f H; replace H := let_hid H; obtain ⟨t_15, c12, H⟩ := H; replace H := app_hid H
   cases t_15 with
   | false =>
    replace H := ite_f H; replace H := let_hid H; obtain ⟨t_21, m11, H⟩ := H
    try have k11 : (list.length : Int) - 1 = t_21 := by rw [← m11]; exact (IntWalk.i64_in _ (by omega)).symm
    try have l12 : IntKind.i64.wrap t_21 = t_21 := by rw [← k11]; exact IntWalk.i64_in _ (by omega)
    go_wp2_with fail; go_loopg [10] (fuel) (fun m_ v10_ wr => ∃ (q10 : Int), v10_ = .int .i64 q10 ∧ Hid (loopK (l0 list from_1 to_2 by_3) m_ (q10) (e0 ) = some (r0, r1)) ∧ Hid (Below w.heap.size w wr))
    case atStart => exact ⟨_, rfl, H, m10⟩
    case round =>
     obtain ⟨q10, rfl, H, f10⟩ := hrel; rename World => wr0
     cases gk with
     | zero => exact (loop_zero H).elim
     | succ m0 =>
      replace H := loop_succ H; unfold l0 at H; replace H := let_hid H; obtain ⟨_, rfl, H⟩ := H; replace H := let_hid H; obtain ⟨t_24, q11, H⟩ := H
      cases t_24 with
      | false =>
       replace H := ite_f H; replace H := app_hid H; unfold e0 at H; replace H := let_hid H; obtain ⟨_, rfl, H⟩ := H; cases ret_hid H; go_wp2_with fail; go_ret2; exact ⟨rfl, f10.out⟩
      | true =>
       replace H := ite_t H; replace H := idx_hid H; obtain ⟨h10, n11, z11, x11, o11, H⟩ := H; subst z11; have x12 : 0 ≤ h10 := (by have := of_decide_eq_true q11; omega); obtain ⟨d11, c11, p10, r10⟩ := n11; replace H := unMail_hid H; obtain ⟨t11, w11, v12, p11, e11, b10, g10, c10, e10⟩ := OMail.at_ M0.out x11; obtain rfl := Option.some.inj (o11.out.symm.trans e11); subst p11; have k12 := cell_lt b10; replace b10 := cell_below f10.out b10; replace g10 := cell_below f10.out g10; replace c10 := cell_below f10.out c10; replace e10 := cell_below f10.out e10; clear e11; have w12 : (0 : Int) ≤ (h10 : Int) := (by omega); have p12 : (h10 : Int) < ((list.length : Nat) : Int) := (by omega); have o12 : ((h10 : Int)).toNat = h10 := (by omega); obtain ⟨l10, j10⟩ : ∃ x, wr0.alloc (.cells #[.int .i64 d11, .int .i64 c11, .int .i64 p10, .int .i64 r10] 77) = x := ⟨_, rfl⟩; have d10 : Below wr0.heap.size wr0 l10 := (by rw [← j10]; exact (Below.refl _ _).alloc (Nat.le_refl _) _); have k10 := Lib.hid (Below.step f10.out d10); have t10 := cell_below d10 b10; have h11 := cell_below d10 g10; have f11 := cell_below d10 c10; have g11 := cell_below d10 e10; clear d10; have o10 : l10.cell? ⟨wr0.heap.size, 0, none⟩ = some (.int .i64 d11) := (by rw [← j10]; exact box_new _ _ _ 0 _ rfl); have i11 : l10.cell? ⟨wr0.heap.size, 1, none⟩ = some (.int .i64 c11) := (by rw [← j10]; exact box_new _ _ _ 1 _ rfl); have b11 : l10.cell? ⟨wr0.heap.size, 2, none⟩ = some (.int .i64 p10) := (by rw [← j10]; exact box_new _ _ _ 2 _ rfl); have x10 : l10.cell? ⟨wr0.heap.size, 3, none⟩ = some (.int .i64 r10) := (by rw [← j10]; exact box_new _ _ _ 3 _ rfl); replace H := let_hid H; obtain ⟨t_34, r12, H⟩ := H; replace H := join_hid H
       cases t_34 with
       | false =>
        replace H := ite_f H; replace H := app_hid H; replace H := join_hid H; replace H := ite_f H; replace H := app_hid H; replace H := ite_f H; replace H := let_hid H; obtain ⟨t_59, j11, H⟩ := H; replace H := app_hid H; go_wp2_with fail; clear b10 g10 c10 e10
        go_roundg m0
        case measure => omega
        case rel => exact ⟨_, rfl, H, k10⟩
       | true =>
        replace H := ite_t H; replace H := let_hid H; obtain ⟨t_39, q12, H⟩ := H; replace H := app_hid H; replace H := join_hid H
        cases t_39 with
        | false =>
         replace H := ite_f H; replace H := app_hid H; replace H := ite_f H; replace H := let_hid H; obtain ⟨t_59, j11, H⟩ := H; replace H := app_hid H; go_wp2_with fail; clear b10 g10 c10 e10
         go_roundg m0
         case measure => omega
         case rel => exact ⟨_, rfl, H, k10⟩
        | true =>
         replace H := ite_t H; replace H := bind_hid H; obtain ⟨t_47, s11, H⟩ := H; go_wp2_with fail; clear b10 g10 c10 e10; go_at_call 87; refine (GsL9Times.C (list) (p10) (r10) (some ⟨t11, w11, none⟩) c0 _   (Lib.hid (Cells.below M0.out k10.out)) N0 s11).mono ?_; rintro s12 j12 ⟨f12, a13, rfl, n10, a10⟩; have g12 := Lib.hid (apart_callbox n10 o10); have z10 := Lib.hid (own_lower n10 k10.out.size); clear n10; have w10 := Lib.hid (Below.step k10.out a10); replace t10 := cell_below a10 t10; replace h11 := cell_below a10 h11; replace f11 := cell_below a10 f11; replace g11 := cell_below a10 g11; replace o10 := cell_below a10 o10; replace i11 := cell_below a10 i11; replace b11 := cell_below a10 b11; replace x10 := cell_below a10 x10; clear a10; replace H := idx_hid H; obtain ⟨i10, i12, r11, y12, v11, H⟩ := H; subst r11; obtain ⟨d12, l11⟩ := own_some z10.out (by omega); subst l11; obtain ⟨t12, h12, m12, v10, y10, y11⟩ := HelpInt.Ints.at_ (own_cells z10.out) (k := i10) (by omega); obtain rfl := Option.some.inj (v11.out.symm.trans y10); simp only [Option.some.injEq, Addr.mk.injEq] at v10; obtain ⟨rfl, rfl, _⟩ := v10; clear y10; simp only [Nat.zero_add] at y11; have n12 : (0 : Int) ≤ (i10 : Int) := (by omega); have b12 : (i10 : Int) < ((t_47.length : Nat) : Int) := (by omega); have b13 : ((i10 : Int)).toNat = i10 := (by omega); replace H := let_hid H; obtain ⟨t_52, e12, H⟩ := H; replace H := app_hid H
         cases t_52 with
         | false =>
          replace H := ite_f H; replace H := let_hid H; obtain ⟨t_59, j11, H⟩ := H; replace H := app_hid H; go_wp2_with fail
          go_roundg m0
          case measure => omega
          case rel => exact ⟨_, rfl, H, w10⟩
         | true =>
          replace H := ite_t H; cases ret_hid H; go_wp2_with fail; go_ret2; exact ⟨rfl, w10.out⟩
   | true =>
    replace H := ite_t H; cases ret_hid H; go_wp2_with fail; go_ret2; exact ⟨rfl, m10.out⟩
end Go.Proofs.Ytgbcdmlcmnaimaa.GsLatestLeave

namespace Go.Proofs.Ytgbcdmlcmnaimaa.GsSpareMinutes
open Go.RowKit
open Go.Proofs.Ytgbcdmlcmnaimaa.Rowed Go.Proofs.Ytgbcdmlcmnaimaa.Turn Go.Proofs.Ytgbcdmlcmnaimaa.Aid Go.Proofs.Ytgbcdmlcmnaimaa.GoP Go.Proofs.Ytgbcdmlcmnaimaa.GoM

def P (fuel : Nat) (mails : (List PMail.Mail)) (x : PCover.Cover) : Option (Int × Bool) :=
 unCover x fun (x_id : Int) (x_day : Int) (x_zone : Int) (x_grams : Int) (x_paid : Int) (x_from_ : Int) (x_to_ : Int) (x_leave : Int) (x_arrive : Int) =>
 Option.bind (GsL9Good.P mails) fun (t_4 : Bool) =>
 letK (!t_4) fun (t_5 : Bool) =>
 joinK (fun (t_10 : Bool) =>
 iteK t_10
 (some (0, false))
 (bind2 (GsLatestLeave.P fuel mails x_from_ x_to_ x_arrive) fun (t_20a : Int) (t_20b : Bool) =>
 letK (!t_20b) fun (t_27 : Bool) =>
 joinK (fun (t_33 : Bool) =>
 iteK t_33
 (some (0, false))
 (letK (IntKind.i64.wrap (t_20a - x_leave)) fun (t_39 : Int) =>
 some (t_39, true))) fun jt_33 => iteK t_27 (appK jt_33 true) (letK (decide (t_20a < x_leave)) fun (t_32 : Bool) =>
 appK jt_33 t_32))) fun jt_10 => iteK t_5 (appK jt_10 true) (Option.bind (GsL10One.P (PCover.Cover.mk x_id x_day x_zone x_grams x_paid x_from_ x_to_ x_leave x_arrive)) fun (t_8 : Bool) =>
 letK (!t_8) fun (t_9 : Bool) =>
 appK jt_10 t_9)

set_option maxRecDepth 100000 in
set_option maxHeartbeats 2000000 in
theorem C (fuel : Nat) (mails : (List PMail.Mail)) (x : PCover.Cover) (A0 : Option Addr) (c0 : Nat)  (w : World) (M0 : Hid (Cells w 4 A0 mails.length (PMail.flat mails))) (N0 : Hid (mails.length ≤ 9223372036854775807))  {r0 : Int} {r1 : Bool} (H : Hid (P fuel mails x = some (r0, r1))) :
  Calls Try.prog 16 #[.slice A0 mails.length c0, x.val] w (Gives (.tuple #[.int .i64 r0, .bool r1]) w) := by
 have HB := Lib.hid (Below.refl w.heap.size w); unfold P at H; obtain ⟨x_id, x_day, x_zone, x_grams, x_paid, x_from_, x_to_, x_leave, x_arrive⟩ := x; replace H := unCover_hid H; unfold PCover.Cover.val; have N0o := N0.out
 go_enter Try.func16, Try.ntmps16
 obtain ⟨b10, c10⟩ : ∃ x, w.alloc (.cells #[.int .i64 x_id, .int .i64 x_day, .int .i64 x_zone, .int .i64 x_grams, .int .i64 x_paid, .int .i64 x_from_, .int .i64 x_to_, .int .i64 x_leave, .int .i64 x_arrive] 27) = x := ⟨_, rfl⟩; have q10 : Below w.heap.size w b10 := (by rw [← c10]; exact (Below.refl _ _).alloc (Nat.le_refl _) _); have r10 := Lib.hid (Below.step HB.out q10); clear q10; have k10 : b10.cell? ⟨w.heap.size, 0, none⟩ = some (.int .i64 x_id) := (by rw [← c10]; exact box_new _ _ _ 0 _ rfl); have l10 : b10.cell? ⟨w.heap.size, 1, none⟩ = some (.int .i64 x_day) := (by rw [← c10]; exact box_new _ _ _ 1 _ rfl); have d10 : b10.cell? ⟨w.heap.size, 2, none⟩ = some (.int .i64 x_zone) := (by rw [← c10]; exact box_new _ _ _ 2 _ rfl); have j10 : b10.cell? ⟨w.heap.size, 3, none⟩ = some (.int .i64 x_grams) := (by rw [← c10]; exact box_new _ _ _ 3 _ rfl); have g10 : b10.cell? ⟨w.heap.size, 4, none⟩ = some (.int .i64 x_paid) := (by rw [← c10]; exact box_new _ _ _ 4 _ rfl); have i10 : b10.cell? ⟨w.heap.size, 5, none⟩ = some (.int .i64 x_from_) := (by rw [← c10]; exact box_new _ _ _ 5 _ rfl); have h10 : b10.cell? ⟨w.heap.size, 6, none⟩ = some (.int .i64 x_to_) := (by rw [← c10]; exact box_new _ _ _ 6 _ rfl); have f10 : b10.cell? ⟨w.heap.size, 7, none⟩ = some (.int .i64 x_leave) := (by rw [← c10]; exact box_new _ _ _ 7 _ rfl); have e10 : b10.cell? ⟨w.heap.size, 8, none⟩ = some (.int .i64 x_arrive) := (by rw [← c10]; exact box_new _ _ _ 8 _ rfl); replace H := bind_hid H; obtain ⟨t_4, qt_4, H⟩ := H; go_wp2_with fail; go_at_call 40; refine (GsL9Good.C (mails) A0 c0 _   (Lib.hid (Cells.below M0.out r10.out)) N0 qt_4).mono ?_; rintro z10 wt_4 ⟨rfl, bt_4⟩; have p10 := Lib.hid (Below.step r10.out bt_4); replace k10 := cell_below bt_4 k10; replace l10 := cell_below bt_4 l10; replace d10 := cell_below bt_4 d10; replace j10 := cell_below bt_4 j10; replace g10 := cell_below bt_4 g10; replace i10 := cell_below bt_4 i10; replace h10 := cell_below bt_4 h10; replace f10 := cell_below bt_4 f10; replace e10 := cell_below bt_4 e10; clear bt_4
 cases t_4 with
 | false =>
  replace H := let_hid H; obtain ⟨t_5, ht_5, H⟩ := H; obtain rfl : t_5 = true := ht_5.symm; replace H := join_hid H; replace H := ite_t H; replace H := app_hid H; replace H := ite_t H; cases ret_hid H; go_wp2_with fail; go_ret2; exact ⟨rfl, p10.out⟩
 | true =>
  replace H := let_hid H; obtain ⟨t_5, ht_5, H⟩ := H; obtain rfl : t_5 = false := ht_5.symm; replace H := join_hid H; replace H := ite_f H; replace H := bind_hid H; obtain ⟨t_8, qt_8, H⟩ := H; go_wp2_with fail; go_at_call 41; refine (GsL10One.C ((PCover.Cover.mk x_id x_day x_zone x_grams x_paid x_from_ x_to_ x_leave x_arrive))  _    qt_8).mono ?_; rintro v10 wt_8 ⟨rfl, bt_8⟩; have n10 := Lib.hid (Below.step p10.out bt_8); replace k10 := cell_below bt_8 k10; replace l10 := cell_below bt_8 l10; replace d10 := cell_below bt_8 d10; replace j10 := cell_below bt_8 j10; replace g10 := cell_below bt_8 g10; replace i10 := cell_below bt_8 i10; replace h10 := cell_below bt_8 h10; replace f10 := cell_below bt_8 f10; replace e10 := cell_below bt_8 e10; clear bt_8
  cases t_8 with
  | false =>
   replace H := let_hid H; obtain ⟨t_9, ht_9, H⟩ := H; obtain rfl : t_9 = true := ht_9.symm; replace H := app_hid H; replace H := ite_t H; cases ret_hid H; go_wp2_with fail; go_ret2; exact ⟨rfl, n10.out⟩
  | true =>
   replace H := let_hid H; obtain ⟨t_9, ht_9, H⟩ := H; obtain rfl : t_9 = false := ht_9.symm; replace H := app_hid H; replace H := ite_f H; replace H := bind2_hid H; obtain ⟨x10, t10, s10, H⟩ := H; go_wp2_with fail; go_at_call 55; refine (GsLatestLeave.C fuel (mails) (x_from_) (x_to_) (x_arrive) A0 c0 _   (Lib.hid (Cells.below M0.out n10.out)) N0 s10).mono ?_; rintro a11 b11 ⟨rfl, a10⟩; have m10 := Lib.hid (Below.step n10.out a10); replace k10 := cell_below a10 k10; replace l10 := cell_below a10 l10; replace d10 := cell_below a10 d10; replace j10 := cell_below a10 j10; replace g10 := cell_below a10 g10; replace i10 := cell_below a10 i10; replace h10 := cell_below a10 h10; replace f10 := cell_below a10 f10; replace e10 := cell_below a10 e10; clear a10
   cases t10 with
   | false =>
    replace H := let_hid H; obtain ⟨t_27, o10, H⟩ := H; obtain rfl : t_27 = true := o10.symm; replace H := join_hid H; replace H := ite_t H; replace H := app_hid H; replace H := ite_t H; cases ret_hid H; go_wp2_with fail; go_ret2; exact ⟨rfl, m10.out⟩
   | true =>
    replace H := let_hid H; obtain ⟨t_27, o10, H⟩ := H; obtain rfl : t_27 = false := o10.symm; replace H := join_hid H; replace H := ite_f H; replace H := let_hid H; obtain ⟨t_32, w10, H⟩ := H; replace H := app_hid H
    cases t_32 with
    | false =>
     replace H := ite_f H; replace H := let_hid H; obtain ⟨t_39, y10, H⟩ := H; cases ret_hid H; go_wp2_with fail; go_ret2; exact ⟨rfl, m10.out⟩
    | true =>
     replace H := ite_t H; cases ret_hid H; go_wp2_with fail; go_ret2; exact ⟨rfl, m10.out⟩
end Go.Proofs.Ytgbcdmlcmnaimaa.GsSpareMinutes

namespace Go.Proofs.Ytgbcdmlcmnaimaa.GsIsCover
open Go.RowKit
open Go.Proofs.Ytgbcdmlcmnaimaa.Rowed Go.Proofs.Ytgbcdmlcmnaimaa.Turn Go.Proofs.Ytgbcdmlcmnaimaa.Aid Go.Proofs.Ytgbcdmlcmnaimaa.GoP Go.Proofs.Ytgbcdmlcmnaimaa.GoM

def P (x : PCover.Cover) : Option (Bool) :=
 unCover x fun (x_id : Int) (x_day : Int) (x_zone : Int) (x_grams : Int) (x_paid : Int) (x_from_ : Int) (x_to_ : Int) (x_leave : Int) (x_arrive : Int) =>
 Option.bind (GsL10One.P (PCover.Cover.mk x_id x_day x_zone x_grams x_paid x_from_ x_to_ x_leave x_arrive)) fun (t_3 : Bool) =>
 some t_3

set_option maxRecDepth 100000 in
set_option maxHeartbeats 2000000 in
theorem C (x : PCover.Cover)   (w : World)   {r : Bool} (H : Hid (P x = some r)) :
  Calls Try.prog 19 #[x.val] w (Gives (.bool r) w) := by
 have HB := Lib.hid (Below.refl w.heap.size w); unfold P at H; obtain ⟨x_id, x_day, x_zone, x_grams, x_paid, x_from_, x_to_, x_leave, x_arrive⟩ := x; replace H := unCover_hid H; unfold PCover.Cover.val
 go_enter Try.func19, Try.ntmps19
 obtain ⟨a10, b10⟩ : ∃ x, w.alloc (.cells #[.int .i64 x_id, .int .i64 x_day, .int .i64 x_zone, .int .i64 x_grams, .int .i64 x_paid, .int .i64 x_from_, .int .i64 x_to_, .int .i64 x_leave, .int .i64 x_arrive] 27) = x := ⟨_, rfl⟩; have g10 : Below w.heap.size w a10 := (by rw [← b10]; exact (Below.refl _ _).alloc (Nat.le_refl _) _); have m10 := Lib.hid (Below.step HB.out g10); clear g10; have f10 : a10.cell? ⟨w.heap.size, 0, none⟩ = some (.int .i64 x_id) := (by rw [← b10]; exact box_new _ _ _ 0 _ rfl); have l10 : a10.cell? ⟨w.heap.size, 1, none⟩ = some (.int .i64 x_day) := (by rw [← b10]; exact box_new _ _ _ 1 _ rfl); have k10 : a10.cell? ⟨w.heap.size, 2, none⟩ = some (.int .i64 x_zone) := (by rw [← b10]; exact box_new _ _ _ 2 _ rfl); have i10 : a10.cell? ⟨w.heap.size, 3, none⟩ = some (.int .i64 x_grams) := (by rw [← b10]; exact box_new _ _ _ 3 _ rfl); have c10 : a10.cell? ⟨w.heap.size, 4, none⟩ = some (.int .i64 x_paid) := (by rw [← b10]; exact box_new _ _ _ 4 _ rfl); have d10 : a10.cell? ⟨w.heap.size, 5, none⟩ = some (.int .i64 x_from_) := (by rw [← b10]; exact box_new _ _ _ 5 _ rfl); have e10 : a10.cell? ⟨w.heap.size, 6, none⟩ = some (.int .i64 x_to_) := (by rw [← b10]; exact box_new _ _ _ 6 _ rfl); have h10 : a10.cell? ⟨w.heap.size, 7, none⟩ = some (.int .i64 x_leave) := (by rw [← b10]; exact box_new _ _ _ 7 _ rfl); have j10 : a10.cell? ⟨w.heap.size, 8, none⟩ = some (.int .i64 x_arrive) := (by rw [← b10]; exact box_new _ _ _ 8 _ rfl); replace H := bind_hid H; obtain ⟨t_3, qt_3, H⟩ := H; go_wp2_with fail; go_at_call 41; refine (GsL10One.C ((PCover.Cover.mk x_id x_day x_zone x_grams x_paid x_from_ x_to_ x_leave x_arrive))  _    qt_3).mono ?_; rintro o10 wt_3 ⟨rfl, bt_3⟩; have n10 := Lib.hid (Below.step m10.out bt_3); replace f10 := cell_below bt_3 f10; replace l10 := cell_below bt_3 l10; replace k10 := cell_below bt_3 k10; replace i10 := cell_below bt_3 i10; replace c10 := cell_below bt_3 c10; replace d10 := cell_below bt_3 d10; replace e10 := cell_below bt_3 e10; replace h10 := cell_below bt_3 h10; replace j10 := cell_below bt_3 j10; clear bt_3; obtain rfl := ret_hid H; go_wp2_with fail; go_ret; exact ⟨rfl, n10.out⟩
end Go.Proofs.Ytgbcdmlcmnaimaa.GsIsCover

namespace Go.Proofs.Ytgbcdmlcmnaimaa.GiFaultText
open Go.RowKit
open Go.Proofs.Ytgbcdmlcmnaimaa.Rowed Go.Proofs.Ytgbcdmlcmnaimaa.Turn Go.Proofs.Ytgbcdmlcmnaimaa.Aid Go.Proofs.Ytgbcdmlcmnaimaa.GoP Go.Proofs.Ytgbcdmlcmnaimaa.GoM

def P (fault : Int) : Option (ByteArray × Bool) :=
 Option.bind (GiWithin.P fault 0 5) fun (t_3 : Bool) =>
 letK (!t_3) fun (t_4 : Bool) =>
 iteK t_4
 (some ((⟨#[]⟩ : ByteArray), false))
 (Option.bind (idx [(⟨#[116, 114, 117, 101]⟩ : ByteArray), (⟨#[122, 111, 110, 101]⟩ : ByteArray), (⟨#[115, 104, 111, 114, 116]⟩ : ByteArray), (⟨#[111, 118, 101, 114]⟩ : ByteArray), (⟨#[114, 111, 117, 116, 101]⟩ : ByteArray), (⟨#[101, 97, 114, 108, 121]⟩ : ByteArray)] fault) fun (yt_9 : ByteArray) =>
 some (yt_9, true))

set_option maxRecDepth 100000 in
set_option maxHeartbeats 2000000 in
theorem C (fault : Int)   (w : World)   {r0 : ByteArray} {r1 : Bool} (H : Hid (P fault = some (r0, r1))) :
  Calls Try.prog 21 #[.int .i64 fault] w (Gives (.tuple #[.string r0, .bool r1]) w) := by
 have HB := Lib.hid (Below.refl w.heap.size w); unfold P at H
 go_enter Try.func21, Try.ntmps21
 replace H := bind_hid H; obtain ⟨t_3, qt_3, H⟩ := H; go_wp2_with fail; go_at_call 52; refine (GiWithin.C (fault) (0) (5)  _    qt_3).mono ?_; rintro b10 wt_3 ⟨rfl, bt_3⟩; have a10 := Lib.hid (Below.step HB.out bt_3); clear bt_3
 cases t_3 with
 | false =>
  replace H := let_hid H; obtain ⟨t_4, ht_4, H⟩ := H; obtain rfl : t_4 = true := ht_4.symm; replace H := ite_t H; cases ret_hid H; go_wp2_with fail; go_ret2; exact ⟨rfl, a10.out⟩
 | true =>
  replace H := let_hid H; obtain ⟨t_4, ht_4, H⟩ := H; obtain rfl : t_4 = false := ht_4.symm; replace H := ite_f H; replace H := idx_hid H; obtain ⟨nt_9, yt_9, et_9, lt_9, gt_9, H⟩ := H; subst et_9
  have it_9 : ∀ w, (Instr.index 84 (.agg #[.string (⟨#[116, 114, 117, 101]⟩ : ByteArray), .string (⟨#[122, 111, 110, 101]⟩ : ByteArray), .string (⟨#[115, 104, 111, 114, 116]⟩ : ByteArray), .string (⟨#[111, 118, 101, 114]⟩ : ByteArray), .string (⟨#[114, 111, 117, 116, 101]⟩ : ByteArray), .string (⟨#[101, 97, 114, 108, 121]⟩ : ByteArray)]) (.int .i64 (nt_9 : Int))).run Try.prog w = .ok (.string yt_9) w := by
   intro w; have hl := lt_9; have hg := gt_9.out; clear gt_9 H
   rcases nt_9 with _ | _ | _ | _ | _ | _ | _
   ·
    obtain rfl := Option.some.inj hg; rfl
   ·
    obtain rfl := Option.some.inj hg; rfl
   ·
    obtain rfl := Option.some.inj hg; rfl
   ·
    obtain rfl := Option.some.inj hg; rfl
   ·
    obtain rfl := Option.some.inj hg; rfl
   ·
    obtain rfl := Option.some.inj hg; rfl
   ·
    simp at hl; omega
  cases ret_hid H; go_wp2_with fail; go_ret2; exact ⟨rfl, a10.out⟩
end Go.Proofs.Ytgbcdmlcmnaimaa.GiFaultText

namespace Go.Proofs.Ytgbcdmlcmnaimaa.GsFaultText
open Go.RowKit
open Go.Proofs.Ytgbcdmlcmnaimaa.Rowed Go.Proofs.Ytgbcdmlcmnaimaa.Turn Go.Proofs.Ytgbcdmlcmnaimaa.Aid Go.Proofs.Ytgbcdmlcmnaimaa.GoP Go.Proofs.Ytgbcdmlcmnaimaa.GoM

def P (fault : Int) : Option (ByteArray × Bool) :=
 Option.bind (GsL1In.P fault 0 5) fun (t_3 : Bool) =>
 letK (!t_3) fun (t_4 : Bool) =>
 iteK t_4
 (some ((⟨#[]⟩ : ByteArray), false))
 (letK ([(⟨#[116, 114, 117, 101]⟩ : ByteArray), (⟨#[122, 111, 110, 101]⟩ : ByteArray), (⟨#[115, 104, 111, 114, 116]⟩ : ByteArray), (⟨#[111, 118, 101, 114]⟩ : ByteArray), (⟨#[114, 111, 117, 116, 101]⟩ : ByteArray), (⟨#[101, 97, 114, 108, 121]⟩ : ByteArray)]) fun (t_7 : (List ByteArray)) =>
 Option.bind (idx t_7 fault) fun (yt_9 : ByteArray) =>
 some (yt_9, true))

set_option maxRecDepth 100000 in
set_option maxHeartbeats 2000000 in
theorem C (fault : Int)   (w : World)   {r0 : ByteArray} {r1 : Bool} (H : Hid (P fault = some (r0, r1))) :
  Calls Try.prog 22 #[.int .i64 fault] w (Gives (.tuple #[.string r0, .bool r1]) w) := by
 have HB := Lib.hid (Below.refl w.heap.size w); unfold P at H
 go_enter Try.func22, Try.ntmps22
 replace H := bind_hid H; obtain ⟨t_3, qt_3, H⟩ := H; go_wp2_with fail; go_at_call 64; refine (GsL1In.C (fault) (0) (5)  _    qt_3).mono ?_; rintro j10 wt_3 ⟨rfl, bt_3⟩; have a10 := Lib.hid (Below.step HB.out bt_3); clear bt_3
 cases t_3 with
 | false =>
  replace H := let_hid H; obtain ⟨t_4, ht_4, H⟩ := H; obtain rfl : t_4 = true := ht_4.symm; replace H := ite_t H; cases ret_hid H; go_wp2_with fail; go_ret2; exact ⟨rfl, a10.out⟩
 | true =>
  replace H := let_hid H; obtain ⟨t_4, ht_4, H⟩ := H; obtain rfl : t_4 = false := ht_4.symm; replace H := ite_f H; replace H := let_hid H; obtain ⟨t_7, ht_7, H⟩ := H; obtain ⟨e10, f10⟩ : ∃ x, wt_3.alloc (.cells #[.string (⟨#[116, 114, 117, 101]⟩ : ByteArray), .string (⟨#[122, 111, 110, 101]⟩ : ByteArray), .string (⟨#[115, 104, 111, 114, 116]⟩ : ByteArray), .string (⟨#[111, 118, 101, 114]⟩ : ByteArray), .string (⟨#[114, 111, 117, 116, 101]⟩ : ByteArray), .string (⟨#[101, 97, 114, 108, 121]⟩ : ByteArray)] 9) = x := ⟨_, rfl⟩; have c10 : Below wt_3.heap.size wt_3 e10 := (by rw [← f10]; exact (Below.refl _ _).alloc (Nat.le_refl _) _); have d10 := a10.out.size; have nt_7 : t_7.length = 6 := (by rw [← ht_7]; rfl)
  have Ot_7 : Hid (e10.ownsRow w.heap.size 9 1 (.slice (some ⟨wt_3.heap.size, 0, none⟩) 6 6) 6 (t_7.map Value.string)) := by
   rw [← f10, ← ht_7]; have e_ : ([.string (⟨#[116, 114, 117, 101]⟩ : ByteArray), .string (⟨#[122, 111, 110, 101]⟩ : ByteArray), .string (⟨#[115, 104, 111, 114, 116]⟩ : ByteArray), .string (⟨#[111, 118, 101, 114]⟩ : ByteArray), .string (⟨#[114, 111, 117, 116, 101]⟩ : ByteArray), .string (⟨#[101, 97, 114, 108, 121]⟩ : ByteArray)] : List Value) = (([(⟨#[116, 114, 117, 101]⟩ : ByteArray), (⟨#[122, 111, 110, 101]⟩ : ByteArray), (⟨#[115, 104, 111, 114, 116]⟩ : ByteArray), (⟨#[111, 118, 101, 114]⟩ : ByteArray), (⟨#[114, 111, 117, 116, 101]⟩ : ByteArray), (⟨#[101, 97, 114, 108, 121]⟩ : ByteArray)] : List ByteArray).map Value.string) := rfl; exact Lib.hid (own_laid (n := 6) d10 e_ rfl (by unfold maxLen; omega))
  clear d10; have o10 := Lib.hid ht_7; clear ht_7; replace nt_7 := Lib.hid nt_7; have g10 := Lib.hid (Below.step a10.out c10); clear c10; replace H := idx_hid H; obtain ⟨nt_9, yt_9, et_9, lt_9, gt_9, H⟩ := H; subst et_9; have h10 := nt_7.out; obtain ⟨p10, k10, zt_9, At_9, b10, i10⟩ := strs_at (own_cells Ot_7.out) (k := nt_9) (by omega); obtain rfl := Option.some.inj (gt_9.out.symm.trans b10); simp only [Option.some.injEq, Addr.mk.injEq] at At_9; obtain ⟨rfl, rfl, _⟩ := At_9; clear b10; simp only [Nat.zero_add] at i10; have l10 : (0 : Int) ≤ (nt_9 : Int) := (by omega); have m10 : (nt_9 : Int) < ((6 : Nat) : Int) := (by omega); have n10 : ((nt_9 : Int)).toNat = nt_9 := (by omega); clear h10; cases ret_hid H; go_wp2_with fail; go_ret2; exact ⟨rfl, g10.out⟩
end Go.Proofs.Ytgbcdmlcmnaimaa.GsFaultText

