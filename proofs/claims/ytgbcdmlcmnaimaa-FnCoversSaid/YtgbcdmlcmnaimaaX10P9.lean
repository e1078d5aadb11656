/- Texts on which the proofs of several laws stand, one behind the other (9 of 20). No condition of their own. -/
import Derived.Test.YtgbcdmlcmnaimaaChecked
import Derived.Test.YtgbcdmlcmnaimaaX10P1
import Derived.Test.YtgbcdmlcmnaimaaX10P8
import Derived.WalkKit
import Derived.WalkSpells
import Derived.WalkLawsBesides
import Derived.BigQuiet
import Derived.OwnWalk
import Derived.Deep.LoopGhost
import Derived.Deep.QuietTactic
import Derived.IntWalk
import Derived.Lib.QuietBelow
import Derived.Test.YtgbcdmlcmnaimaaX10P4
import Derived.StillTailTactics
set_option linter.unusedVariables false
set_option linter.unusedSimpArgs false
namespace Go.Proofs.Ytgbcdmlcmnaimaa.GiFaultOf
open Go.RowKit
open Go.Proofs.Ytgbcdmlcmnaimaa.Rowed Go.Proofs.Ytgbcdmlcmnaimaa.Turn Go.Proofs.Ytgbcdmlcmnaimaa.Aid Go.Proofs.Ytgbcdmlcmnaimaa.GoP Go.Proofs.Ytgbcdmlcmnaimaa.GoM

def P (rates : (List PRate.Rate)) (mails : (List PMail.Mail)) (x : PCover.Cover) : Option (Int × Bool) :=
 unCover x fun (x_id : Int) (x_day : Int) (x_zone : Int) (x_grams : Int) (x_paid : Int) (x_from_ : Int) (x_to_ : Int) (x_leave : Int) (x_arrive : Int) =>
 Option.bind (GiCanCheckCovers.P rates mails) fun (t_5 : Bool) =>
 letK (!t_5) fun (t_6 : Bool) =>
 joinK (fun (t_11 : Bool) =>
 iteK t_11
 (some (0, false))
 (Option.bind (GiFaultOn.P rates mails (PCover.Cover.mk x_id x_day x_zone x_grams x_paid x_from_ x_to_ x_leave x_arrive)) fun (t_17 : Int) =>
 some (t_17, true))) fun jt_11 => iteK t_6 (appK jt_11 true) (Option.bind (GiIsCover.P (PCover.Cover.mk x_id x_day x_zone x_grams x_paid x_from_ x_to_ x_leave x_arrive)) fun (t_9 : Bool) =>
 letK (!t_9) fun (t_10 : Bool) =>
 appK jt_11 t_10)

set_option maxRecDepth 100000 in
set_option maxHeartbeats 2000000 in
theorem C (rates : (List PRate.Rate)) (mails : (List PMail.Mail)) (x : PCover.Cover) (A0 : Option Addr) (c0 : Nat) (A1 : Option Addr) (c1 : Nat)  (w : World) (M0 : Hid (Cells w 5 A0 rates.length (PRate.flat rates))) (N0 : Hid (rates.length ≤ 9223372036854775807)) (M1 : Hid (Cells w 4 A1 mails.length (PMail.flat mails))) (N1 : Hid (mails.length ≤ 9223372036854775807))  {r0 : Int} {r1 : Bool} (H : Hid (P rates mails x = some (r0, r1))) :
  Calls Try.prog 7 #[.slice A0 rates.length c0, .slice A1 mails.length c1, x.val] w (Gives (.tuple #[.int .i64 r0, .bool r1]) w) := by
 have HB := Lib.hid (Below.refl w.heap.size w); unfold P at H; obtain ⟨x_id, x_day, x_zone, x_grams, x_paid, x_from_, x_to_, x_leave, x_arrive⟩ := x; replace H := unCover_hid H; unfold PCover.Cover.val; have N0o := N0.out; have N1o := N1.out
 go_enter Try.func7, Try.ntmps7
 obtain ⟨c10, b10⟩ : ∃ x, w.alloc (.cells #[.int .i64 x_id, .int .i64 x_day, .int .i64 x_zone, .int .i64 x_grams, .int .i64 x_paid, .int .i64 x_from_, .int .i64 x_to_, .int .i64 x_leave, .int .i64 x_arrive] 27) = x := ⟨_, rfl⟩; have p10 : Below w.heap.size w c10 := (by rw [← b10]; exact (Below.refl _ _).alloc (Nat.le_refl _) _); have n10 := Lib.hid (Below.step HB.out p10); clear p10; have f10 : c10.cell? ⟨w.heap.size, 0, none⟩ = some (.int .i64 x_id) := (by rw [← b10]; exact box_new _ _ _ 0 _ rfl); have k10 : c10.cell? ⟨w.heap.size, 1, none⟩ = some (.int .i64 x_day) := (by rw [← b10]; exact box_new _ _ _ 1 _ rfl); have h10 : c10.cell? ⟨w.heap.size, 2, none⟩ = some (.int .i64 x_zone) := (by rw [← b10]; exact box_new _ _ _ 2 _ rfl); have e10 : c10.cell? ⟨w.heap.size, 3, none⟩ = some (.int .i64 x_grams) := (by rw [← b10]; exact box_new _ _ _ 3 _ rfl); have j10 : c10.cell? ⟨w.heap.size, 4, none⟩ = some (.int .i64 x_paid) := (by rw [← b10]; exact box_new _ _ _ 4 _ rfl); have g10 : c10.cell? ⟨w.heap.size, 5, none⟩ = some (.int .i64 x_from_) := (by rw [← b10]; exact box_new _ _ _ 5 _ rfl); have i10 : c10.cell? ⟨w.heap.size, 6, none⟩ = some (.int .i64 x_to_) := (by rw [← b10]; exact box_new _ _ _ 6 _ rfl); have d10 : c10.cell? ⟨w.heap.size, 7, none⟩ = some (.int .i64 x_leave) := (by rw [← b10]; exact box_new _ _ _ 7 _ rfl); have l10 : c10.cell? ⟨w.heap.size, 8, none⟩ = some (.int .i64 x_arrive) := (by rw [← b10]; exact box_new _ _ _ 8 _ rfl); replace H := bind_hid H; obtain ⟨t_5, qt_5, H⟩ := H; go_wp2_with fail; go_at_call 37; refine (GiCanCheckCovers.C (rates) (mails) A0 c0 A1 c1 _   (Lib.hid (Cells.below M0.out n10.out)) N0 (Lib.hid (Cells.below M1.out n10.out)) N1 qt_5).mono ?_; rintro w10 wt_5 ⟨rfl, bt_5⟩; have q10 := Lib.hid (Below.step n10.out bt_5); replace f10 := cell_below bt_5 f10; replace k10 := cell_below bt_5 k10; replace h10 := cell_below bt_5 h10; replace e10 := cell_below bt_5 e10; replace j10 := cell_below bt_5 j10; replace g10 := cell_below bt_5 g10; replace i10 := cell_below bt_5 i10; replace d10 := cell_below bt_5 d10; replace l10 := cell_below bt_5 l10; clear bt_5
 cases t_5 with
 | false =>
  replace H := let_hid H; obtain ⟨t_6, ht_6, H⟩ := H; obtain rfl : t_6 = true := ht_6.symm; replace H := join_hid H; replace H := ite_t H; replace H := app_hid H; replace H := ite_t H; cases ret_hid H; go_wp2_with fail; go_ret2; exact ⟨rfl, q10.out⟩
 | true =>
  replace H := let_hid H; obtain ⟨t_6, ht_6, H⟩ := H; obtain rfl : t_6 = false := ht_6.symm; replace H := join_hid H; replace H := ite_f H; replace H := bind_hid H; obtain ⟨t_9, qt_9, H⟩ := H; go_wp2_with fail; go_at_call 18; refine (GiIsCover.C ((PCover.Cover.mk x_id x_day x_zone x_grams x_paid x_from_ x_to_ x_leave x_arrive))  _    qt_9).mono ?_; rintro t10 wt_9 ⟨rfl, bt_9⟩; have m10 := Lib.hid (Below.step q10.out bt_9); replace f10 := cell_below bt_9 f10; replace k10 := cell_below bt_9 k10; replace h10 := cell_below bt_9 h10; replace e10 := cell_below bt_9 e10; replace j10 := cell_below bt_9 j10; replace g10 := cell_below bt_9 g10; replace i10 := cell_below bt_9 i10; replace d10 := cell_below bt_9 d10; replace l10 := cell_below bt_9 l10; clear bt_9
  cases t_9 with
  | false =>
   replace H := let_hid H; obtain ⟨t_10, o10, H⟩ := H; obtain rfl : t_10 = true := o10.symm; replace H := app_hid H; replace H := ite_t H; cases ret_hid H; go_wp2_with fail; go_ret2; exact ⟨rfl, m10.out⟩
  | true =>
   replace H := let_hid H; obtain ⟨t_10, o10, H⟩ := H; obtain rfl : t_10 = false := o10.symm; replace H := app_hid H; replace H := ite_f H; replace H := bind_hid H; obtain ⟨t_17, s10, H⟩ := H; go_wp2_with fail; go_at_call 38; refine (GiFaultOn.C (rates) (mails) ((PCover.Cover.mk x_id x_day x_zone x_grams x_paid x_from_ x_to_ x_leave x_arrive)) A0 c0 A1 c1 _   (Lib.hid (Cells.below M0.out m10.out)) N0 (Lib.hid (Cells.below M1.out m10.out)) N1 s10).mono ?_; rintro x10 v10 ⟨rfl, a10⟩; have r10 := Lib.hid (Below.step m10.out a10); replace f10 := cell_below a10 f10; replace k10 := cell_below a10 k10; replace h10 := cell_below a10 h10; replace e10 := cell_below a10 e10; replace j10 := cell_below a10 j10; replace g10 := cell_below a10 g10; replace i10 := cell_below a10 i10; replace d10 := cell_below a10 d10; replace l10 := cell_below a10 l10; clear a10; cases ret_hid H; go_wp2_with fail; go_ret2; exact ⟨rfl, r10.out⟩
end Go.Proofs.Ytgbcdmlcmnaimaa.GiFaultOf

namespace Go.Proofs.Ytgbcdmlcmnaimaa.GsL8Zone
open Go.RowKit
open Go.Proofs.Ytgbcdmlcmnaimaa.Rowed Go.Proofs.Ytgbcdmlcmnaimaa.Turn Go.Proofs.Ytgbcdmlcmnaimaa.Aid Go.Proofs.Ytgbcdmlcmnaimaa.GoP Go.Proofs.Ytgbcdmlcmnaimaa.GoM

def P (zone : Int) : Option (Bool) :=
  Option.bind (Go.Proofs.Ytgbcdmlcmnaimaa.GsL1In.P zone 0 9) fun (t_2 : Bool) =>
  some t_2

set_option maxRecDepth 100000 in
set_option maxHeartbeats 2000000 in
theorem C (zone : Int)   (w : World)   {r : Bool} (H : Hid (P zone = some r)) :
    Calls Try.prog 83 #[.int .i64 zone] w (Gives (.bool r) w) := by
  have HB := Lib.hid (Below.refl w.heap.size w)
  unfold P at H
  go_enter Try.func83, Try.ntmps83
  replace H := bind_hid H
  obtain ⟨t_2, qt_2, H⟩ := H
  go_wp2_with fail
  go_at_call 64
  refine (Go.Proofs.Ytgbcdmlcmnaimaa.GsL1In.C (zone) (0) (9)  _    qt_2).mono ?_
  rintro e_t_2 wt_2 ⟨rfl, bt_2⟩
  have HBwt_2 := Lib.hid (Below.step HB.out bt_2)
  clear bt_2
  obtain rfl := ret_hid H
  go_wp2_with fail
  go_ret
  exact ⟨rfl, HBwt_2.out⟩
end Go.Proofs.Ytgbcdmlcmnaimaa.GsL8Zone

namespace Go.Proofs.Ytgbcdmlcmnaimaa.GsL8Grams
open Go.RowKit
open Go.Proofs.Ytgbcdmlcmnaimaa.Rowed Go.Proofs.Ytgbcdmlcmnaimaa.Turn Go.Proofs.Ytgbcdmlcmnaimaa.Aid Go.Proofs.Ytgbcdmlcmnaimaa.GoP Go.Proofs.Ytgbcdmlcmnaimaa.GoM

def P (grams : Int) : Option (Bool) :=
  Option.bind (Go.Proofs.Ytgbcdmlcmnaimaa.GsL1In.P grams 1 2000) fun (t_2 : Bool) =>
  some t_2

set_option maxRecDepth 100000 in
set_option maxHeartbeats 2000000 in
theorem C (grams : Int)   (w : World)   {r : Bool} (H : Hid (P grams = some r)) :
    Calls Try.prog 84 #[.int .i64 grams] w (Gives (.bool r) w) := by
  have HB := Lib.hid (Below.refl w.heap.size w)
  unfold P at H
  go_enter Try.func84, Try.ntmps84
  replace H := bind_hid H
  obtain ⟨t_2, qt_2, H⟩ := H
  go_wp2_with fail
  go_at_call 64
  refine (Go.Proofs.Ytgbcdmlcmnaimaa.GsL1In.C (grams) (1) (2000)  _    qt_2).mono ?_
  rintro e_t_2 wt_2 ⟨rfl, bt_2⟩
  have HBwt_2 := Lib.hid (Below.step HB.out bt_2)
  clear bt_2
  obtain rfl := ret_hid H
  go_wp2_with fail
  go_ret
  exact ⟨rfl, HBwt_2.out⟩
end Go.Proofs.Ytgbcdmlcmnaimaa.GsL8Grams

namespace Go.Proofs.Ytgbcdmlcmnaimaa.GsL2Day
open Go.RowKit
open Go.Proofs.Ytgbcdmlcmnaimaa.Rowed Go.Proofs.Ytgbcdmlcmnaimaa.Turn Go.Proofs.Ytgbcdmlcmnaimaa.Aid Go.Proofs.Ytgbcdmlcmnaimaa.GoP Go.Proofs.Ytgbcdmlcmnaimaa.GoM

def P (d_0 : Int) : Option (Bool) :=
  Option.bind (Go.Proofs.Ytgbcdmlcmnaimaa.GsL1In.P d_0 0 4000) fun (t_2 : Bool) =>
  some t_2

set_option maxRecDepth 100000 in
set_option maxHeartbeats 2000000 in
theorem C (d_0 : Int)   (w : World)   {r : Bool} (H : Hid (P d_0 = some r)) :
    Calls Try.prog 82 #[.int .i64 d_0] w (Gives (.bool r) w) := by
  have HB := Lib.hid (Below.refl w.heap.size w)
  unfold P at H
  go_enter Try.func82, Try.ntmps82
  replace H := bind_hid H
  obtain ⟨t_2, qt_2, H⟩ := H
  go_wp2_with fail
  go_at_call 64
  refine (Go.Proofs.Ytgbcdmlcmnaimaa.GsL1In.C (d_0) (0) (4000)  _    qt_2).mono ?_
  rintro e_t_2 wt_2 ⟨rfl, bt_2⟩
  have HBwt_2 := Lib.hid (Below.step HB.out bt_2)
  clear bt_2
  obtain rfl := ret_hid H
  go_wp2_with fail
  go_ret
  exact ⟨rfl, HBwt_2.out⟩
end Go.Proofs.Ytgbcdmlcmnaimaa.GsL2Day

namespace Go.Proofs.Ytgbcdmlcmnaimaa.GsL8Cents
open Go.RowKit
open Go.Proofs.Ytgbcdmlcmnaimaa.Rowed Go.Proofs.Ytgbcdmlcmnaimaa.Turn Go.Proofs.Ytgbcdmlcmnaimaa.Aid Go.Proofs.Ytgbcdmlcmnaimaa.GoP Go.Proofs.Ytgbcdmlcmnaimaa.GoM

def P (cents : Int) : Option (Bool) :=
  Option.bind (Go.Proofs.Ytgbcdmlcmnaimaa.GsL1In.P cents 1 9999) fun (t_2 : Bool) =>
  some t_2

set_option maxRecDepth 100000 in
set_option maxHeartbeats 2000000 in
theorem C (cents : Int)   (w : World)   {r : Bool} (H : Hid (P cents = some r)) :
    Calls Try.prog 85 #[.int .i64 cents] w (Gives (.bool r) w) := by
  have HB := Lib.hid (Below.refl w.heap.size w)
  unfold P at H
  go_enter Try.func85, Try.ntmps85
  replace H := bind_hid H
  obtain ⟨t_2, qt_2, H⟩ := H
  go_wp2_with fail
  go_at_call 64
  refine (Go.Proofs.Ytgbcdmlcmnaimaa.GsL1In.C (cents) (1) (9999)  _    qt_2).mono ?_
  rintro e_t_2 wt_2 ⟨rfl, bt_2⟩
  have HBwt_2 := Lib.hid (Below.step HB.out bt_2)
  clear bt_2
  obtain rfl := ret_hid H
  go_wp2_with fail
  go_ret
  exact ⟨rfl, HBwt_2.out⟩
end Go.Proofs.Ytgbcdmlcmnaimaa.GsL8Cents

namespace Go.Proofs.Ytgbcdmlcmnaimaa.GsL8One
open Go.RowKit
open Go.Proofs.Ytgbcdmlcmnaimaa.Rowed Go.Proofs.Ytgbcdmlcmnaimaa.Turn Go.Proofs.Ytgbcdmlcmnaimaa.Aid Go.Proofs.Ytgbcdmlcmnaimaa.GoP Go.Proofs.Ytgbcdmlcmnaimaa.GoM

def P (r_0 : PRate.Rate) : Option (Bool) :=
 unRate r_0 fun (r_0_zone : Int) (r_0_grams : Int) (r_0_from_ : Int) (r_0_until_ : Int) (r_0_cents : Int) =>
 Option.bind (GsL8Zone.P r_0_zone) fun (t_4 : Bool) =>
 joinK (fun (t_9 : Bool) =>
 joinK (fun (t_14 : Bool) =>
 joinK (fun (t_21 : Bool) =>
 joinK (fun (t_26 : Bool) =>
 some t_26) fun jt_26 => iteK t_21 (Option.bind (GsL8Cents.P r_0_cents) fun (t_25 : Bool) =>
 appK jt_26 t_25) (appK jt_26 false)) fun jt_21 => iteK t_14 (Option.bind (GsL1In.P r_0_from_ 0 r_0_until_) fun (t_20 : Bool) =>
 appK jt_21 t_20) (appK jt_21 false)) fun jt_14 => iteK t_9 (Option.bind (GsL2Day.P r_0_until_) fun (t_13 : Bool) =>
 appK jt_14 t_13) (appK jt_14 false)) fun jt_9 => iteK t_4 (Option.bind (GsL8Grams.P r_0_grams) fun (t_8 : Bool) =>
 appK jt_9 t_8) (appK jt_9 false)

set_option maxRecDepth 100000 in
set_option maxHeartbeats 2000000 in
theorem C (r_0 : PRate.Rate)   (w : World)   {r : Bool} (H : Hid (P r_0 = some r)) :
  Calls Try.prog 80 #[r_0.val] w (Gives (.bool r) w) := by
 have HB := Lib.hid (Below.refl w.heap.size w); unfold P at H; obtain ⟨o10, l10, m10, k10, n10⟩ := r_0; replace H := unRate_hid H; unfold PRate.Rate.val
 go_enter Try.func80, Try.ntmps80
 obtain ⟨i10, j10⟩ : ∃ x, w.alloc (.cells #[.int .i64 o10, .int .i64 l10, .int .i64 m10, .int .i64 k10, .int .i64 n10] 92) = x := ⟨_, rfl⟩; have q10 : Below w.heap.size w i10 := (by rw [← j10]; exact (Below.refl _ _).alloc (Nat.le_refl _) _); have z10 := Lib.hid (Below.step HB.out q10); clear q10; have b10 : i10.cell? ⟨w.heap.size, 0, none⟩ = some (.int .i64 o10) := (by rw [← j10]; exact box_new _ _ _ 0 _ rfl); have d10 : i10.cell? ⟨w.heap.size, 1, none⟩ = some (.int .i64 l10) := (by rw [← j10]; exact box_new _ _ _ 1 _ rfl); have e10 : i10.cell? ⟨w.heap.size, 2, none⟩ = some (.int .i64 m10) := (by rw [← j10]; exact box_new _ _ _ 2 _ rfl); have a10 : i10.cell? ⟨w.heap.size, 3, none⟩ = some (.int .i64 k10) := (by rw [← j10]; exact box_new _ _ _ 3 _ rfl); have c10 : i10.cell? ⟨w.heap.size, 4, none⟩ = some (.int .i64 n10) := (by rw [← j10]; exact box_new _ _ _ 4 _ rfl); replace H := bind_hid H; obtain ⟨t_4, qt_4, H⟩ := H; go_wp2_with fail; go_at_call 83; refine (GsL8Zone.C (o10)  _    qt_4).mono ?_; rintro b11 wt_4 ⟨rfl, bt_4⟩; have r10 := Lib.hid (Below.step z10.out bt_4); replace b10 := cell_below bt_4 b10; replace d10 := cell_below bt_4 d10; replace e10 := cell_below bt_4 e10; replace a10 := cell_below bt_4 a10; replace c10 := cell_below bt_4 c10; clear bt_4; replace H := join_hid H
 cases t_4 with
 | false =>
  replace H := ite_f H; replace H := app_hid H; replace H := join_hid H; replace H := ite_f H; replace H := app_hid H; replace H := join_hid H; replace H := ite_f H; replace H := app_hid H; replace H := join_hid H; replace H := ite_f H; replace H := app_hid H; obtain rfl := ret_hid H; go_wp2_with fail; go_ret; exact ⟨rfl, r10.out⟩
 | true =>
  replace H := ite_t H; replace H := bind_hid H; obtain ⟨t_8, qt_8, H⟩ := H; go_wp2_with fail; go_at_call 84; refine (GsL8Grams.C (l10)  _    qt_8).mono ?_; rintro c11 wt_8 ⟨rfl, bt_8⟩; have s10 := Lib.hid (Below.step r10.out bt_8); replace b10 := cell_below bt_8 b10; replace d10 := cell_below bt_8 d10; replace e10 := cell_below bt_8 e10; replace a10 := cell_below bt_8 a10; replace c10 := cell_below bt_8 c10; clear bt_8; replace H := app_hid H; replace H := join_hid H
  cases t_8 with
  | false =>
   replace H := ite_f H; replace H := app_hid H; replace H := join_hid H; replace H := ite_f H; replace H := app_hid H; replace H := join_hid H; replace H := ite_f H; replace H := app_hid H; obtain rfl := ret_hid H; go_wp2_with fail; go_ret; exact ⟨rfl, s10.out⟩
  | true =>
   replace H := ite_t H; replace H := bind_hid H; obtain ⟨t_13, w10, H⟩ := H; go_wp2_with fail; go_at_call 82; refine (GsL2Day.C (k10)  _    w10).mono ?_; rintro h11 g11 ⟨rfl, h10⟩; have p10 := Lib.hid (Below.step s10.out h10); replace b10 := cell_below h10 b10; replace d10 := cell_below h10 d10; replace e10 := cell_below h10 e10; replace a10 := cell_below h10 a10; replace c10 := cell_below h10 c10; clear h10; replace H := app_hid H; replace H := join_hid H
   cases t_13 with
   | false =>
    replace H := ite_f H; replace H := app_hid H; replace H := join_hid H; replace H := ite_f H; replace H := app_hid H; obtain rfl := ret_hid H; go_wp2_with fail; go_ret; exact ⟨rfl, p10.out⟩
   | true =>
    replace H := ite_t H; replace H := bind_hid H; obtain ⟨t_20, v10, H⟩ := H; go_wp2_with fail; go_at_call 64; refine (GsL1In.C (m10) (0) (k10)  _    v10).mono ?_; rintro f11 a11 ⟨rfl, f10⟩; have t10 := Lib.hid (Below.step p10.out f10); replace b10 := cell_below f10 b10; replace d10 := cell_below f10 d10; replace e10 := cell_below f10 e10; replace a10 := cell_below f10 a10; replace c10 := cell_below f10 c10; clear f10; replace H := app_hid H; replace H := join_hid H
    cases t_20 with
    | false =>
     replace H := ite_f H; replace H := app_hid H; obtain rfl := ret_hid H; go_wp2_with fail; go_ret; exact ⟨rfl, t10.out⟩
    | true =>
     replace H := ite_t H; replace H := bind_hid H; obtain ⟨t_25, y10, H⟩ := H; go_wp2_with fail; go_at_call 85; refine (GsL8Cents.C (n10)  _    y10).mono ?_; rintro d11 e11 ⟨rfl, g10⟩; have x10 := Lib.hid (Below.step t10.out g10); replace b10 := cell_below g10 b10; replace d10 := cell_below g10 d10; replace e10 := cell_below g10 e10; replace a10 := cell_below g10 a10; replace c10 := cell_below g10 c10; clear g10; replace H := app_hid H; obtain rfl := ret_hid H; go_wp2_with fail; go_ret; exact ⟨rfl, x10.out⟩
end Go.Proofs.Ytgbcdmlcmnaimaa.GsL8One

namespace Go.Proofs.Ytgbcdmlcmnaimaa.GsL8Code
open Go.RowKit
open Go.Proofs.Ytgbcdmlcmnaimaa.Rowed Go.Proofs.Ytgbcdmlcmnaimaa.Turn Go.Proofs.Ytgbcdmlcmnaimaa.Aid Go.Proofs.Ytgbcdmlcmnaimaa.GoP Go.Proofs.Ytgbcdmlcmnaimaa.GoM

def P (r_0 : PRate.Rate) : Option (Int) :=
 unRate r_0 fun (r_0_zone : Int) (r_0_grams : Int) (r_0_from_ : Int) (r_0_until_ : Int) (r_0_cents : Int) =>
 letK (IntKind.i64.wrap (10000 * r_0_zone)) fun (t_4 : Int) =>
 letK (IntKind.i64.wrap (t_4 + r_0_grams)) fun (t_7 : Int) =>
 letK (IntKind.i64.wrap (t_7 * 10000)) fun (t_8 : Int) =>
 letK (IntKind.i64.wrap (t_8 + r_0_from_)) fun (t_11 : Int) =>
 some t_11

set_option maxRecDepth 100000 in
set_option maxHeartbeats 2000000 in
theorem C (r_0 : PRate.Rate)   (w : World)   {r : Int} (H : Hid (P r_0 = some r)) :
  Calls Try.prog 81 #[r_0.val] w (Gives (.int .i64 r) w) := by
 have HB := Lib.hid (Below.refl w.heap.size w); unfold P at H; obtain ⟨h10, f10, e10, c10, d10⟩ := r_0; replace H := unRate_hid H; unfold PRate.Rate.val
 go_enter Try.func81, Try.ntmps81
 obtain ⟨b10, a10⟩ : ∃ x, w.alloc (.cells #[.int .i64 h10, .int .i64 f10, .int .i64 e10, .int .i64 c10, .int .i64 d10] 92) = x := ⟨_, rfl⟩; have g10 : Below w.heap.size w b10 := (by rw [← a10]; exact (Below.refl _ _).alloc (Nat.le_refl _) _); have i10 := Lib.hid (Below.step HB.out g10); clear g10; have j10 : b10.cell? ⟨w.heap.size, 0, none⟩ = some (.int .i64 h10) := (by rw [← a10]; exact box_new _ _ _ 0 _ rfl); have n10 : b10.cell? ⟨w.heap.size, 1, none⟩ = some (.int .i64 f10) := (by rw [← a10]; exact box_new _ _ _ 1 _ rfl); have l10 : b10.cell? ⟨w.heap.size, 2, none⟩ = some (.int .i64 e10) := (by rw [← a10]; exact box_new _ _ _ 2 _ rfl); have o10 : b10.cell? ⟨w.heap.size, 3, none⟩ = some (.int .i64 c10) := (by rw [← a10]; exact box_new _ _ _ 3 _ rfl); have k10 : b10.cell? ⟨w.heap.size, 4, none⟩ = some (.int .i64 d10) := (by rw [← a10]; exact box_new _ _ _ 4 _ rfl); replace H := let_hid H; obtain ⟨t_4, ht_4, H⟩ := H; replace H := let_hid H; obtain ⟨t_7, ht_7, H⟩ := H; replace H := let_hid H; obtain ⟨t_8, ht_8, H⟩ := H; replace H := let_hid H; obtain ⟨t_11, m10, H⟩ := H; obtain rfl := ret_hid H; go_wp2_with fail; go_ret; exact ⟨rfl, i10.out⟩
end Go.Proofs.Ytgbcdmlcmnaimaa.GsL8Code

namespace Go.Proofs.Ytgbcdmlcmnaimaa.GsL8Good
open Go.RowKit
open Go.Proofs.Ytgbcdmlcmnaimaa.Rowed Go.Proofs.Ytgbcdmlcmnaimaa.Turn Go.Proofs.Ytgbcdmlcmnaimaa.Aid Go.Proofs.Ytgbcdmlcmnaimaa.GoP Go.Proofs.Ytgbcdmlcmnaimaa.GoM

def l0 (list : (List PRate.Rate)) (s : Int) (nx0 bk0 : Int → Option (Bool)) : Option (Bool) :=
 letK s fun i_3l0 =>
 letK (decide (i_3l0 < (list.length : Int))) fun (t_5 : Bool) =>
 joinK (fun (t_9 : Bool) =>
 iteK t_9
 (Option.bind (idx list i_3l0) fun (yt_12 : PRate.Rate) =>
 unRate yt_12 fun (t_12_zone : Int) (t_12_grams : Int) (t_12_from_ : Int) (t_12_until_ : Int) (t_12_cents : Int) =>
 Option.bind (GsL8One.P (PRate.Rate.mk t_12_zone t_12_grams t_12_from_ t_12_until_ t_12_cents)) fun (t_14 : Bool) =>
 letK (!t_14) fun (t_15 : Bool) =>
 joinK (fun (t_33 : Bool) =>
 iteK t_33
 (some false)
 (letK (decide (0 < i_3l0)) fun (t_36 : Bool) =>
 joinK (fun (t_50 : Bool) =>
 joinK (fun (t_64 : Bool) =>
 joinK (fun (t_78 : Bool) =>
 iteK t_78
 (some false)
 (letK (IntKind.i64.wrap (i_3l0 + 1)) fun (t_81 : Int) =>
 appK nx0 (t_81))) fun jt_78 => iteK t_64 (letK (IntKind.i64.wrap (i_3l0 - 1)) fun (t_68 : Int) =>
 Option.bind (idx list t_68) fun (yt_69 : PRate.Rate) =>
 unRate yt_69 fun (t_69_zone : Int) (t_69_grams : Int) (t_69_from_ : Int) (t_69_until_ : Int) (t_69_cents : Int) =>
 Option.bind (idx list i_3l0) fun (yt_74 : PRate.Rate) =>
 unRate yt_74 fun (t_74_zone : Int) (t_74_grams : Int) (t_74_from_ : Int) (t_74_until_ : Int) (t_74_cents : Int) =>
 letK (decide (t_74_from_ ≤ t_69_until_)) fun (t_77 : Bool) =>
 appK jt_78 t_77) (appK jt_78 false)) fun jt_64 => iteK t_50 (letK (IntKind.i64.wrap (i_3l0 - 1)) fun (t_54 : Int) =>
 Option.bind (idx list t_54) fun (yt_55 : PRate.Rate) =>
 unRate yt_55 fun (t_55_zone : Int) (t_55_grams : Int) (t_55_from_ : Int) (t_55_until_ : Int) (t_55_cents : Int) =>
 Option.bind (idx list i_3l0) fun (yt_60 : PRate.Rate) =>
 unRate yt_60 fun (t_60_zone : Int) (t_60_grams : Int) (t_60_from_ : Int) (t_60_until_ : Int) (t_60_cents : Int) =>
 letK (t_55_grams == t_60_grams) fun (t_63 : Bool) =>
 appK jt_64 t_63) (appK jt_64 false)) fun jt_50 => iteK t_36 (letK (IntKind.i64.wrap (i_3l0 - 1)) fun (t_40 : Int) =>
 Option.bind (idx list t_40) fun (yt_41 : PRate.Rate) =>
 unRate yt_41 fun (t_41_zone : Int) (t_41_grams : Int) (t_41_from_ : Int) (t_41_until_ : Int) (t_41_cents : Int) =>
 Option.bind (idx list i_3l0) fun (yt_46 : PRate.Rate) =>
 unRate yt_46 fun (t_46_zone : Int) (t_46_grams : Int) (t_46_from_ : Int) (t_46_until_ : Int) (t_46_cents : Int) =>
 letK (t_41_zone == t_46_zone) fun (t_49 : Bool) =>
 appK jt_50 t_49) (appK jt_50 false))) fun jt_33 => iteK t_15 (appK jt_33 true) (letK (decide (0 < i_3l0)) fun (t_18 : Bool) =>
 joinK (fun (t_32 : Bool) =>
 appK jt_33 t_32) fun jt_32 => iteK t_18 (letK (IntKind.i64.wrap (i_3l0 - 1)) fun (t_22 : Int) =>
 Option.bind (idx list t_22) fun (yt_23 : PRate.Rate) =>
 unRate yt_23 fun (t_23_zone : Int) (t_23_grams : Int) (t_23_from_ : Int) (t_23_until_ : Int) (t_23_cents : Int) =>
 Option.bind (GsL8Code.P (PRate.Rate.mk t_23_zone t_23_grams t_23_from_ t_23_until_ t_23_cents)) fun (t_25 : Int) =>
 Option.bind (idx list i_3l0) fun (yt_28 : PRate.Rate) =>
 unRate yt_28 fun (t_28_zone : Int) (t_28_grams : Int) (t_28_from_ : Int) (t_28_until_ : Int) (t_28_cents : Int) =>
 Option.bind (GsL8Code.P (PRate.Rate.mk t_28_zone t_28_grams t_28_from_ t_28_until_ t_28_cents)) fun (t_30 : Int) =>
 letK (decide (t_30 ≤ t_25)) fun (t_31 : Bool) =>
 appK jt_32 t_31) (appK jt_32 false)))
 (appK bk0 (i_3l0))) fun jt_9 => iteK t_5 (letK (decide (i_3l0 ≤ 16)) fun (t_8 : Bool) =>
 appK jt_9 t_8) (appK jt_9 false)

def e0 (list : (List PRate.Rate)) (s : Int) : Option (Bool) :=
 letK s fun i_3l0 =>
 letK (decide ((list.length : Int) ≤ 16)) fun (t_85 : Bool) =>
 some t_85

def P (fuel : Nat) (list : (List PRate.Rate)) : Option (Bool) :=
 loopK (l0 list) fuel (0) (e0 list)

set_option maxRecDepth 100000 in
set_option maxHeartbeats 2000000 in
theorem C (fuel : Nat) (list : (List PRate.Rate)) (A0 : Option Addr) (c0 : Nat)  (w : World) (M0 : Hid (Cells w 5 A0 list.length (PRate.flat list))) (N0 : Hid (list.length ≤ 9223372036854775807))  {r : Bool} (H : Hid (P fuel list = some r)) :
  Calls Try.prog 39 #[.slice A0 list.length c0] w (Gives (.bool r) w) := by
 have HB := Lib.hid (Below.refl w.heap.size w); unfold P at H; have N0o := N0.out
 go_enter Try.func39, Try.ntmps39
 go_wp2_with fail; go_loopg [3] (fuel) (fun m_ v3_ wr => ∃ (n11 : Int), v3_ = .int .i64 n11 ∧ Hid (loopK (l0 list) m_ (n11) (e0 list) = some r) ∧ Hid (Below w.heap.size w wr))
 case atStart => exact ⟨_, rfl, H, HB⟩
 case round =>
  obtain ⟨n11, rfl, H, p10⟩ := hrel; rename World => wr0
  cases gk with
  | zero => exact (loop_zero H).elim
  | succ m0 =>
   replace H := loop_succ H; unfold l0 at H; replace H := let_hid H; obtain ⟨_, rfl, H⟩ := H; replace H := let_hid H; obtain ⟨t_5, ht_5, H⟩ := H; replace H := join_hid H
   cases t_5 with
   | false =>
    replace H := ite_f H; replace H := app_hid H; replace H := ite_f H; replace H := app_hid H; unfold e0 at H; replace H := let_hid H; obtain ⟨_, rfl, H⟩ := H; replace H := let_hid H; obtain ⟨t_85, a13, H⟩ := H; obtain rfl := ret_hid H; go_wp2_with fail; go_ret; exact ⟨rfl, p10.out⟩
   | true =>
    replace H := ite_t H; replace H := let_hid H; obtain ⟨t_8, ht_8, H⟩ := H; replace H := app_hid H
    cases t_8 with
    | false =>
     replace H := ite_f H; replace H := app_hid H; unfold e0 at H; replace H := let_hid H; obtain ⟨_, rfl, H⟩ := H; replace H := let_hid H; obtain ⟨t_85, a13, H⟩ := H; obtain rfl := ret_hid H; go_wp2_with fail; go_ret; exact ⟨rfl, p10.out⟩
    | true =>
     replace H := ite_t H; go_wp2_with fail; replace H := idx_hid H; obtain ⟨q10, o12, m13, f12, z10, H⟩ := H; subst m13; have q13 : q10 < list.length := (by have := of_decide_eq_true ht_5; omega); have f14 : q10 ≤ 16 := (by have := of_decide_eq_true ht_8; omega); obtain ⟨g11, b11, a11, e11, f11⟩ := o12; replace H := unRate_hid H; obtain ⟨h14, l14, y13, q12, o11, a10, d10, c10, e10, b10⟩ := ORate.at_ M0.out f12; obtain rfl := Option.some.inj (z10.out.symm.trans o11); subst q12; have g14 := cell_lt a10; replace a10 := cell_below p10.out a10; replace d10 := cell_below p10.out d10; replace c10 := cell_below p10.out c10; replace e10 := cell_below p10.out e10; replace b10 := cell_below p10.out b10; clear o11; have o14 : (0 : Int) ≤ (q10 : Int) := (by omega); have e14 : (q10 : Int) < ((list.length : Nat) : Int) := (by omega); have j14 : ((q10 : Int)).toNat = q10 := (by omega); have o10 := Lib.hid a10; replace a10 := cell_regrown a10; have n10 := Lib.hid d10; replace d10 := cell_regrown d10; have k10 := Lib.hid c10; replace c10 := cell_regrown c10; have l10 := Lib.hid e10; replace e10 := cell_regrown e10; have m10 := Lib.hid b10; replace b10 := cell_regrown b10; replace H := bind_hid H; obtain ⟨t_14, k12, H⟩ := H; have y10 : ∀ d os, Calls Try.prog 80 #[.agg #[.int .i64 g11, .int .i64 b11, .int .i64 a11, .int .i64 e11, .int .i64 f11]] (Go.Sort.grow (redrawn wr0 d) os) fun e w'' => e = .returned (.bool t_14) ∧ ∃ p : Regrown, w'' = Go.Sort.grow (redrawn wr0 p.d) p.os := fun d os => Calls.regrown_of (GsL8One.C ((PRate.Rate.mk g11 b11 a11 e11 f11))  _    k12)
     cases t_14 with
     | false =>
      replace H := let_hid H; obtain ⟨t_15, i11, H⟩ := H; obtain rfl : t_15 = true := i11.symm; replace H := join_hid H; replace H := ite_t H; replace H := app_hid H; refine wp_region_quiet_below (by kernel_rfl) (by kernel_rfl) ?_
      repeat (go_big_quiet_step (first | (go_at_call 80; exact y10 _ _)))
      refine wpQuiet_nil ?_; intro Y4 hY4; replace hY4 := below_class hY4; clear y10; replace a10 := o10.out; clear o10; replace d10 := n10.out; clear n10; replace c10 := k10.out; clear k10; replace e10 := l10.out; clear l10; replace b10 := m10.out; clear m10; have HBY4 := Lib.hid (Below.step p10.out hY4); replace a10 := cell_below hY4 a10; replace d10 := cell_below hY4 d10; replace c10 := cell_below hY4 c10; replace e10 := cell_below hY4 e10; replace b10 := cell_below hY4 b10; clear hY4; replace H := ite_t H; obtain rfl := ret_hid H; go_wp2_with fail; go_ret; exact ⟨rfl, HBY4.out⟩
     | true =>
      replace H := let_hid H; obtain ⟨t_15, i11, H⟩ := H; obtain rfl : t_15 = false := i11.symm; replace H := join_hid H; replace H := ite_f H; replace H := let_hid H; obtain ⟨t_18, d11, H⟩ := H; replace H := join_hid H
      cases t_18 with
      | false =>
       have b13 : ¬ (0 < q10) := (by have := of_decide_eq_false d11; omega); replace H := ite_f H; replace H := app_hid H; replace H := app_hid H; refine wp_region_quiet_below (by kernel_rfl) (by kernel_rfl) ?_
       repeat (go_big_quiet_step (first | (go_at_call 80; exact y10 _ _)))
       refine wpQuiet_nil ?_; intro Y4 hY4; replace hY4 := below_class hY4; clear y10; replace a10 := o10.out; clear o10; replace d10 := n10.out; clear n10; replace c10 := k10.out; clear k10; replace e10 := l10.out; clear l10; replace b10 := m10.out; clear m10; have HBY4 := Lib.hid (Below.step p10.out hY4); replace a10 := cell_below hY4 a10; replace d10 := cell_below hY4 d10; replace c10 := cell_below hY4 c10; replace e10 := cell_below hY4 e10; replace b10 := cell_below hY4 b10; clear hY4; replace H := ite_f H; go_wp2_with fail; have o10 := Lib.hid a10; replace a10 := cell_regrown a10; have n10 := Lib.hid d10; replace d10 := cell_regrown d10; have k10 := Lib.hid c10; replace c10 := cell_regrown c10; have l10 := Lib.hid e10; replace e10 := cell_regrown e10; have m10 := Lib.hid b10; replace b10 := cell_regrown b10; replace H := let_hid H; obtain ⟨t_36, j11, H⟩ := H; obtain rfl := d11.symm.trans j11; replace H := join_hid H; replace H := ite_f H; replace H := app_hid H; replace H := join_hid H; replace H := ite_f H; replace H := app_hid H; replace H := join_hid H; replace H := ite_f H; replace H := app_hid H; refine wp_region_quiet_below (by kernel_rfl) (by kernel_rfl) ?_
       repeat (go_big_quiet_step (fail))
       refine wpQuiet_nil ?_; intro Y6 hY6; replace hY6 := below_class hY6; replace a10 := o10.out; clear o10; replace d10 := n10.out; clear n10; replace c10 := k10.out; clear k10; replace e10 := l10.out; clear l10; replace b10 := m10.out; clear m10; have HBY6 := Lib.hid (Below.step HBY4.out hY6); replace a10 := cell_below hY6 a10; replace d10 := cell_below hY6 d10; replace c10 := cell_below hY6 c10; replace e10 := cell_below hY6 e10; replace b10 := cell_below hY6 b10; clear hY6; replace H := ite_f H; replace H := let_hid H; obtain ⟨t_81, h11, H⟩ := H; replace H := app_hid H; go_wp2_with fail
       go_roundg m0
       case measure => omega
       case rel => exact ⟨_, rfl, H, HBY6⟩
      | true =>
       have b13 : 0 < q10 := (by have := of_decide_eq_true d11; omega); replace H := ite_t H; replace H := let_hid H; obtain ⟨t_22, m11, H⟩ := H; replace H := idx_hid H; obtain ⟨x10, l12, x12, j13, c11, H⟩ := H; subst x12; obtain ⟨y11, a12, w11, q11, b12⟩ := l12; replace H := unRate_hid H; obtain ⟨d14, x13, r13, s11, t11, f10, g10, i10, j10, h10⟩ := ORate.at_ M0.out j13; obtain rfl := Option.some.inj (c11.out.symm.trans t11); simp only [Option.some.injEq, Addr.mk.injEq] at s11; obtain ⟨rfl, rfl, _⟩ := s11; have p14 := cell_lt f10; replace f10 := cell_below p10.out f10; replace g10 := cell_below p10.out g10; replace i10 := cell_below p10.out i10; replace j10 := cell_below p10.out j10; replace h10 := cell_below p10.out h10; clear t11; have s13 : (0 : Int) ≤ (x10 : Int) := (by omega); have a14 : (x10 : Int) < ((list.length : Nat) : Int) := (by omega); have k14 : ((x10 : Int)).toNat = x10 := (by omega); have r10 := Lib.hid f10; replace f10 := cell_regrown f10; have s10 := Lib.hid g10; replace g10 := cell_regrown g10; have t10 := Lib.hid i10; replace i10 := cell_regrown i10; have v10 := Lib.hid j10; replace j10 := cell_regrown j10; have w10 := Lib.hid h10; replace h10 := cell_regrown h10; replace H := bind_hid H; obtain ⟨t_25, l13, H⟩ := H; have l11 : ∀ d os, Calls Try.prog 81 #[.agg #[.int .i64 y11, .int .i64 a12, .int .i64 w11, .int .i64 q11, .int .i64 b12]] (Go.Sort.grow (redrawn wr0 d) os) fun e w'' => e = .returned (.int .i64 t_25) ∧ ∃ p : Regrown, w'' = Go.Sort.grow (redrawn wr0 p.d) p.os := fun d os => Calls.regrown_of (GsL8Code.C ((PRate.Rate.mk y11 a12 w11 q11 b12))  _    l13); replace H := idx_hid H; obtain ⟨i13, c14, d13, h13, x11, H⟩ := H; obtain rfl : q10 = i13 := (by omega); clear d13; obtain rfl := Option.some.inj (z10.out.symm.trans x11.out); clear x11 h13; replace H := unRate_hid H; replace H := bind_hid H; obtain ⟨t_30, t12, H⟩ := H; have k11 : ∀ d os, Calls Try.prog 81 #[.agg #[.int .i64 g11, .int .i64 b11, .int .i64 a11, .int .i64 e11, .int .i64 f11]] (Go.Sort.grow (redrawn wr0 d) os) fun e w'' => e = .returned (.int .i64 t_30) ∧ ∃ p : Regrown, w'' = Go.Sort.grow (redrawn wr0 p.d) p.os := fun d os => Calls.regrown_of (GsL8Code.C ((PRate.Rate.mk g11 b11 a11 e11 f11))  _    t12); replace H := let_hid H; obtain ⟨t_31, m14, H⟩ := H; replace H := app_hid H; replace H := app_hid H; refine wp_region_quiet_below (by kernel_rfl) (by kernel_rfl) ?_
       repeat (go_big_quiet_step (first | (go_at_call 81; with_reducible exact l11 _ _) | (go_at_call 81; with_reducible exact k11 _ _) | (go_at_call 80; exact y10 _ _) | (go_at_call 81; exact l11 _ _) | (go_at_call 81; exact k11 _ _)))
       refine wpQuiet_nil ?_; intro Y4 hY4; replace hY4 := below_class hY4; clear y10 l11 k11; replace a10 := o10.out; clear o10; replace d10 := n10.out; clear n10; replace c10 := k10.out; clear k10; replace e10 := l10.out; clear l10; replace b10 := m10.out; clear m10; replace f10 := r10.out; clear r10; replace g10 := s10.out; clear s10; replace i10 := t10.out; clear t10; replace j10 := v10.out; clear v10; replace h10 := w10.out; clear w10; have HBY4 := Lib.hid (Below.step p10.out hY4); replace a10 := cell_below hY4 a10; replace d10 := cell_below hY4 d10; replace c10 := cell_below hY4 c10; replace e10 := cell_below hY4 e10; replace b10 := cell_below hY4 b10; replace f10 := cell_below hY4 f10; replace g10 := cell_below hY4 g10; replace i10 := cell_below hY4 i10; replace j10 := cell_below hY4 j10; replace h10 := cell_below hY4 h10; clear hY4
       cases t_31 with
       | false =>
        replace H := ite_f H; go_wp2_with fail; have o10 := Lib.hid a10; replace a10 := cell_regrown a10; have n10 := Lib.hid d10; replace d10 := cell_regrown d10; have k10 := Lib.hid c10; replace c10 := cell_regrown c10; have l10 := Lib.hid e10; replace e10 := cell_regrown e10; have m10 := Lib.hid b10; replace b10 := cell_regrown b10; have r10 := Lib.hid f10; replace f10 := cell_regrown f10; have s10 := Lib.hid g10; replace g10 := cell_regrown g10; have t10 := Lib.hid i10; replace i10 := cell_regrown i10; have v10 := Lib.hid j10; replace j10 := cell_regrown j10; have w10 := Lib.hid h10; replace h10 := cell_regrown h10; replace H := let_hid H; obtain ⟨t_36, j11, H⟩ := H; obtain rfl := d11.symm.trans j11; replace H := join_hid H; replace H := ite_t H; replace H := let_hid H; obtain ⟨t_40, w12, H⟩ := H; obtain rfl := m11.symm.trans w12; replace H := idx_hid H; obtain ⟨e13, i14, g12, h12, r11, H⟩ := H; obtain rfl : x10 = e13 := (by omega); clear g12; obtain rfl := Option.some.inj (c11.out.symm.trans r11.out); clear r11 h12; replace H := unRate_hid H; replace H := idx_hid H; obtain ⟨n12, b14, c13, j12, v11, H⟩ := H; obtain rfl : q10 = n12 := (by omega); clear c13; obtain rfl := Option.some.inj (z10.out.symm.trans v11.out); clear v11 j12; replace H := unRate_hid H; replace H := let_hid H; obtain ⟨t_49, t13, H⟩ := H; replace H := app_hid H; replace H := join_hid H
        cases t_49 with
        | false =>
         replace H := ite_f H; replace H := app_hid H; replace H := join_hid H; replace H := ite_f H; replace H := app_hid H; refine wp_region_quiet_below (by kernel_rfl) (by kernel_rfl) ?_
         repeat (go_big_quiet_step (fail))
         refine wpQuiet_nil ?_; intro Y6 hY6; replace hY6 := below_class hY6; replace a10 := o10.out; clear o10; replace d10 := n10.out; clear n10; replace c10 := k10.out; clear k10; replace e10 := l10.out; clear l10; replace b10 := m10.out; clear m10; replace f10 := r10.out; clear r10; replace g10 := s10.out; clear s10; replace i10 := t10.out; clear t10; replace j10 := v10.out; clear v10; replace h10 := w10.out; clear w10; have HBY6 := Lib.hid (Below.step HBY4.out hY6); replace a10 := cell_below hY6 a10; replace d10 := cell_below hY6 d10; replace c10 := cell_below hY6 c10; replace e10 := cell_below hY6 e10; replace b10 := cell_below hY6 b10; replace f10 := cell_below hY6 f10; replace g10 := cell_below hY6 g10; replace i10 := cell_below hY6 i10; replace j10 := cell_below hY6 j10; replace h10 := cell_below hY6 h10; clear hY6; replace H := ite_f H; replace H := let_hid H; obtain ⟨t_81, h11, H⟩ := H; replace H := app_hid H; go_wp2_with fail
         go_roundg m0
         case measure => omega
         case rel => exact ⟨_, rfl, H, HBY6⟩
        | true =>
         replace H := ite_t H; replace H := let_hid H; obtain ⟨t_54, r12, H⟩ := H; obtain rfl := m11.symm.trans r12; replace H := idx_hid H; obtain ⟨p12, p13, y12, m12, d12, H⟩ := H; obtain rfl : x10 = p12 := (by omega); clear y12; obtain rfl := Option.some.inj (c11.out.symm.trans d12.out); clear d12 m12; replace H := unRate_hid H; replace H := idx_hid H; obtain ⟨k13, w13, z12, v12, p11, H⟩ := H; obtain rfl : q10 = k13 := (by omega); clear z12; obtain rfl := Option.some.inj (z10.out.symm.trans p11.out); clear p11 v12; replace H := unRate_hid H; replace H := let_hid H; obtain ⟨t_63, n14, H⟩ := H; replace H := app_hid H; replace H := join_hid H
         cases t_63 with
         | false =>
          replace H := ite_f H; replace H := app_hid H; refine wp_region_quiet_below (by kernel_rfl) (by kernel_rfl) ?_
          repeat (go_big_quiet_step (fail))
          refine wpQuiet_nil ?_; intro Y6 hY6; replace hY6 := below_class hY6; replace a10 := o10.out; clear o10; replace d10 := n10.out; clear n10; replace c10 := k10.out; clear k10; replace e10 := l10.out; clear l10; replace b10 := m10.out; clear m10; replace f10 := r10.out; clear r10; replace g10 := s10.out; clear s10; replace i10 := t10.out; clear t10; replace j10 := v10.out; clear v10; replace h10 := w10.out; clear w10; have HBY6 := Lib.hid (Below.step HBY4.out hY6); replace a10 := cell_below hY6 a10; replace d10 := cell_below hY6 d10; replace c10 := cell_below hY6 c10; replace e10 := cell_below hY6 e10; replace b10 := cell_below hY6 b10; replace f10 := cell_below hY6 f10; replace g10 := cell_below hY6 g10; replace i10 := cell_below hY6 i10; replace j10 := cell_below hY6 j10; replace h10 := cell_below hY6 h10; clear hY6; replace H := ite_f H; replace H := let_hid H; obtain ⟨t_81, h11, H⟩ := H; replace H := app_hid H; go_wp2_with fail
          go_roundg m0
          case measure => omega
          case rel => exact ⟨_, rfl, H, HBY6⟩
         | true =>
          replace H := ite_t H; replace H := let_hid H; obtain ⟨t_68, n13, H⟩ := H; obtain rfl := m11.symm.trans n13; replace H := idx_hid H; obtain ⟨o13, z13, f13, s12, c12, H⟩ := H; obtain rfl : x10 = o13 := (by omega); clear f13; obtain rfl := Option.some.inj (c11.out.symm.trans c12.out); clear c12 s12; replace H := unRate_hid H; replace H := idx_hid H; obtain ⟨e12, q14, i12, g13, z11, H⟩ := H; obtain rfl : q10 = e12 := (by omega); clear i12; obtain rfl := Option.some.inj (z10.out.symm.trans z11.out); clear z11 g13; replace H := unRate_hid H; replace H := let_hid H; obtain ⟨t_77, v13, H⟩ := H; replace H := app_hid H; refine wp_region_quiet_below (by kernel_rfl) (by kernel_rfl) ?_
          repeat (go_big_quiet_step (fail))
          refine wpQuiet_nil ?_; intro Y6 hY6; replace hY6 := below_class hY6; replace a10 := o10.out; clear o10; replace d10 := n10.out; clear n10; replace c10 := k10.out; clear k10; replace e10 := l10.out; clear l10; replace b10 := m10.out; clear m10; replace f10 := r10.out; clear r10; replace g10 := s10.out; clear s10; replace i10 := t10.out; clear t10; replace j10 := v10.out; clear v10; replace h10 := w10.out; clear w10; have HBY6 := Lib.hid (Below.step HBY4.out hY6); replace a10 := cell_below hY6 a10; replace d10 := cell_below hY6 d10; replace c10 := cell_below hY6 c10; replace e10 := cell_below hY6 e10; replace b10 := cell_below hY6 b10; replace f10 := cell_below hY6 f10; replace g10 := cell_below hY6 g10; replace i10 := cell_below hY6 i10; replace j10 := cell_below hY6 j10; replace h10 := cell_below hY6 h10; clear hY6
          cases t_77 with
          | false =>
           replace H := ite_f H; replace H := let_hid H; obtain ⟨t_81, h11, H⟩ := H; replace H := app_hid H; go_wp2_with fail
           go_roundg m0
           case measure => omega
           case rel => exact ⟨_, rfl, H, HBY6⟩
          | true =>
           replace H := ite_t H; obtain rfl := ret_hid H; go_wp2_with fail; go_ret; exact ⟨rfl, HBY6.out⟩
       | true =>
        replace H := ite_t H; obtain rfl := ret_hid H; go_wp2_with fail; go_ret; exact ⟨rfl, HBY4.out⟩
end Go.Proofs.Ytgbcdmlcmnaimaa.GsL8Good

namespace Go.Proofs.Ytgbcdmlcmnaimaa.GsL9Good
open Go.RowKit
open Go.Proofs.Ytgbcdmlcmnaimaa.Rowed Go.Proofs.Ytgbcdmlcmnaimaa.Turn Go.Proofs.Ytgbcdmlcmnaimaa.Aid Go.Proofs.Ytgbcdmlcmnaimaa.GoP Go.Proofs.Ytgbcdmlcmnaimaa.GoM

def l0 (list : (List PMail.Mail)) (k0 : Nat) (s : Unit) (nx0 bk0 : Unit → Option (Bool)) : Option (Bool) :=
 
 Option.bind (idx list (k0 : Int)) fun (yt_8 : PMail.Mail) =>
 unMail yt_8 fun (t_8_leave : Int) (t_8_from_ : Int) (t_8_to_ : Int) (t_8_arrive : Int) =>
 Option.bind (GsL9One.P (PMail.Mail.mk t_8_leave t_8_from_ t_8_to_ t_8_arrive)) fun (t_10 : Bool) =>
 letK (!t_10) fun (t_11 : Bool) =>
 joinK (fun (t_29 : Bool) =>
 iteK t_29
 (some false)
 (appK nx0 ())) fun jt_29 => iteK t_11 (appK jt_29 true) (letK (decide (0 < (k0 : Int))) fun (t_14 : Bool) =>
 joinK (fun (t_28 : Bool) =>
 appK jt_29 t_28) fun jt_28 => iteK t_14 (letK (IntKind.i64.wrap ((k0 : Int) - 1)) fun (t_18 : Int) =>
 Option.bind (idx list t_18) fun (yt_19 : PMail.Mail) =>
 unMail yt_19 fun (t_19_leave : Int) (t_19_from_ : Int) (t_19_to_ : Int) (t_19_arrive : Int) =>
 Option.bind (GsL9Code.P (PMail.Mail.mk t_19_leave t_19_from_ t_19_to_ t_19_arrive)) fun (t_21 : Int) =>
 Option.bind (idx list (k0 : Int)) fun (yt_24 : PMail.Mail) =>
 unMail yt_24 fun (t_24_leave : Int) (t_24_from_ : Int) (t_24_to_ : Int) (t_24_arrive : Int) =>
 Option.bind (GsL9Code.P (PMail.Mail.mk t_24_leave t_24_from_ t_24_to_ t_24_arrive)) fun (t_26 : Int) =>
 letK (decide (t_26 ≤ t_21)) fun (t_27 : Bool) =>
 appK jt_28 t_27) (appK jt_28 false))

def e0 (list : (List PMail.Mail)) (s : Unit) : Option (Bool) :=
 
 letK (decide ((list.length : Int) ≤ 20)) fun (t_36 : Bool) =>
 some t_36

def P (list : (List PMail.Mail)) : Option (Bool) :=
 cntK (l0 list) (list.length) 0 () (e0 list)

set_option maxRecDepth 100000 in
set_option maxHeartbeats 2000000 in
theorem C (list : (List PMail.Mail)) (A0 : Option Addr) (c0 : Nat)  (w : World) (M0 : Hid (Cells w 4 A0 list.length (PMail.flat list))) (N0 : Hid (list.length ≤ 9223372036854775807))  {r : Bool} (H : Hid (P list = some r)) :
  Calls Try.prog 40 #[.slice A0 list.length c0] w (Gives (.bool r) w) := by
 have HB := Lib.hid (Below.refl w.heap.size w); unfold P at H; have N0o := N0.out
 go_enter Try.func40, Try.ntmps40
 go_wp2_with fail; go_loopg [3] (list.length) (fun m_ v3_ wr => ∃ (k0 : Nat) , k0 + m_ = list.length ∧ v3_ = .int .i64 (k0 : Int) ∧ Hid (cntK (l0 list) m_ k0 () (e0 list) = some r) ∧ Hid (Below w.heap.size w wr))
 case atStart => exact ⟨0, by omega, rfl, H, HB⟩
 case round =>
  obtain ⟨k0, hkm0, rfl, H, e10⟩ := hrel; rename World => wr0
  cases gk with
  | zero =>
   obtain rfl : k0 = list.length := (by omega); have hc0 : decide (((list.length : Nat) : Int) < ((list.length : Nat) : Int)) = false := (by simp); replace H := cnt_zero H; unfold e0 at H; replace H := let_hid H; obtain ⟨t_36, k12, H⟩ := H; obtain rfl := ret_hid H; go_wp2_with fail; go_ret; exact ⟨rfl, e10.out⟩
  | succ m0 =>
   have hlt0 : k0 < list.length := (by omega); have hc0 : decide ((k0 : Int) < ((list.length : Nat) : Int)) = true := (by simp; omega); replace H := cnt_succ H; unfold l0 at H; go_wp2_with fail; replace H := idx_hid H; obtain ⟨nt_8, yt_8, et_8, lt_8, gt_8, H⟩ := H; obtain rfl : k0 = nt_8 := (by omega); clear et_8; obtain ⟨s10, q10, p10, o10⟩ := yt_8; replace H := unMail_hid H; obtain ⟨c12, j12, zt_8, At_8, z10, a10, d10, c10, b10⟩ := OMail.at_ M0.out lt_8; obtain rfl := Option.some.inj (gt_8.out.symm.trans z10); subst At_8; have a12 := cell_lt a10; replace a10 := cell_below e10.out a10; replace d10 := cell_below e10.out d10; replace c10 := cell_below e10.out c10; replace b10 := cell_below e10.out b10; clear z10; have b12 : (0 : Int) ≤ (k0 : Int) := (by omega); have h12 : (k0 : Int) < ((list.length : Nat) : Int) := (by omega); have f12 : ((k0 : Int)).toNat = k0 := (by omega); have n10 := Lib.hid a10; replace a10 := cell_regrown a10; have l10 := Lib.hid d10; replace d10 := cell_regrown d10; have m10 := Lib.hid c10; replace c10 := cell_regrown c10; have j10 := Lib.hid b10; replace b10 := cell_regrown b10; replace H := bind_hid H; obtain ⟨t_10, k11, H⟩ := H; have k10 : ∀ d os, Calls Try.prog 78 #[.agg #[.int .i64 s10, .int .i64 q10, .int .i64 p10, .int .i64 o10]] (Go.Sort.grow (redrawn wr0 d) os) fun e w'' => e = .returned (.bool t_10) ∧ ∃ p : Regrown, w'' = Go.Sort.grow (redrawn wr0 p.d) p.os := fun d os => Calls.regrown_of (GsL9One.C ((PMail.Mail.mk s10 q10 p10 o10))  _    k11)
   cases t_10 with
   | false =>
    replace H := let_hid H; obtain ⟨t_11, v10, H⟩ := H; obtain rfl : t_11 = true := v10.symm; replace H := join_hid H; replace H := ite_t H; replace H := app_hid H; refine wp_region_quiet_below (by kernel_rfl) (by kernel_rfl) ?_
    repeat (go_big_quiet_step (first | (go_at_call 78; exact k10 _ _)))
    refine wpQuiet_nil ?_; intro Y4 hY4; replace hY4 := below_class hY4; clear k10; replace a10 := n10.out; clear n10; replace d10 := l10.out; clear l10; replace c10 := m10.out; clear m10; replace b10 := j10.out; clear j10; have HBY4 := Lib.hid (Below.step e10.out hY4); replace a10 := cell_below hY4 a10; replace d10 := cell_below hY4 d10; replace c10 := cell_below hY4 c10; replace b10 := cell_below hY4 b10; clear hY4; replace H := ite_t H; obtain rfl := ret_hid H; go_wp2_with fail; go_ret; exact ⟨rfl, HBY4.out⟩
   | true =>
    replace H := let_hid H; obtain ⟨t_11, v10, H⟩ := H; obtain rfl : t_11 = false := v10.symm; replace H := join_hid H; replace H := ite_f H; replace H := let_hid H; obtain ⟨t_14, d11, H⟩ := H; replace H := join_hid H
    cases t_14 with
    | false =>
     have n11 : ¬ (0 < k0) := (by have := of_decide_eq_false d11; omega); replace H := ite_f H; replace H := app_hid H; replace H := app_hid H; refine wp_region_quiet_below (by kernel_rfl) (by kernel_rfl) ?_
     repeat (go_big_quiet_step (first | (go_at_call 78; exact k10 _ _)))
     refine wpQuiet_nil ?_; intro Y4 hY4; replace hY4 := below_class hY4; clear k10; replace a10 := n10.out; clear n10; replace d10 := l10.out; clear l10; replace c10 := m10.out; clear m10; replace b10 := j10.out; clear j10; have HBY4 := Lib.hid (Below.step e10.out hY4); replace a10 := cell_below hY4 a10; replace d10 := cell_below hY4 d10; replace c10 := cell_below hY4 c10; replace b10 := cell_below hY4 b10; clear hY4; replace H := ite_f H; replace H := app_hid H; go_wp2_with fail
     go_roundg m0
     case measure => omega
     case rel => exact ⟨k0 + 1, by omega, by go_num, H, HBY4⟩
    | true =>
     have n11 : 0 < k0 := (by have := of_decide_eq_true d11; omega); replace H := ite_t H; replace H := let_hid H; obtain ⟨t_18, y11, H⟩ := H; replace H := idx_hid H; obtain ⟨r10, p11, q11, l11, t11, H⟩ := H; subst q11; obtain ⟨f11, x10, b11, g11⟩ := p11; replace H := unMail_hid H; obtain ⟨i12, d12, m12, a11, j11, f10, g10, i10, h10⟩ := OMail.at_ M0.out l11; obtain rfl := Option.some.inj (t11.out.symm.trans j11); simp only [Option.some.injEq, Addr.mk.injEq] at a11; obtain ⟨rfl, rfl, _⟩ := a11; have z11 := cell_lt f10; replace f10 := cell_below e10.out f10; replace g10 := cell_below e10.out g10; replace i10 := cell_below e10.out i10; replace h10 := cell_below e10.out h10; clear j11; have x11 : (0 : Int) ≤ (r10 : Int) := (by omega); have g12 : (r10 : Int) < ((list.length : Nat) : Int) := (by omega); have e12 : ((r10 : Int)).toNat = r10 := (by omega); have e11 := Lib.hid f10; replace f10 := cell_regrown f10; have c11 := Lib.hid g10; replace g10 := cell_regrown g10; have h11 := Lib.hid i10; replace i10 := cell_regrown i10; have y10 := Lib.hid h10; replace h10 := cell_regrown h10; replace H := bind_hid H; obtain ⟨t_21, s11, H⟩ := H; have w10 : ∀ d os, Calls Try.prog 79 #[.agg #[.int .i64 f11, .int .i64 x10, .int .i64 b11, .int .i64 g11]] (Go.Sort.grow (redrawn wr0 d) os) fun e w'' => e = .returned (.int .i64 t_21) ∧ ∃ p : Regrown, w'' = Go.Sort.grow (redrawn wr0 p.d) p.os := fun d os => Calls.regrown_of (GsL9Code.C ((PMail.Mail.mk f11 x10 b11 g11))  _    s11); replace H := idx_hid H; obtain ⟨r11, l12, m11, v11, i11, H⟩ := H; obtain rfl : k0 = r11 := (by omega); clear m11; obtain rfl := Option.some.inj (gt_8.out.symm.trans i11.out); clear i11 v11; replace H := unMail_hid H; replace H := bind_hid H; obtain ⟨t_26, o11, H⟩ := H; have t10 : ∀ d os, Calls Try.prog 79 #[.agg #[.int .i64 s10, .int .i64 q10, .int .i64 p10, .int .i64 o10]] (Go.Sort.grow (redrawn wr0 d) os) fun e w'' => e = .returned (.int .i64 t_26) ∧ ∃ p : Regrown, w'' = Go.Sort.grow (redrawn wr0 p.d) p.os := fun d os => Calls.regrown_of (GsL9Code.C ((PMail.Mail.mk s10 q10 p10 o10))  _    o11); replace H := let_hid H; obtain ⟨t_27, w11, H⟩ := H; replace H := app_hid H; replace H := app_hid H; refine wp_region_quiet_below (by kernel_rfl) (by kernel_rfl) ?_
     repeat (go_big_quiet_step (first | (go_at_call 79; with_reducible exact w10 _ _) | (go_at_call 79; with_reducible exact t10 _ _) | (go_at_call 78; exact k10 _ _) | (go_at_call 79; exact w10 _ _) | (go_at_call 79; exact t10 _ _)))
     refine wpQuiet_nil ?_; intro Y4 hY4; replace hY4 := below_class hY4; clear k10 w10 t10; replace a10 := n10.out; clear n10; replace d10 := l10.out; clear l10; replace c10 := m10.out; clear m10; replace b10 := j10.out; clear j10; replace f10 := e11.out; clear e11; replace g10 := c11.out; clear c11; replace i10 := h11.out; clear h11; replace h10 := y10.out; clear y10; have HBY4 := Lib.hid (Below.step e10.out hY4); replace a10 := cell_below hY4 a10; replace d10 := cell_below hY4 d10; replace c10 := cell_below hY4 c10; replace b10 := cell_below hY4 b10; replace f10 := cell_below hY4 f10; replace g10 := cell_below hY4 g10; replace i10 := cell_below hY4 i10; replace h10 := cell_below hY4 h10; clear hY4
     cases t_27 with
     | false =>
      replace H := ite_f H; replace H := app_hid H; go_wp2_with fail
      go_roundg m0
      case measure => omega
      case rel => exact ⟨k0 + 1, by omega, by go_num, H, HBY4⟩
     | true =>
      replace H := ite_t H; obtain rfl := ret_hid H; go_wp2_with fail; go_ret; exact ⟨rfl, HBY4.out⟩
end Go.Proofs.Ytgbcdmlcmnaimaa.GsL9Good

namespace Go.Proofs.Ytgbcdmlcmnaimaa.GsL10One
open Go.RowKit
open Go.Proofs.Ytgbcdmlcmnaimaa.Rowed Go.Proofs.Ytgbcdmlcmnaimaa.Turn Go.Proofs.Ytgbcdmlcmnaimaa.Aid Go.Proofs.Ytgbcdmlcmnaimaa.GoP Go.Proofs.Ytgbcdmlcmnaimaa.GoM

def P (x : PCover.Cover) : Option (Bool) :=
 unCover x fun (x_id : Int) (x_day : Int) (x_zone : Int) (x_grams : Int) (x_paid : Int) (x_from_ : Int) (x_to_ : Int) (x_leave : Int) (x_arrive : Int) =>
 Option.bind (GsL1In.P x_id 1 999) fun (t_4 : Bool) =>
 letK (!t_4) fun (t_5 : Bool) =>
 joinK (fun (t_11 : Bool) =>
 joinK (fun (t_17 : Bool) =>
 joinK (fun (t_23 : Bool) =>
 joinK (fun (t_29 : Bool) =>
 iteK t_29
 (some false)
 (Option.bind (GsL9Office.P x_from_) fun (t_33 : Bool) =>
 joinK (fun (t_38 : Bool) =>
 joinK (fun (t_45 : Bool) =>
 joinK (fun (t_50 : Bool) =>
 joinK (fun (t_57 : Bool) =>
 some t_57) fun jt_57 => iteK t_50 (Option.bind (GsL1In.P x_leave 0 x_arrive) fun (t_56 : Bool) =>
 appK jt_57 t_56) (appK jt_57 false)) fun jt_50 => iteK t_45 (Option.bind (GsL9Minute.P x_arrive) fun (t_49 : Bool) =>
 appK jt_50 t_49) (appK jt_50 false)) fun jt_45 => iteK t_38 (letK (x_from_ != x_to_) fun (t_44 : Bool) =>
 appK jt_45 t_44) (appK jt_45 false)) fun jt_38 => iteK t_33 (Option.bind (GsL9Office.P x_to_) fun (t_37 : Bool) =>
 appK jt_38 t_37) (appK jt_38 false))) fun jt_29 => iteK t_23 (appK jt_29 true) (Option.bind (GsL8Cents.P x_paid) fun (t_27 : Bool) =>
 letK (!t_27) fun (t_28 : Bool) =>
 appK jt_29 t_28)) fun jt_23 => iteK t_17 (appK jt_23 true) (Option.bind (GsL8Grams.P x_grams) fun (t_21 : Bool) =>
 letK (!t_21) fun (t_22 : Bool) =>
 appK jt_23 t_22)) fun jt_17 => iteK t_11 (appK jt_17 true) (Option.bind (GsL8Zone.P x_zone) fun (t_15 : Bool) =>
 letK (!t_15) fun (t_16 : Bool) =>
 appK jt_17 t_16)) fun jt_11 => iteK t_5 (appK jt_11 true) (Option.bind (GsL2Day.P x_day) fun (t_9 : Bool) =>
 letK (!t_9) fun (t_10 : Bool) =>
 appK jt_11 t_10)

set_option maxRecDepth 100000 in
set_option maxHeartbeats 2000000 in
theorem C (x : PCover.Cover)   (w : World)   {r : Bool} (H : Hid (P x = some r)) :
  Calls Try.prog 41 #[x.val] w (Gives (.bool r) w) := by
 have HB := Lib.hid (Below.refl w.heap.size w); unfold P at H; obtain ⟨x_id, x_day, x_zone, x_grams, x_paid, x_from_, x_to_, x_leave, x_arrive⟩ := x; replace H := unCover_hid H; unfold PCover.Cover.val
 go_enter Try.func41, Try.ntmps41
 obtain ⟨q10, r10⟩ : ∃ x, w.alloc (.cells #[.int .i64 x_id, .int .i64 x_day, .int .i64 x_zone, .int .i64 x_grams, .int .i64 x_paid, .int .i64 x_from_, .int .i64 x_to_, .int .i64 x_leave, .int .i64 x_arrive] 27) = x := ⟨_, rfl⟩; have z10 : Below w.heap.size w q10 := (by rw [← r10]; exact (Below.refl _ _).alloc (Nat.le_refl _) _); have j11 := Lib.hid (Below.step HB.out z10); clear z10; have c10 : q10.cell? ⟨w.heap.size, 0, none⟩ = some (.int .i64 x_id) := (by rw [← r10]; exact box_new _ _ _ 0 _ rfl); have f10 : q10.cell? ⟨w.heap.size, 1, none⟩ = some (.int .i64 x_day) := (by rw [← r10]; exact box_new _ _ _ 1 _ rfl); have a10 : q10.cell? ⟨w.heap.size, 2, none⟩ = some (.int .i64 x_zone) := (by rw [← r10]; exact box_new _ _ _ 2 _ rfl); have i10 : q10.cell? ⟨w.heap.size, 3, none⟩ = some (.int .i64 x_grams) := (by rw [← r10]; exact box_new _ _ _ 3 _ rfl); have g10 : q10.cell? ⟨w.heap.size, 4, none⟩ = some (.int .i64 x_paid) := (by rw [← r10]; exact box_new _ _ _ 4 _ rfl); have d10 : q10.cell? ⟨w.heap.size, 5, none⟩ = some (.int .i64 x_from_) := (by rw [← r10]; exact box_new _ _ _ 5 _ rfl); have h10 : q10.cell? ⟨w.heap.size, 6, none⟩ = some (.int .i64 x_to_) := (by rw [← r10]; exact box_new _ _ _ 6 _ rfl); have e10 : q10.cell? ⟨w.heap.size, 7, none⟩ = some (.int .i64 x_leave) := (by rw [← r10]; exact box_new _ _ _ 7 _ rfl); have b10 : q10.cell? ⟨w.heap.size, 8, none⟩ = some (.int .i64 x_arrive) := (by rw [← r10]; exact box_new _ _ _ 8 _ rfl); replace H := bind_hid H; obtain ⟨t_4, qt_4, H⟩ := H; go_wp2_with fail; go_at_call 64; refine (GsL1In.C (x_id) (1) (999)  _    qt_4).mono ?_; rintro d12 wt_4 ⟨rfl, bt_4⟩; have y10 := Lib.hid (Below.step j11.out bt_4); replace c10 := cell_below bt_4 c10; replace f10 := cell_below bt_4 f10; replace a10 := cell_below bt_4 a10; replace i10 := cell_below bt_4 i10; replace g10 := cell_below bt_4 g10; replace d10 := cell_below bt_4 d10; replace h10 := cell_below bt_4 h10; replace e10 := cell_below bt_4 e10; replace b10 := cell_below bt_4 b10; clear bt_4
 cases t_4 with
 | false =>
  replace H := let_hid H; obtain ⟨t_5, ht_5, H⟩ := H; obtain rfl : t_5 = true := ht_5.symm; replace H := join_hid H; replace H := ite_t H; replace H := app_hid H; replace H := join_hid H; replace H := ite_t H; replace H := app_hid H; replace H := join_hid H; replace H := ite_t H; replace H := app_hid H; replace H := join_hid H; replace H := ite_t H; replace H := app_hid H; replace H := ite_t H; obtain rfl := ret_hid H; go_wp2_with fail; go_ret; exact ⟨rfl, y10.out⟩
 | true =>
  replace H := let_hid H; obtain ⟨t_5, ht_5, H⟩ := H; obtain rfl : t_5 = false := ht_5.symm; replace H := join_hid H; replace H := ite_f H; replace H := bind_hid H; obtain ⟨t_9, qt_9, H⟩ := H; go_wp2_with fail; go_at_call 82; refine (GsL2Day.C (x_day)  _    qt_9).mono ?_; rintro g12 wt_9 ⟨rfl, bt_9⟩; have c11 := Lib.hid (Below.step y10.out bt_9); replace c10 := cell_below bt_9 c10; replace f10 := cell_below bt_9 f10; replace a10 := cell_below bt_9 a10; replace i10 := cell_below bt_9 i10; replace g10 := cell_below bt_9 g10; replace d10 := cell_below bt_9 d10; replace h10 := cell_below bt_9 h10; replace e10 := cell_below bt_9 e10; replace b10 := cell_below bt_9 b10; clear bt_9
  cases t_9 with
  | false =>
   replace H := let_hid H; obtain ⟨t_10, s10, H⟩ := H; obtain rfl : t_10 = true := s10.symm; replace H := app_hid H; replace H := join_hid H; replace H := ite_t H; replace H := app_hid H; replace H := join_hid H; replace H := ite_t H; replace H := app_hid H; replace H := join_hid H; replace H := ite_t H; replace H := app_hid H; replace H := ite_t H; obtain rfl := ret_hid H; go_wp2_with fail; go_ret; exact ⟨rfl, c11.out⟩
  | true =>
   replace H := let_hid H; obtain ⟨t_10, s10, H⟩ := H; obtain rfl : t_10 = false := s10.symm; replace H := app_hid H; replace H := join_hid H; replace H := ite_f H; replace H := bind_hid H; obtain ⟨t_15, l11, H⟩ := H; go_wp2_with fail; go_at_call 83; refine (GsL8Zone.C (x_zone)  _    l11).mono ?_; rintro e12 r11 ⟨rfl, k10⟩; have f11 := Lib.hid (Below.step c11.out k10); replace c10 := cell_below k10 c10; replace f10 := cell_below k10 f10; replace a10 := cell_below k10 a10; replace i10 := cell_below k10 i10; replace g10 := cell_below k10 g10; replace d10 := cell_below k10 d10; replace h10 := cell_below k10 h10; replace e10 := cell_below k10 e10; replace b10 := cell_below k10 b10; clear k10
   cases t_15 with
   | false =>
    replace H := let_hid H; obtain ⟨t_16, t10, H⟩ := H; obtain rfl : t_16 = true := t10.symm; replace H := app_hid H; replace H := join_hid H; replace H := ite_t H; replace H := app_hid H; replace H := join_hid H; replace H := ite_t H; replace H := app_hid H; replace H := ite_t H; obtain rfl := ret_hid H; go_wp2_with fail; go_ret; exact ⟨rfl, f11.out⟩
   | true =>
    replace H := let_hid H; obtain ⟨t_16, t10, H⟩ := H; obtain rfl : t_16 = false := t10.symm; replace H := app_hid H; replace H := join_hid H; replace H := ite_f H; replace H := bind_hid H; obtain ⟨t_21, n11, H⟩ := H; go_wp2_with fail; go_at_call 84; refine (GsL8Grams.C (x_grams)  _    n11).mono ?_; rintro b12 f12 ⟨rfl, l10⟩; have e11 := Lib.hid (Below.step f11.out l10); replace c10 := cell_below l10 c10; replace f10 := cell_below l10 f10; replace a10 := cell_below l10 a10; replace i10 := cell_below l10 i10; replace g10 := cell_below l10 g10; replace d10 := cell_below l10 d10; replace h10 := cell_below l10 h10; replace e10 := cell_below l10 e10; replace b10 := cell_below l10 b10; clear l10
    cases t_21 with
    | false =>
     replace H := let_hid H; obtain ⟨t_22, v10, H⟩ := H; obtain rfl : t_22 = true := v10.symm; replace H := app_hid H; replace H := join_hid H; replace H := ite_t H; replace H := app_hid H; replace H := ite_t H; obtain rfl := ret_hid H; go_wp2_with fail; go_ret; exact ⟨rfl, e11.out⟩
    | true =>
     replace H := let_hid H; obtain ⟨t_22, v10, H⟩ := H; obtain rfl : t_22 = false := v10.symm; replace H := app_hid H; replace H := join_hid H; replace H := ite_f H; replace H := bind_hid H; obtain ⟨t_27, g11, H⟩ := H; go_wp2_with fail; go_at_call 85; refine (GsL8Cents.C (x_paid)  _    g11).mono ?_; rintro p11 c12 ⟨rfl, m10⟩; have a11 := Lib.hid (Below.step e11.out m10); replace c10 := cell_below m10 c10; replace f10 := cell_below m10 f10; replace a10 := cell_below m10 a10; replace i10 := cell_below m10 i10; replace g10 := cell_below m10 g10; replace d10 := cell_below m10 d10; replace h10 := cell_below m10 h10; replace e10 := cell_below m10 e10; replace b10 := cell_below m10 b10; clear m10
     cases t_27 with
     | false =>
      replace H := let_hid H; obtain ⟨t_28, x10, H⟩ := H; obtain rfl : t_28 = true := x10.symm; replace H := app_hid H; replace H := ite_t H; obtain rfl := ret_hid H; go_wp2_with fail; go_ret; exact ⟨rfl, a11.out⟩
     | true =>
      replace H := let_hid H; obtain ⟨t_28, x10, H⟩ := H; obtain rfl : t_28 = false := x10.symm; replace H := app_hid H; replace H := ite_f H; replace H := bind_hid H; obtain ⟨t_33, m11, H⟩ := H; go_wp2_with fail; go_at_call 74; refine (GsL9Office.C (x_from_)  _    m11).mono ?_; rintro y11 w11 ⟨rfl, j10⟩; have b11 := Lib.hid (Below.step a11.out j10); replace c10 := cell_below j10 c10; replace f10 := cell_below j10 f10; replace a10 := cell_below j10 a10; replace i10 := cell_below j10 i10; replace g10 := cell_below j10 g10; replace d10 := cell_below j10 d10; replace h10 := cell_below j10 h10; replace e10 := cell_below j10 e10; replace b10 := cell_below j10 b10; clear j10; replace H := join_hid H
      cases t_33 with
      | false =>
       replace H := ite_f H; replace H := app_hid H; replace H := join_hid H; replace H := ite_f H; replace H := app_hid H; replace H := join_hid H; replace H := ite_f H; replace H := app_hid H; replace H := join_hid H; replace H := ite_f H; replace H := app_hid H; obtain rfl := ret_hid H; go_wp2_with fail; go_ret; exact ⟨rfl, b11.out⟩
      | true =>
       replace H := ite_t H; replace H := bind_hid H; obtain ⟨t_37, i11, H⟩ := H; go_wp2_with fail; go_at_call 74; refine (GsL9Office.C (x_to_)  _    i11).mono ?_; rintro q11 a12 ⟨rfl, n10⟩; have w10 := Lib.hid (Below.step b11.out n10); replace c10 := cell_below n10 c10; replace f10 := cell_below n10 f10; replace a10 := cell_below n10 a10; replace i10 := cell_below n10 i10; replace g10 := cell_below n10 g10; replace d10 := cell_below n10 d10; replace h10 := cell_below n10 h10; replace e10 := cell_below n10 e10; replace b10 := cell_below n10 b10; clear n10; replace H := app_hid H; replace H := join_hid H
       cases t_37 with
       | false =>
        replace H := ite_f H; replace H := app_hid H; replace H := join_hid H; replace H := ite_f H; replace H := app_hid H; replace H := join_hid H; replace H := ite_f H; replace H := app_hid H; obtain rfl := ret_hid H; go_wp2_with fail; go_ret; exact ⟨rfl, w10.out⟩
       | true =>
        replace H := ite_t H; replace H := let_hid H; obtain ⟨t_44, t11, H⟩ := H; replace H := app_hid H; replace H := join_hid H
        cases t_44 with
        | false =>
         replace H := ite_f H; replace H := app_hid H; replace H := join_hid H; replace H := ite_f H; replace H := app_hid H; obtain rfl := ret_hid H; go_wp2_with fail; go_ret; exact ⟨rfl, w10.out⟩
        | true =>
         replace H := ite_t H; replace H := bind_hid H; obtain ⟨t_49, h11, H⟩ := H; go_wp2_with fail; go_at_call 86; refine (GsL9Minute.C (x_arrive)  _    h11).mono ?_; rintro x11 s11 ⟨rfl, o10⟩; have d11 := Lib.hid (Below.step w10.out o10); replace c10 := cell_below o10 c10; replace f10 := cell_below o10 f10; replace a10 := cell_below o10 a10; replace i10 := cell_below o10 i10; replace g10 := cell_below o10 g10; replace d10 := cell_below o10 d10; replace h10 := cell_below o10 h10; replace e10 := cell_below o10 e10; replace b10 := cell_below o10 b10; clear o10; replace H := app_hid H; replace H := join_hid H
         cases t_49 with
         | false =>
          replace H := ite_f H; replace H := app_hid H; obtain rfl := ret_hid H; go_wp2_with fail; go_ret; exact ⟨rfl, d11.out⟩
         | true =>
          replace H := ite_t H; replace H := bind_hid H; obtain ⟨t_56, o11, H⟩ := H; go_wp2_with fail; go_at_call 64; refine (GsL1In.C (x_leave) (0) (x_arrive)  _    o11).mono ?_; rintro z11 v11 ⟨rfl, p10⟩; have k11 := Lib.hid (Below.step d11.out p10); replace c10 := cell_below p10 c10; replace f10 := cell_below p10 f10; replace a10 := cell_below p10 a10; replace i10 := cell_below p10 i10; replace g10 := cell_below p10 g10; replace d10 := cell_below p10 d10; replace h10 := cell_below p10 h10; replace e10 := cell_below p10 e10; replace b10 := cell_below p10 b10; clear p10; replace H := app_hid H; obtain rfl := ret_hid H; go_wp2_with fail; go_ret; exact ⟨rfl, k11.out⟩
end Go.Proofs.Ytgbcdmlcmnaimaa.GsL10One

namespace Go.Proofs.Ytgbcdmlcmnaimaa.GsL8For
open Go.RowKit
open Go.Proofs.Ytgbcdmlcmnaimaa.Rowed Go.Proofs.Ytgbcdmlcmnaimaa.Turn Go.Proofs.Ytgbcdmlcmnaimaa.Aid Go.Proofs.Ytgbcdmlcmnaimaa.GoP Go.Proofs.Ytgbcdmlcmnaimaa.GoM

def l0 (list : (List PRate.Rate)) (day : Int) (zone : Int) (grams : Int) (k0 : Nat) (s : Unit) (nx0 bk0 : Unit → Option (Int)) : Option (Int) :=
 
 Option.bind (idx list (k0 : Int)) fun (yt_8 : PRate.Rate) =>
 unRate yt_8 fun (t_8_zone : Int) (t_8_grams : Int) (t_8_from_ : Int) (t_8_until_ : Int) (t_8_cents : Int) =>
 letK (t_8_zone == zone) fun (t_15 : Bool) =>
 joinK (fun (t_21 : Bool) =>
 joinK (fun (t_29 : Bool) =>
 iteK t_29
 (some t_8_cents)
 (appK nx0 ())) fun jt_29 => iteK t_21 (Option.bind (GsL1In.P day t_8_from_ t_8_until_) fun (t_28 : Bool) =>
 appK jt_29 t_28) (appK jt_29 false)) fun jt_21 => iteK t_15 (letK (decide (grams ≤ t_8_grams)) fun (t_20 : Bool) =>
 appK jt_21 t_20) (appK jt_21 false)

def e0  (s : Unit) : Option (Int) :=
 
 some 0

def P (list : (List PRate.Rate)) (day : Int) (zone : Int) (grams : Int) : Option (Int) :=
 cntK (l0 list day zone grams) (list.length) 0 () (e0 )

set_option maxRecDepth 100000 in
set_option maxHeartbeats 2000000 in
theorem C (list : (List PRate.Rate)) (day : Int) (zone : Int) (grams : Int) (A0 : Option Addr) (c0 : Nat)  (w : World) (M0 : Hid (Cells w 5 A0 list.length (PRate.flat list))) (N0 : Hid (list.length ≤ 9223372036854775807))  {r : Int} (H : Hid (P list day zone grams = some r)) :
  Calls Try.prog 45 #[.slice A0 list.length c0, .int .i64 day, .int .i64 zone, .int .i64 grams] w (Gives (.int .i64 r) w) := by
 have HB := Lib.hid (Below.refl w.heap.size w); unfold P at H; have N0o := N0.out
 go_enter Try.func45, Try.ntmps45
 go_wp2_with fail; go_loopg [9] (list.length) (fun m_ v9_ wr => ∃ (k0 : Nat) , k0 + m_ = list.length ∧ v9_ = .int .i64 (k0 : Int) ∧ Hid (cntK (l0 list day zone grams) m_ k0 () (e0 ) = some r) ∧ Hid (Below w.heap.size w wr))
 case atStart => exact ⟨0, by omega, rfl, H, HB⟩
 case round =>
  obtain ⟨k0, hkm0, rfl, H, c10⟩ := hrel; rename World => wr0
  cases gk with
  | zero =>
   obtain rfl : k0 = list.length := (by omega); have hc0 : decide (((list.length : Nat) : Int) < ((list.length : Nat) : Int)) = false := (by simp); replace H := cnt_zero H; unfold e0 at H; obtain rfl := ret_hid H; go_wp2_with fail; go_ret; exact ⟨rfl, c10.out⟩
  | succ m0 =>
   have hlt0 : k0 < list.length := (by omega); have hc0 : decide ((k0 : Int) < ((list.length : Nat) : Int)) = true := (by simp; omega); replace H := cnt_succ H; unfold l0 at H; replace H := idx_hid H; obtain ⟨nt_8, yt_8, et_8, lt_8, gt_8, H⟩ := H; obtain rfl : k0 = nt_8 := (by omega); clear et_8; obtain ⟨q10, v10, k10, m10, s10⟩ := yt_8; replace H := unRate_hid H; obtain ⟨m11, f11, zt_8, At_8, o10, d10, e10, h10, g10, i10⟩ := ORate.at_ M0.out lt_8; obtain rfl := Option.some.inj (gt_8.out.symm.trans o10); subst At_8; have g11 := cell_lt d10; replace d10 := cell_below c10.out d10; replace e10 := cell_below c10.out e10; replace h10 := cell_below c10.out h10; replace g10 := cell_below c10.out g10; replace i10 := cell_below c10.out i10; clear o10; have h11 : (0 : Int) ≤ (k0 : Int) := (by omega); have j11 : (k0 : Int) < ((list.length : Nat) : Int) := (by omega); have k11 : ((k0 : Int)).toNat = k0 := (by omega); obtain ⟨j10, f10⟩ : ∃ x, wr0.alloc (.cells #[.int .i64 q10, .int .i64 v10, .int .i64 k10, .int .i64 m10, .int .i64 s10] 92) = x := ⟨_, rfl⟩; have b10 : Below wr0.heap.size wr0 j10 := (by rw [← f10]; exact (Below.refl _ _).alloc (Nat.le_refl _) _); have l10 := Lib.hid (Below.step c10.out b10); have z10 := cell_below b10 d10; have b11 := cell_below b10 e10; have p10 := cell_below b10 h10; have n10 := cell_below b10 g10; have r10 := cell_below b10 i10; clear b10; have x10 : j10.cell? ⟨wr0.heap.size, 0, none⟩ = some (.int .i64 q10) := (by rw [← f10]; exact box_new _ _ _ 0 _ rfl); have t10 : j10.cell? ⟨wr0.heap.size, 1, none⟩ = some (.int .i64 v10) := (by rw [← f10]; exact box_new _ _ _ 1 _ rfl); have y10 : j10.cell? ⟨wr0.heap.size, 2, none⟩ = some (.int .i64 k10) := (by rw [← f10]; exact box_new _ _ _ 2 _ rfl); have w10 : j10.cell? ⟨wr0.heap.size, 3, none⟩ = some (.int .i64 m10) := (by rw [← f10]; exact box_new _ _ _ 3 _ rfl); have c11 : j10.cell? ⟨wr0.heap.size, 4, none⟩ = some (.int .i64 s10) := (by rw [← f10]; exact box_new _ _ _ 4 _ rfl); replace H := let_hid H; obtain ⟨t_15, e11, H⟩ := H; replace H := join_hid H
   cases t_15 with
   | false =>
    replace H := ite_f H; replace H := app_hid H; replace H := join_hid H; replace H := ite_f H; replace H := app_hid H; replace H := ite_f H; replace H := app_hid H; go_wp2_with fail; clear d10 e10 h10 g10 i10
    go_roundg m0
    case measure => omega
    case rel => exact ⟨k0 + 1, by omega, by go_num, H, l10⟩
   | true =>
    replace H := ite_t H; replace H := let_hid H; obtain ⟨t_20, i11, H⟩ := H; replace H := app_hid H; replace H := join_hid H
    cases t_20 with
    | false =>
     replace H := ite_f H; replace H := app_hid H; replace H := ite_f H; replace H := app_hid H; go_wp2_with fail; clear d10 e10 h10 g10 i10
     go_roundg m0
     case measure => omega
     case rel => exact ⟨k0 + 1, by omega, by go_num, H, l10⟩
    | true =>
     replace H := ite_t H; replace H := bind_hid H; obtain ⟨t_28, d11, H⟩ := H; go_wp2_with fail; clear d10 e10 h10 g10 i10; go_at_call 64; refine (GsL1In.C (day) (k10) (m10)  _    d11).mono ?_; rintro n11 l11 ⟨rfl, a10⟩; have a11 := Lib.hid (Below.step l10.out a10); replace z10 := cell_below a10 z10; replace b11 := cell_below a10 b11; replace p10 := cell_below a10 p10; replace n10 := cell_below a10 n10; replace r10 := cell_below a10 r10; replace x10 := cell_below a10 x10; replace t10 := cell_below a10 t10; replace y10 := cell_below a10 y10; replace w10 := cell_below a10 w10; replace c11 := cell_below a10 c11; clear a10; replace H := app_hid H
     cases t_28 with
     | false =>
      replace H := ite_f H; replace H := app_hid H; go_wp2_with fail
      go_roundg m0
      case measure => omega
      case rel => exact ⟨k0 + 1, by omega, by go_num, H, a11⟩
     | true =>
      replace H := ite_t H; obtain rfl := ret_hid H; go_wp2_with fail; go_ret; exact ⟨rfl, a11.out⟩
end Go.Proofs.Ytgbcdmlcmnaimaa.GsL8For

namespace Go.Proofs.Ytgbcdmlcmnaimaa.GsL1Least
open Go.RowKit
open Go.Proofs.Ytgbcdmlcmnaimaa.Rowed Go.Proofs.Ytgbcdmlcmnaimaa.Turn Go.Proofs.Ytgbcdmlcmnaimaa.Aid Go.Proofs.Ytgbcdmlcmnaimaa.GoP Go.Proofs.Ytgbcdmlcmnaimaa.GoM

def P (a : Int) (b : Int) : Option (Int) :=
  letK (decide (a < b)) fun (t_3 : Bool) =>
  iteK t_3
  (some a)
  (some b)

set_option maxRecDepth 100000 in
set_option maxHeartbeats 2000000 in
theorem C (a : Int) (b : Int)   (w : World)   {r : Int} (H : Hid (P a b = some r)) :
    Calls Try.prog 102 #[.int .i64 a, .int .i64 b] w (Gives (.int .i64 r) w) := by
  have HB := Lib.hid (Below.refl w.heap.size w)
  unfold P at H
  go_enter Try.func102, Try.ntmps102
  replace H := let_hid H
  obtain ⟨t_3, ht_3, H⟩ := H
  cases t_3 with
  | false =>
    replace H := ite_f H
    obtain rfl := ret_hid H
    go_wp2_with fail
    go_ret
    exact ⟨rfl, HB.out⟩
  | true =>
    replace H := ite_t H
    obtain rfl := ret_hid H
    go_wp2_with fail
    go_ret
    exact ⟨rfl, HB.out⟩

set_option maxRecDepth 100000 in
set_option maxHeartbeats 2000000 in
theorem C0 (a : Int) (b : Int)   (w : World)   {r : Int} (H : Hid (P a b = some r)) :
    Calls Try.prog 102 #[.int .i64 a, .int .i64 b] w (fun e w'' => e = .returned (.int .i64 r) ∧ w'' = w) := by
  have HB := Lib.hid (Below.refl w.heap.size w)
  unfold P at H
  go_enter Try.func102, Try.ntmps102
  replace H := let_hid H
  obtain ⟨t_3, ht_3, H⟩ := H
  cases t_3 with
  | false =>
    replace H := ite_f H
    obtain rfl := ret_hid H
    go_wp2_with fail
    go_ret
    exact ⟨rfl, rfl⟩
  | true =>
    replace H := ite_t H
    obtain rfl := ret_hid H
    go_wp2_with fail
    go_ret
    exact ⟨rfl, rfl⟩
end Go.Proofs.Ytgbcdmlcmnaimaa.GsL1Least

namespace Go.Proofs.Ytgbcdmlcmnaimaa.GsL9Times
open Go.RowKit
open Go.Proofs.Ytgbcdmlcmnaimaa.Rowed Go.Proofs.Ytgbcdmlcmnaimaa.Turn Go.Proofs.Ytgbcdmlcmnaimaa.Aid Go.Proofs.Ytgbcdmlcmnaimaa.GoP Go.Proofs.Ytgbcdmlcmnaimaa.GoM

def l0  (k0 : Nat) (s : (List Int)) (nx0 bk0 : (List Int) → Option ((List Int))) : Option ((List Int)) :=
 letK s fun out_7l0 =>
 Option.bind (idx out_7l0 (k0 : Int)) fun (yt_10 : Int) =>
 letK (out_7l0.set k0 10000) fun (l11_11 : (List Int)) =>
 appK nx0 (l11_11)

def l1 (list : (List PMail.Mail)) (k1 : Nat) (s : (List Int)) (nx1 bk1 : (List Int) → Option ((List Int))) : Option ((List Int)) :=
 letK s fun out_7l1 =>
 Option.bind (idx list (k1 : Int)) fun (yt_27 : PMail.Mail) =>
 unMail yt_27 fun (t_27_leave : Int) (t_27_from_ : Int) (t_27_to_ : Int) (t_27_arrive : Int) =>
 Option.bind (idx out_7l1 t_27_from_) fun (yt_34 : Int) =>
 letK (decide (yt_34 ≤ t_27_leave)) fun (t_38 : Bool) =>
 iteK t_38
 (Option.bind (idx out_7l1 t_27_to_) fun (yt_45 : Int) =>
 Option.bind (GsL1Least.P yt_45 t_27_arrive) fun (t_49 : Int) =>
 Option.bind (idx out_7l1 t_27_to_) fun (yt_50 : Int) =>
 letK (out_7l1.set (t_27_to_).toNat t_49) fun (l51_51 : (List Int)) =>
 appK nx1 (l51_51))
 (appK nx1 (out_7l1))

def e1  (s : (List Int)) : Option ((List Int)) :=
 letK s fun out_7l1 =>
 some out_7l1

def e0 (list : (List PMail.Mail)) (from_1 : Int) (minute : Int) (s : (List Int)) : Option ((List Int)) :=
 letK s fun out_7l0 =>
 Option.bind (idx out_7l0 from_1) fun (yt_18 : Int) =>
 letK (out_7l0.set (from_1).toNat minute) fun (l19_19 : (List Int)) =>
 cntK (l1 list) (list.length) 0 (l19_19) (e1 )

def P (list : (List PMail.Mail)) (from_1 : Int) (minute : Int) : Option ((List Int)) :=
 guardK (0 ≤ 10 ∧ 10 ≤ 1099511627776) <|
 letK (List.replicate 10 0) fun (t_1 : (List Int)) =>
 cntK (l0 ) (t_1.length) 0 (t_1) (e0 list from_1 minute)

set_option maxRecDepth 100000 in
set_option maxHeartbeats 2000000 in
theorem C (list : (List PMail.Mail)) (from_1 : Int) (minute : Int) (A0 : Option Addr) (c0 : Nat)  (w : World) (M0 : Hid (Cells w 4 A0 list.length (PMail.flat list))) (N0 : Hid (list.length ≤ 9223372036854775807))  {r : (List Int)} (H : Hid (P list from_1 minute = some r)) :
  Calls Try.prog 87 #[.slice A0 list.length c0, .int .i64 from_1, .int .i64 minute] w (fun e w' => ∃ A_r c_r, e = .returned (.slice A_r r.length c_r) ∧ w'.ownsRow w.heap.size 3 1 (.slice A_r r.length c_r) r.length (HelpInt.iv r) ∧ Below w.heap.size w w') := by
 have HB := Lib.hid (Below.refl w.heap.size w); unfold P at H; have N0o := N0.out; obtain ⟨i0_3, hi_3, m14, e13, t13⟩ := Aid.info_parts (P := Try.prog) (T := 3) (z := .int .i64 0) (s := 1) (b := 8) (by kernel_rfl)
 go_enter Try.func87, Try.ntmps87
 replace H := guard_hid H; obtain ⟨b15, H⟩ := H; replace H := let_hid H; obtain ⟨t_1, ht_1, H⟩ := H; have j12 := HB.out.size; have k11 : t_1.length = 10 := (by rw [← ht_1]; simp); have i13 := Lib.hid ht_1; clear ht_1; go_wp2_with (at_make; refine wpList_make_full _ rfl _ _ 33 rfl w.heap.size 3 i0_3 (.int .i64 0) 1 Try.underlying33 hi_3 m14 e13 .i64 .i64 _ _ 10 rfl rfl (by omega) (by omega) (by rw [t13]; omega) (by unfold maxLen; omega) j12 ?_; intro wt_1 ot_1 gt_1; have Qt_1 := Lib.hid ot_1; have Gt_1 := Lib.hid gt_1; clear ot_1 gt_1; refine stop_in ?_); refine stop_out ?_
 have Et_1 : (HelpInt.iv t_1) = (madeCells (.int .i64 0 : Value).cells (10 * 1)).toList := by
  rw [made_flat (fun x => [.int .i64 x]) 0 _ 1 _ rfl rfl (by decide), ← i13.out]; exact map_flat _ _
 have Pt_1 : Hid (wt_1.ownsRow w.heap.size 3 1 (.slice (some ⟨w.heap.size, 0, none⟩) 10 10) 10 (HelpInt.iv t_1)) := Lib.hid (by rw [Et_1]; exact Qt_1.out); clear Et_1; replace k11 := Lib.hid k11; clear Qt_1 j12; have bt_1 : Below w.heap.size w wt_1 := (Below.refl _ _).grown Gt_1.out (Nat.le_refl _) (by simp); clear Gt_1; have h13 := Lib.hid (Below.step HB.out bt_1); clear bt_1; go_wp2_with fail; go_wp2_with fail; have hc_ := k11.out; have hv_ : (Value.slice (some ⟨w.heap.size, 0, none⟩) 10 10 : Value) = Value.slice (some ⟨w.heap.size, 0, none⟩) t_1.length 10 := (by rw [hc_])
 try rw [hv_]
 replace Pt_1 := Lib.hid (own_len hc_ Pt_1.out); clear hc_ hv_; have hb_0 : t_1.length ≤ 9223372036854775807 := own_max Pt_1.out; go_wp2_with fail; go_loopg [8] (t_1.length) (fun m_ v8_ wr => ∃ (k0 : Nat) (q10 : (List Int)), k0 + m_ = t_1.length ∧ v8_ = .int .i64 (k0 : Int) ∧ Hid (cntK (l0 ) m_ k0 (q10) (e0 list from_1 minute) = some r) ∧ Hid (Below w.heap.size w wr) ∧ Hid (wr.ownsRow w.heap.size 3 1 (.slice (some ⟨w.heap.size, 0, none⟩) t_1.length 10) t_1.length (HelpInt.iv q10)) ∧ Hid (q10.length = t_1.length))
 case atStart => exact ⟨0, _, by omega, rfl, H, h13, Pt_1, Lib.hid (rfl)⟩
 case round =>
  obtain ⟨k0, q10, hkm0, rfl, H, g11, g10, e11⟩ := hrel; rename World => wr0
  cases gk with
  | zero =>
   obtain rfl : k0 = t_1.length := (by omega); have hc0 : decide (((t_1.length : Nat) : Int) < ((t_1.length : Nat) : Int)) = false := (by simp); replace H := cnt_zero H; unfold e0 at H; replace H := let_hid H; obtain ⟨_, rfl, H⟩ := H; replace H := idx_hid H; obtain ⟨n10, b16, g14, t15, q14, H⟩ := H; subst g14; have h14 := e11.out; obtain ⟨r16, a16, p16, r12, w12, x11⟩ := HelpInt.Ints.at_ (own_cells g10.out) (k := n10) (by omega); obtain rfl := Option.some.inj (q14.out.symm.trans w12); simp only [Option.some.injEq, Addr.mk.injEq] at r12; obtain ⟨rfl, rfl, _⟩ := r12; clear w12; simp only [Nat.zero_add] at x11; have z14 : (0 : Int) ≤ (n10 : Int) := (by omega); have w15 : (n10 : Int) < ((t_1.length : Nat) : Int) := (by omega); have j15 : ((n10 : Int)).toNat = n10 := (by omega); clear h14; replace H := let_hid H; obtain ⟨i11, r10, H⟩ := H
   try simp only [Int.toNat_natCast] at r10
   obtain ⟨a12, b13⟩ : ∃ x, (wr0).setCell ⟨w.heap.size, n10, none⟩ (.int .i64 minute) = x := ⟨_, rfl⟩; have k14 := g10.out.frozenAt (n10); have o11 := Lib.hid (own_stores [(n10, .int .i64 minute)] g10.out); have f14 : Hid (i11.length = t_1.length) := Lib.hid (by rw [← r10, List.length_set]; exact e11.out); have g13 : Hid (a12.ownsRow w.heap.size 3 1 (.slice (some ⟨w.heap.size, 0, none⟩) t_1.length 10) t_1.length (HelpInt.iv i11)) := Lib.hid (by have e_ : ([(n10, .int .i64 minute)] : List (Nat × Value)).foldl (fun xs p => xs.set p.1 p.2) (HelpInt.iv q10) = (HelpInt.iv i11) := (by rw [← r10]; first | done | simp [HelpInt.iv, List.map_set]); rw [← b13, ← e_]; exact o11.out.1); have c12 : Hid (wr0.grownBy a12 (Value.slice (some ⟨w.heap.size, 0, none⟩) t_1.length 10).ownBlock) := Lib.hid (by rw [← b13]; exact o11.out.2); have f13 := Lib.hid (g11.out.grown c12.out g11.out.size (fun q hq => (g10.out.lt q hq).1)); have f16 := Lib.hid r10; clear r10 o11; clear g10 c12; go_wp2_with fail; clear k14 x11; go_wp2_with fail; go_loopg [9] (list.length) (fun m_ v9_ wr => ∃ (k1 : Nat) (w10 : (List Int)), k1 + m_ = list.length ∧ v9_ = .int .i64 (k1 : Int) ∧ Hid (cntK (l1 list) m_ k1 (w10) (e1 ) = some r) ∧ Hid (Below w.heap.size w wr) ∧ Hid (wr.ownsRow w.heap.size 3 1 (.slice (some ⟨w.heap.size, 0, none⟩) t_1.length 10) t_1.length (HelpInt.iv w10)) ∧ Hid (w10.length = t_1.length))
   case atStart => exact ⟨0, _, by omega, rfl, H, f13, g13, Lib.hid (f14.out)⟩
   case round =>
    obtain ⟨k1, w10, hkm1, rfl, H, p10, a10, z10⟩ := hrel; rename World => wr1
    cases gk with
    | zero =>
     obtain rfl : k1 = list.length := (by omega); have hc1 : decide (((list.length : Nat) : Int) < ((list.length : Nat) : Int)) = false := (by simp); replace H := cnt_zero H; unfold e1 at H; replace H := let_hid H; obtain ⟨_, rfl, H⟩ := H; obtain rfl := ret_hid H; go_wp2_with fail; go_ret; have hr_0 := z10.out; replace a10 := Lib.hid (own_len hr_0 a10.out); exact ⟨(some ⟨w.heap.size, 0, none⟩), 10, (by first | (rw [hr_0]; done) | (rw [hr_0]; rfl)), a10.out, p10.out⟩
    | succ m1 =>
     have hlt1 : k1 < list.length := (by omega); have hc1 : decide ((k1 : Int) < ((list.length : Nat) : Int)) = true := (by simp; omega); replace H := cnt_succ H; unfold l1 at H; replace H := let_hid H; obtain ⟨_, rfl, H⟩ := H; replace H := idx_hid H; obtain ⟨m13, a14, j14, q13, o14, H⟩ := H; obtain rfl : k1 = m13 := (by omega); clear j14; obtain ⟨t12, w11, z12, m11⟩ := a14; replace H := unMail_hid H; obtain ⟨n16, l15, x15, r14, d12, t10, h11, c11, d11⟩ := OMail.at_ M0.out q13; obtain rfl := Option.some.inj (o14.out.symm.trans d12); subst r14; have b11 := cell_lt t10; replace t10 := cell_below p10.out t10; replace h11 := cell_below p10.out h11; replace c11 := cell_below p10.out c11; replace d11 := cell_below p10.out d11; clear d12; have r15 : (0 : Int) ≤ (k1 : Int) := (by omega); have q16 : (k1 : Int) < ((list.length : Nat) : Int) := (by omega); have d15 : ((k1 : Int)).toNat = k1 := (by omega); obtain ⟨x10, y10⟩ : ∃ x, wr1.alloc (.cells #[.int .i64 t12, .int .i64 w11, .int .i64 z12, .int .i64 m11] 77) = x := ⟨_, rfl⟩; have o10 : Below wr1.heap.size wr1 x10 := (by rw [← y10]; exact (Below.refl _ _).alloc (Nat.le_refl _) _); have f11 := Lib.hid (apart_fresh a10.out); have y13 := Lib.hid (Below.step p10.out o10); have e10 := cell_below o10 t10; have f10 := cell_below o10 h11; have c10 := cell_below o10 c11; have l10 := cell_below o10 d11; replace a10 := Lib.hid (own_below a10.out o10); clear o10; have j10 : x10.cell? ⟨wr1.heap.size, 0, none⟩ = some (.int .i64 t12) := (by rw [← y10]; exact box_new _ _ _ 0 _ rfl); have d10 : x10.cell? ⟨wr1.heap.size, 1, none⟩ = some (.int .i64 w11) := (by rw [← y10]; exact box_new _ _ _ 1 _ rfl); have m10 : x10.cell? ⟨wr1.heap.size, 2, none⟩ = some (.int .i64 z12) := (by rw [← y10]; exact box_new _ _ _ 2 _ rfl); have k10 : x10.cell? ⟨wr1.heap.size, 3, none⟩ = some (.int .i64 m11) := (by rw [← y10]; exact box_new _ _ _ 3 _ rfl); go_wp2_with fail; clear t10 h11 c11 d11; have b12 := Lib.hid e10; replace e10 := cell_regrown e10; have k12 := Lib.hid f10; replace f10 := cell_regrown f10; have t11 := Lib.hid c10; replace c10 := cell_regrown c10; have q11 := Lib.hid l10; replace l10 := cell_regrown l10; have g12 := Lib.hid j10; replace j10 := cell_regrown j10; have q12 := Lib.hid d10; replace d10 := cell_regrown d10; have y12 := Lib.hid m10; replace m10 := cell_regrown m10; have z11 := Lib.hid k10; replace k10 := cell_regrown k10; replace H := idx_hid H; obtain ⟨s10, l16, p14, j16, o13, H⟩ := H; subst p14; have z13 := z10.out; obtain ⟨v14, i15, s16, o12, x12, h10⟩ := HelpInt.Ints.at_ (own_cells a10.out) (k := s10) (by omega); obtain rfl := Option.some.inj (o13.out.symm.trans x12); simp only [Option.some.injEq, Addr.mk.injEq] at o12; obtain ⟨rfl, rfl, _⟩ := o12; clear x12; simp only [Nat.zero_add] at h10; have m15 : (0 : Int) ≤ (s10 : Int) := (by omega); have g16 : (s10 : Int) < ((t_1.length : Nat) : Int) := (by omega); have v15 : ((s10 : Int)).toNat = s10 := (by omega); clear z13; have a13 := Lib.hid h10; replace h10 := cell_regrown h10; replace H := let_hid H; obtain ⟨t_38, h15, H⟩ := H; refine wp_region_quiet_below (by kernel_rfl) (by kernel_rfl) ?_
     repeat (go_big_quiet_step (fail))
     refine wpQuiet_nil ?_; intro Y11 hY11; replace hY11 := below_class hY11; replace e10 := b12.out; clear b12; replace f10 := k12.out; clear k12; replace c10 := t11.out; clear t11; replace l10 := q11.out; clear q11; replace j10 := g12.out; clear g12; replace d10 := q12.out; clear q12; replace m10 := y12.out; clear y12; replace k10 := z11.out; clear z11; replace h10 := a13.out; clear a13; have i12 := Lib.hid (Below.step y13.out hY11); replace e10 := cell_below hY11 e10; replace f10 := cell_below hY11 f10; replace c10 := cell_below hY11 c10; replace l10 := cell_below hY11 l10; replace j10 := cell_below hY11 j10; replace d10 := cell_below hY11 d10; replace m10 := cell_below hY11 m10; replace k10 := cell_below hY11 k10; replace h10 := cell_below hY11 h10; replace a10 := Lib.hid (own_below a10.out hY11); clear hY11
     cases t_38 with
     | false =>
      replace H := ite_f H; replace H := app_hid H; go_wp2_with fail
      go_roundg m1
      case measure => omega
      case rel => exact ⟨k1 + 1, _, by omega, by go_num, H, i12, a10, Lib.hid (z10.out)⟩
     | true =>
      replace H := ite_t H; go_wp2_with fail; obtain ⟨Z12, hZ12⟩ : ∃ x, Y11.drew = x := ⟨_, rfl⟩; have bd12 : Below Y11.heap.size Y11 Z12 := (by rw [← hZ12]; exact (Below.refl _ _).drew); have n12 := Lib.hid (Below.step i12.out bd12); replace e10 := cell_below bd12 e10; replace f10 := cell_below bd12 f10; replace c10 := cell_below bd12 c10; replace l10 := cell_below bd12 l10; replace j10 := cell_below bd12 j10; replace d10 := cell_below bd12 d10; replace m10 := cell_below bd12 m10; replace k10 := cell_below bd12 k10; replace h10 := cell_below bd12 h10; replace a10 := Lib.hid (own_below a10.out bd12); clear bd12; replace H := idx_hid H; obtain ⟨b10, e14, s13, f15, l12, H⟩ := H; subst s13; have p13 := z10.out; obtain ⟨o16, a15, x14, v11, y11, c13⟩ := HelpInt.Ints.at_ (own_cells a10.out) (k := b10) (by omega); obtain rfl := Option.some.inj (l12.out.symm.trans y11); simp only [Option.some.injEq, Addr.mk.injEq] at v11; obtain ⟨rfl, rfl, _⟩ := v11; clear y11; simp only [Nat.zero_add] at c13; have n15 : (0 : Int) ≤ (b10 : Int) := (by omega); have m16 : (b10 : Int) < ((t_1.length : Nat) : Int) := (by omega); have e16 : ((b10 : Int)).toNat = b10 := (by omega); clear p13; replace H := bind_hid H; obtain ⟨t_49, j13, H⟩ := H; replace H := idx_hid H; obtain ⟨c14, w14, w13, r13, m12, H⟩ := H; obtain rfl : b10 = c14 := (by omega); clear w13; obtain rfl := Option.some.inj (l12.out.symm.trans m12.out); clear m12 r13; refine wp_region_still_tail 12 (by kernel_rfl) (by kernel_rfl) ?_; simp only [List.take_succ_cons, List.take_zero, List.drop_succ_cons, List.drop_zero]; change wpStill _ _ Y11.drew _ _ _; rw [hZ12]
      still_step
      still_step
      still_step
      still_step
      still_step
      still_step
      still_step
      still_step
      still_step
      still_step
      still_call (GsL1Least.C0 (e14) (m11)  _    j13)
      still_step
      refine wpStill_nil ?_; change wpList _ _ _ _ _ Y11.drew; rw [hZ12]; clear hZ12; replace H := let_hid H; obtain ⟨p11, v10, H⟩ := H
      try simp only [Int.toNat_natCast] at v10
      obtain ⟨e12, s12⟩ : ∃ x, (Z12).setCell ⟨w.heap.size, b10, none⟩ (.int .i64 t_49) = x := ⟨_, rfl⟩; have d14 := a10.out.frozenAt (b10); have j11 := Lib.hid (own_stores [(b10, .int .i64 t_49)] a10.out); have d13 : Hid (p11.length = t_1.length) := Lib.hid (by rw [← v10, List.length_set]; exact z10.out); have n13 : Hid (e12.ownsRow w.heap.size 3 1 (.slice (some ⟨w.heap.size, 0, none⟩) t_1.length 10) t_1.length (HelpInt.iv p11)) := Lib.hid (by have e_ : ([(b10, .int .i64 t_49)] : List (Nat × Value)).foldl (fun xs p => xs.set p.1 p.2) (HelpInt.iv w10) = (HelpInt.iv p11) := (by rw [← v10]; first | done | simp [HelpInt.iv, List.map_set]); rw [← s12, ← e_]; exact j11.out.1); have i10 : Hid (Z12.grownBy e12 (Value.slice (some ⟨w.heap.size, 0, none⟩) t_1.length 10).ownBlock) := Lib.hid (by rw [← s12]; exact j11.out.2); have b14 := Lib.hid (n12.out.grown i10.out n12.out.size (fun q hq => (a10.out.lt q hq).1)); have c16 := Lib.hid v10; clear v10 j11; have i16 := cell_other e10 i10.out (apart_old a10.out b11); have k15 := cell_other f10 i10.out (apart_old a10.out b11); have h16 := cell_other c10 i10.out (apart_old a10.out b11); have y14 := cell_other l10 i10.out (apart_old a10.out b11); have d16 := cell_other j10 i10.out (Apart.symm f11.out); have e15 := cell_other d10 i10.out (Apart.symm f11.out); have t16 := cell_other m10 i10.out (Apart.symm f11.out); have p15 := cell_other k10 i10.out (Apart.symm f11.out); clear a10 i10; replace H := app_hid H; go_wp2_with fail; clear d14 e10 f10 c10 l10 j10 d10 m10 k10 h10 c13
      go_roundg m1
      case measure => omega
      case rel => exact ⟨k1 + 1, _, by omega, by go_num, H, b14, n13, Lib.hid (d13.out)⟩
  | succ m0 =>
   have hlt0 : k0 < t_1.length := (by omega); have hc0 : decide ((k0 : Int) < ((t_1.length : Nat) : Int)) = true := (by simp; omega); replace H := cnt_succ H; unfold l0 at H; replace H := let_hid H; obtain ⟨_, rfl, H⟩ := H; replace H := idx_hid H; obtain ⟨i14, k16, k13, o15, x13, H⟩ := H; obtain rfl : k0 = i14 := (by omega); clear k13; have l14 := e11.out; obtain ⟨q15, z15, g15, r11, f12, s11⟩ := HelpInt.Ints.at_ (own_cells g10.out) (k := k0) (by omega); obtain rfl := Option.some.inj (x13.out.symm.trans f12); simp only [Option.some.injEq, Addr.mk.injEq] at r11; obtain ⟨rfl, rfl, _⟩ := r11; clear f12; simp only [Nat.zero_add] at s11; have y15 : (0 : Int) ≤ (k0 : Int) := (by omega); have c15 : (k0 : Int) < ((t_1.length : Nat) : Int) := (by omega); have s15 : ((k0 : Int)).toNat = k0 := (by omega); clear l14; replace H := let_hid H; obtain ⟨l11, a11, H⟩ := H
   try simp only [Int.toNat_natCast] at a11
   obtain ⟨v12, h12⟩ : ∃ x, (wr0).setCell ⟨w.heap.size, k0, none⟩ (.int .i64 10000) = x := ⟨_, rfl⟩; have l13 := g10.out.frozenAt (k0); have n11 := Lib.hid (own_stores [(k0, .int .i64 10000)] g10.out); have v13 : Hid (l11.length = t_1.length) := Lib.hid (by rw [← a11, List.length_set]; exact e11.out); have n14 : Hid (v12.ownsRow w.heap.size 3 1 (.slice (some ⟨w.heap.size, 0, none⟩) t_1.length 10) t_1.length (HelpInt.iv l11)) := Lib.hid (by have e_ : ([(k0, .int .i64 10000)] : List (Nat × Value)).foldl (fun xs p => xs.set p.1 p.2) (HelpInt.iv q10) = (HelpInt.iv l11) := (by rw [← a11]; first | done | simp [HelpInt.iv, List.map_set]); rw [← h12, ← e_]; exact n11.out.1); have p12 : Hid (wr0.grownBy v12 (Value.slice (some ⟨w.heap.size, 0, none⟩) t_1.length 10).ownBlock) := Lib.hid (by rw [← h12]; exact n11.out.2); have s14 := Lib.hid (g11.out.grown p12.out g11.out.size (fun q hq => (g10.out.lt q hq).1)); have t14 := Lib.hid a11; clear a11 n11; clear g10 p12; replace H := app_hid H; go_wp2_with fail; clear l13 s11
   go_roundg m0
   case measure => omega
   case rel => exact ⟨k0 + 1, _, by omega, by go_num, H, s14, n14, Lib.hid (v13.out)⟩
end Go.Proofs.Ytgbcdmlcmnaimaa.GsL9Times

