/- Texts on which the proofs of several laws stand, one behind the other (9 of 18). No condition of their own. -/
import Derived.Test.YtgbcdmlcmnaimaaChecked
import Derived.Test.YtgbcdmlcmnaimaaX10P1
import Derived.Test.YtgbcdmlcmnaimaaX10P8
import Derived.WalkKit
import Derived.WalkSpells
import Derived.WalkLawsBesides
import Derived.BigQuiet
import Derived.OwnWalk
import Derived.Deep.LoopGhost
import Derived.Deep.QuietTactic
import Derived.IntWalk
import Derived.Lib.QuietBelow
import Derived.Test.YtgbcdmlcmnaimaaX10P4
import Derived.StillTailTactics
set_option linter.unusedVariables false
set_option linter.unusedSimpArgs false
namespace Go.Proofs.Ytgbcdmlcmnaimaa.GiFaultOf
open Go.RowKit
open Go.Proofs.Ytgbcdmlcmnaimaa.Rowed Go.Proofs.Ytgbcdmlcmnaimaa.Turn Go.Proofs.Ytgbcdmlcmnaimaa.Aid Go.Proofs.Ytgbcdmlcmnaimaa.GoP Go.Proofs.Ytgbcdmlcmnaimaa.GoM

def P (rates : (List PRate.Rate)) (mails : (List PMail.Mail)) (x : PCover.Cover) : Option (Int × Bool) :=
 unCover x fun (x_id : Int) (x_day : Int) (x_zone : Int) (x_grams : Int) (x_paid : Int) (x_from_ : Int) (x_to_ : Int) (x_leave : Int) (x_arrive : Int) =>
 Option.bind (GiCanCheckCovers.P rates mails) fun (t_5 : Bool) =>
 letK (!t_5) fun (t_6 : Bool) =>
 joinK (fun (t_11 : Bool) =>
 iteK t_11
 (some (0, false))
 (Option.bind (GiFaultOn.P rates mails (PCover.Cover.mk x_id x_day x_zone x_grams x_paid x_from_ x_to_ x_leave x_arrive)) fun (t_17 : Int) =>
 some (t_17, true))) fun jt_11 => iteK t_6 (appK jt_11 true) (Option.bind (GiIsCover.P (PCover.Cover.mk x_id x_day x_zone x_grams x_paid x_from_ x_to_ x_leave x_arrive)) fun (t_9 : Bool) =>
 letK (!t_9) fun (t_10 : Bool) =>
 appK jt_11 t_10)

set_option maxRecDepth 100000 in
set_option maxHeartbeats 2000000 in
theorem C (rates : (List PRate.Rate)) (mails : (List PMail.Mail)) (x : PCover.Cover) (A0 : Option Addr) (c0 : Nat) (A1 : Option Addr) (c1 : Nat)  (w : World) (M0 : Hid (Cells w 5 A0 rates.length (PRate.flat rates))) (N0 : Hid (rates.length ≤ 9223372036854775807)) (M1 : Hid (Cells w 4 A1 mails.length (PMail.flat mails))) (N1 : Hid (mails.length ≤ 9223372036854775807))  {r0 : Int} {r1 : Bool} (H : Hid (P rates mails x = some (r0, r1))) :
  Calls Try.prog 7 #[.slice A0 rates.length c0, .slice A1 mails.length c1, x.val] w (Gives (.tuple #[.int .i64 r0, .bool r1]) w) := by
 have HB := Lib.hid (Below.refl w.heap.size w); unfold P at H; obtain ⟨x_id, x_day, x_zone, x_grams, x_paid, x_from_, x_to_, x_leave, x_arrive⟩ := x; replace H := unCover_hid H; unfold PCover.Cover.val; have N0o := N0.out; have N1o := N1.out
 go_enter Try.func7, Try.ntmps7
 obtain ⟨c10, b10⟩ : ∃ x, w.alloc (.cells #[.int .i64 x_id, .int .i64 x_day, .int .i64 x_zone, .int .i64 x_grams, .int .i64 x_paid, .int .i64 x_from_, .int .i64 x_to_, .int .i64 x_leave, .int .i64 x_arrive] 27) = x := ⟨_, rfl⟩; have q10 : Below w.heap.size w c10 := (by rw [← b10]; exact (Below.refl _ _).alloc (Nat.le_refl _) _); have o10 := Lib.hid (Below.step HB.out q10); clear q10; have l10 : c10.cell? ⟨w.heap.size, 0, none⟩ = some (.int .i64 x_id) := (by rw [← b10]; exact box_new _ _ _ 0 _ rfl); have f10 : c10.cell? ⟨w.heap.size, 1, none⟩ = some (.int .i64 x_day) := (by rw [← b10]; exact box_new _ _ _ 1 _ rfl); have i10 : c10.cell? ⟨w.heap.size, 2, none⟩ = some (.int .i64 x_zone) := (by rw [← b10]; exact box_new _ _ _ 2 _ rfl); have j10 : c10.cell? ⟨w.heap.size, 3, none⟩ = some (.int .i64 x_grams) := (by rw [← b10]; exact box_new _ _ _ 3 _ rfl); have k10 : c10.cell? ⟨w.heap.size, 4, none⟩ = some (.int .i64 x_paid) := (by rw [← b10]; exact box_new _ _ _ 4 _ rfl); have h10 : c10.cell? ⟨w.heap.size, 5, none⟩ = some (.int .i64 x_from_) := (by rw [← b10]; exact box_new _ _ _ 5 _ rfl); have e10 : c10.cell? ⟨w.heap.size, 6, none⟩ = some (.int .i64 x_to_) := (by rw [← b10]; exact box_new _ _ _ 6 _ rfl); have d10 : c10.cell? ⟨w.heap.size, 7, none⟩ = some (.int .i64 x_leave) := (by rw [← b10]; exact box_new _ _ _ 7 _ rfl); have g10 : c10.cell? ⟨w.heap.size, 8, none⟩ = some (.int .i64 x_arrive) := (by rw [← b10]; exact box_new _ _ _ 8 _ rfl); replace H := bind_hid H; obtain ⟨t_5, qt_5, H⟩ := H; go_wp2_with fail; go_at_call 37; refine (GiCanCheckCovers.C (rates) (mails) A0 c0 A1 c1 _   (Lib.hid (Cells.below M0.out o10.out)) N0 (Lib.hid (Cells.below M1.out o10.out)) N1 qt_5).mono ?_; rintro v10 wt_5 ⟨rfl, bt_5⟩; have p10 := Lib.hid (Below.step o10.out bt_5); replace l10 := cell_below bt_5 l10; replace f10 := cell_below bt_5 f10; replace i10 := cell_below bt_5 i10; replace j10 := cell_below bt_5 j10; replace k10 := cell_below bt_5 k10; replace h10 := cell_below bt_5 h10; replace e10 := cell_below bt_5 e10; replace d10 := cell_below bt_5 d10; replace g10 := cell_below bt_5 g10; clear bt_5
 cases t_5 with
 | false =>
  replace H := let_hid H; obtain ⟨t_6, ht_6, H⟩ := H; obtain rfl : t_6 = true := ht_6.symm; replace H := join_hid H; replace H := ite_t H; replace H := app_hid H; replace H := ite_t H; cases ret_hid H; go_wp2_with fail; go_ret2; exact ⟨rfl, p10.out⟩
 | true =>
  replace H := let_hid H; obtain ⟨t_6, ht_6, H⟩ := H; obtain rfl : t_6 = false := ht_6.symm; replace H := join_hid H; replace H := ite_f H; replace H := bind_hid H; obtain ⟨t_9, qt_9, H⟩ := H; go_wp2_with fail; go_at_call 18; refine (GiIsCover.C ((PCover.Cover.mk x_id x_day x_zone x_grams x_paid x_from_ x_to_ x_leave x_arrive))  _    qt_9).mono ?_; rintro t10 wt_9 ⟨rfl, bt_9⟩; have m10 := Lib.hid (Below.step p10.out bt_9); replace l10 := cell_below bt_9 l10; replace f10 := cell_below bt_9 f10; replace i10 := cell_below bt_9 i10; replace j10 := cell_below bt_9 j10; replace k10 := cell_below bt_9 k10; replace h10 := cell_below bt_9 h10; replace e10 := cell_below bt_9 e10; replace d10 := cell_below bt_9 d10; replace g10 := cell_below bt_9 g10; clear bt_9
  cases t_9 with
  | false =>
   replace H := let_hid H; obtain ⟨t_10, n10, H⟩ := H; obtain rfl : t_10 = true := n10.symm; replace H := app_hid H; replace H := ite_t H; cases ret_hid H; go_wp2_with fail; go_ret2; exact ⟨rfl, m10.out⟩
  | true =>
   replace H := let_hid H; obtain ⟨t_10, n10, H⟩ := H; obtain rfl : t_10 = false := n10.symm; replace H := app_hid H; replace H := ite_f H; replace H := bind_hid H; obtain ⟨t_17, s10, H⟩ := H; go_wp2_with fail; go_at_call 38; refine (GiFaultOn.C (rates) (mails) ((PCover.Cover.mk x_id x_day x_zone x_grams x_paid x_from_ x_to_ x_leave x_arrive)) A0 c0 A1 c1 _   (Lib.hid (Cells.below M0.out m10.out)) N0 (Lib.hid (Cells.below M1.out m10.out)) N1 s10).mono ?_; rintro x10 w10 ⟨rfl, a10⟩; have r10 := Lib.hid (Below.step m10.out a10); replace l10 := cell_below a10 l10; replace f10 := cell_below a10 f10; replace i10 := cell_below a10 i10; replace j10 := cell_below a10 j10; replace k10 := cell_below a10 k10; replace h10 := cell_below a10 h10; replace e10 := cell_below a10 e10; replace d10 := cell_below a10 d10; replace g10 := cell_below a10 g10; clear a10; cases ret_hid H; go_wp2_with fail; go_ret2; exact ⟨rfl, r10.out⟩
end Go.Proofs.Ytgbcdmlcmnaimaa.GiFaultOf

namespace Go.Proofs.Ytgbcdmlcmnaimaa.GsL8Zone
open Go.RowKit
open Go.Proofs.Ytgbcdmlcmnaimaa.Rowed Go.Proofs.Ytgbcdmlcmnaimaa.Turn Go.Proofs.Ytgbcdmlcmnaimaa.Aid Go.Proofs.Ytgbcdmlcmnaimaa.GoP Go.Proofs.Ytgbcdmlcmnaimaa.GoM

def P (zone : Int) : Option (Bool) :=
  Option.bind (Go.Proofs.Ytgbcdmlcmnaimaa.GsL1In.P zone 0 9) fun (t_2 : Bool) =>
  some t_2

set_option maxRecDepth 100000 in
set_option maxHeartbeats 2000000 in
theorem C (zone : Int)   (w : World)   {r : Bool} (H : Hid (P zone = some r)) :
    Calls Try.prog 83 #[.int .i64 zone] w (Gives (.bool r) w) := by
  have HB := Lib.hid (Below.refl w.heap.size w)
  unfold P at H
  go_enter Try.func83, Try.ntmps83
  replace H := bind_hid H
  obtain ⟨t_2, qt_2, H⟩ := H
  go_wp2_with fail
  go_at_call 64
  refine (Go.Proofs.Ytgbcdmlcmnaimaa.GsL1In.C (zone) (0) (9)  _    qt_2).mono ?_
  rintro e_t_2 wt_2 ⟨rfl, bt_2⟩
  have HBwt_2 := Lib.hid (Below.step HB.out bt_2)
  clear bt_2
  obtain rfl := ret_hid H
  go_wp2_with fail
  go_ret
  exact ⟨rfl, HBwt_2.out⟩
end Go.Proofs.Ytgbcdmlcmnaimaa.GsL8Zone

namespace Go.Proofs.Ytgbcdmlcmnaimaa.GsL8Grams
open Go.RowKit
open Go.Proofs.Ytgbcdmlcmnaimaa.Rowed Go.Proofs.Ytgbcdmlcmnaimaa.Turn Go.Proofs.Ytgbcdmlcmnaimaa.Aid Go.Proofs.Ytgbcdmlcmnaimaa.GoP Go.Proofs.Ytgbcdmlcmnaimaa.GoM

def P (grams : Int) : Option (Bool) :=
  Option.bind (Go.Proofs.Ytgbcdmlcmnaimaa.GsL1In.P grams 1 2000) fun (t_2 : Bool) =>
  some t_2

set_option maxRecDepth 100000 in
set_option maxHeartbeats 2000000 in
theorem C (grams : Int)   (w : World)   {r : Bool} (H : Hid (P grams = some r)) :
    Calls Try.prog 84 #[.int .i64 grams] w (Gives (.bool r) w) := by
  have HB := Lib.hid (Below.refl w.heap.size w)
  unfold P at H
  go_enter Try.func84, Try.ntmps84
  replace H := bind_hid H
  obtain ⟨t_2, qt_2, H⟩ := H
  go_wp2_with fail
  go_at_call 64
  refine (Go.Proofs.Ytgbcdmlcmnaimaa.GsL1In.C (grams) (1) (2000)  _    qt_2).mono ?_
  rintro e_t_2 wt_2 ⟨rfl, bt_2⟩
  have HBwt_2 := Lib.hid (Below.step HB.out bt_2)
  clear bt_2
  obtain rfl := ret_hid H
  go_wp2_with fail
  go_ret
  exact ⟨rfl, HBwt_2.out⟩
end Go.Proofs.Ytgbcdmlcmnaimaa.GsL8Grams

namespace Go.Proofs.Ytgbcdmlcmnaimaa.GsL2Day
open Go.RowKit
open Go.Proofs.Ytgbcdmlcmnaimaa.Rowed Go.Proofs.Ytgbcdmlcmnaimaa.Turn Go.Proofs.Ytgbcdmlcmnaimaa.Aid Go.Proofs.Ytgbcdmlcmnaimaa.GoP Go.Proofs.Ytgbcdmlcmnaimaa.GoM

def P (d_0 : Int) : Option (Bool) :=
  Option.bind (Go.Proofs.Ytgbcdmlcmnaimaa.GsL1In.P d_0 0 4000) fun (t_2 : Bool) =>
  some t_2

set_option maxRecDepth 100000 in
set_option maxHeartbeats 2000000 in
theorem C (d_0 : Int)   (w : World)   {r : Bool} (H : Hid (P d_0 = some r)) :
    Calls Try.prog 82 #[.int .i64 d_0] w (Gives (.bool r) w) := by
  have HB := Lib.hid (Below.refl w.heap.size w)
  unfold P at H
  go_enter Try.func82, Try.ntmps82
  replace H := bind_hid H
  obtain ⟨t_2, qt_2, H⟩ := H
  go_wp2_with fail
  go_at_call 64
  refine (Go.Proofs.Ytgbcdmlcmnaimaa.GsL1In.C (d_0) (0) (4000)  _    qt_2).mono ?_
  rintro e_t_2 wt_2 ⟨rfl, bt_2⟩
  have HBwt_2 := Lib.hid (Below.step HB.out bt_2)
  clear bt_2
  obtain rfl := ret_hid H
  go_wp2_with fail
  go_ret
  exact ⟨rfl, HBwt_2.out⟩
end Go.Proofs.Ytgbcdmlcmnaimaa.GsL2Day

namespace Go.Proofs.Ytgbcdmlcmnaimaa.GsL8Cents
open Go.RowKit
open Go.Proofs.Ytgbcdmlcmnaimaa.Rowed Go.Proofs.Ytgbcdmlcmnaimaa.Turn Go.Proofs.Ytgbcdmlcmnaimaa.Aid Go.Proofs.Ytgbcdmlcmnaimaa.GoP Go.Proofs.Ytgbcdmlcmnaimaa.GoM

def P (cents : Int) : Option (Bool) :=
  Option.bind (Go.Proofs.Ytgbcdmlcmnaimaa.GsL1In.P cents 1 9999) fun (t_2 : Bool) =>
  some t_2

set_option maxRecDepth 100000 in
set_option maxHeartbeats 2000000 in
theorem C (cents : Int)   (w : World)   {r : Bool} (H : Hid (P cents = some r)) :
    Calls Try.prog 85 #[.int .i64 cents] w (Gives (.bool r) w) := by
  have HB := Lib.hid (Below.refl w.heap.size w)
  unfold P at H
  go_enter Try.func85, Try.ntmps85
  replace H := bind_hid H
  obtain ⟨t_2, qt_2, H⟩ := H
  go_wp2_with fail
  go_at_call 64
  refine (Go.Proofs.Ytgbcdmlcmnaimaa.GsL1In.C (cents) (1) (9999)  _    qt_2).mono ?_
  rintro e_t_2 wt_2 ⟨rfl, bt_2⟩
  have HBwt_2 := Lib.hid (Below.step HB.out bt_2)
  clear bt_2
  obtain rfl := ret_hid H
  go_wp2_with fail
  go_ret
  exact ⟨rfl, HBwt_2.out⟩
end Go.Proofs.Ytgbcdmlcmnaimaa.GsL8Cents

namespace Go.Proofs.Ytgbcdmlcmnaimaa.GsL8One
open Go.RowKit
open Go.Proofs.Ytgbcdmlcmnaimaa.Rowed Go.Proofs.Ytgbcdmlcmnaimaa.Turn Go.Proofs.Ytgbcdmlcmnaimaa.Aid Go.Proofs.Ytgbcdmlcmnaimaa.GoP Go.Proofs.Ytgbcdmlcmnaimaa.GoM

def P (r_0 : PRate.Rate) : Option (Bool) :=
 unRate r_0 fun (r_0_zone : Int) (r_0_grams : Int) (r_0_from_ : Int) (r_0_until_ : Int) (r_0_cents : Int) =>
 Option.bind (GsL8Zone.P r_0_zone) fun (t_4 : Bool) =>
 joinK (fun (t_9 : Bool) =>
 joinK (fun (t_14 : Bool) =>
 joinK (fun (t_21 : Bool) =>
 joinK (fun (t_26 : Bool) =>
 some t_26) fun jt_26 => iteK t_21 (Option.bind (GsL8Cents.P r_0_cents) fun (t_25 : Bool) =>
 appK jt_26 t_25) (appK jt_26 false)) fun jt_21 => iteK t_14 (Option.bind (GsL1In.P r_0_from_ 0 r_0_until_) fun (t_20 : Bool) =>
 appK jt_21 t_20) (appK jt_21 false)) fun jt_14 => iteK t_9 (Option.bind (GsL2Day.P r_0_until_) fun (t_13 : Bool) =>
 appK jt_14 t_13) (appK jt_14 false)) fun jt_9 => iteK t_4 (Option.bind (GsL8Grams.P r_0_grams) fun (t_8 : Bool) =>
 appK jt_9 t_8) (appK jt_9 false)

set_option maxRecDepth 100000 in
set_option maxHeartbeats 2000000 in
theorem C (r_0 : PRate.Rate)   (w : World)   {r : Bool} (H : Hid (P r_0 = some r)) :
  Calls Try.prog 80 #[r_0.val] w (Gives (.bool r) w) := by
 have HB := Lib.hid (Below.refl w.heap.size w); unfold P at H; obtain ⟨l10, n10, o10, k10, m10⟩ := r_0; replace H := unRate_hid H; unfold PRate.Rate.val
 go_enter Try.func80, Try.ntmps80
 obtain ⟨i10, j10⟩ : ∃ x, w.alloc (.cells #[.int .i64 l10, .int .i64 n10, .int .i64 o10, .int .i64 k10, .int .i64 m10] 92) = x := ⟨_, rfl⟩; have t10 : Below w.heap.size w i10 := (by rw [← j10]; exact (Below.refl _ _).alloc (Nat.le_refl _) _); have z10 := Lib.hid (Below.step HB.out t10); clear t10; have b10 : i10.cell? ⟨w.heap.size, 0, none⟩ = some (.int .i64 l10) := (by rw [← j10]; exact box_new _ _ _ 0 _ rfl); have e10 : i10.cell? ⟨w.heap.size, 1, none⟩ = some (.int .i64 n10) := (by rw [← j10]; exact box_new _ _ _ 1 _ rfl); have a10 : i10.cell? ⟨w.heap.size, 2, none⟩ = some (.int .i64 o10) := (by rw [← j10]; exact box_new _ _ _ 2 _ rfl); have c10 : i10.cell? ⟨w.heap.size, 3, none⟩ = some (.int .i64 k10) := (by rw [← j10]; exact box_new _ _ _ 3 _ rfl); have d10 : i10.cell? ⟨w.heap.size, 4, none⟩ = some (.int .i64 m10) := (by rw [← j10]; exact box_new _ _ _ 4 _ rfl); replace H := bind_hid H; obtain ⟨t_4, qt_4, H⟩ := H; go_wp2_with fail; go_at_call 83; refine (GsL8Zone.C (l10)  _    qt_4).mono ?_; rintro d11 wt_4 ⟨rfl, bt_4⟩; have q10 := Lib.hid (Below.step z10.out bt_4); replace b10 := cell_below bt_4 b10; replace e10 := cell_below bt_4 e10; replace a10 := cell_below bt_4 a10; replace c10 := cell_below bt_4 c10; replace d10 := cell_below bt_4 d10; clear bt_4; replace H := join_hid H
 cases t_4 with
 | false =>
  replace H := ite_f H; replace H := app_hid H; replace H := join_hid H; replace H := ite_f H; replace H := app_hid H; replace H := join_hid H; replace H := ite_f H; replace H := app_hid H; replace H := join_hid H; replace H := ite_f H; replace H := app_hid H; obtain rfl := ret_hid H; go_wp2_with fail; go_ret; exact ⟨rfl, q10.out⟩
 | true =>
  replace H := ite_t H; replace H := bind_hid H; obtain ⟨t_8, qt_8, H⟩ := H; go_wp2_with fail; go_at_call 84; refine (GsL8Grams.C (n10)  _    qt_8).mono ?_; rintro f11 wt_8 ⟨rfl, bt_8⟩; have r10 := Lib.hid (Below.step q10.out bt_8); replace b10 := cell_below bt_8 b10; replace e10 := cell_below bt_8 e10; replace a10 := cell_below bt_8 a10; replace c10 := cell_below bt_8 c10; replace d10 := cell_below bt_8 d10; clear bt_8; replace H := app_hid H; replace H := join_hid H
  cases t_8 with
  | false =>
   replace H := ite_f H; replace H := app_hid H; replace H := join_hid H; replace H := ite_f H; replace H := app_hid H; replace H := join_hid H; replace H := ite_f H; replace H := app_hid H; obtain rfl := ret_hid H; go_wp2_with fail; go_ret; exact ⟨rfl, r10.out⟩
  | true =>
   replace H := ite_t H; replace H := bind_hid H; obtain ⟨t_13, w10, H⟩ := H; go_wp2_with fail; go_at_call 82; refine (GsL2Day.C (k10)  _    w10).mono ?_; rintro h11 g11 ⟨rfl, h10⟩; have p10 := Lib.hid (Below.step r10.out h10); replace b10 := cell_below h10 b10; replace e10 := cell_below h10 e10; replace a10 := cell_below h10 a10; replace c10 := cell_below h10 c10; replace d10 := cell_below h10 d10; clear h10; replace H := app_hid H; replace H := join_hid H
   cases t_13 with
   | false =>
    replace H := ite_f H; replace H := app_hid H; replace H := join_hid H; replace H := ite_f H; replace H := app_hid H; obtain rfl := ret_hid H; go_wp2_with fail; go_ret; exact ⟨rfl, p10.out⟩
   | true =>
    replace H := ite_t H; replace H := bind_hid H; obtain ⟨t_20, v10, H⟩ := H; go_wp2_with fail; go_at_call 64; refine (GsL1In.C (o10) (0) (k10)  _    v10).mono ?_; rintro b11 a11 ⟨rfl, f10⟩; have s10 := Lib.hid (Below.step p10.out f10); replace b10 := cell_below f10 b10; replace e10 := cell_below f10 e10; replace a10 := cell_below f10 a10; replace c10 := cell_below f10 c10; replace d10 := cell_below f10 d10; clear f10; replace H := app_hid H; replace H := join_hid H
    cases t_20 with
    | false =>
     replace H := ite_f H; replace H := app_hid H; obtain rfl := ret_hid H; go_wp2_with fail; go_ret; exact ⟨rfl, s10.out⟩
    | true =>
     replace H := ite_t H; replace H := bind_hid H; obtain ⟨t_25, x10, H⟩ := H; go_wp2_with fail; go_at_call 85; refine (GsL8Cents.C (m10)  _    x10).mono ?_; rintro e11 c11 ⟨rfl, g10⟩; have y10 := Lib.hid (Below.step s10.out g10); replace b10 := cell_below g10 b10; replace e10 := cell_below g10 e10; replace a10 := cell_below g10 a10; replace c10 := cell_below g10 c10; replace d10 := cell_below g10 d10; clear g10; replace H := app_hid H; obtain rfl := ret_hid H; go_wp2_with fail; go_ret; exact ⟨rfl, y10.out⟩
end Go.Proofs.Ytgbcdmlcmnaimaa.GsL8One

namespace Go.Proofs.Ytgbcdmlcmnaimaa.GsL8Code
open Go.RowKit
open Go.Proofs.Ytgbcdmlcmnaimaa.Rowed Go.Proofs.Ytgbcdmlcmnaimaa.Turn Go.Proofs.Ytgbcdmlcmnaimaa.Aid Go.Proofs.Ytgbcdmlcmnaimaa.GoP Go.Proofs.Ytgbcdmlcmnaimaa.GoM

def P (r_0 : PRate.Rate) : Option (Int) :=
 unRate r_0 fun (r_0_zone : Int) (r_0_grams : Int) (r_0_from_ : Int) (r_0_until_ : Int) (r_0_cents : Int) =>
 letK (IntKind.i64.wrap (10000 * r_0_zone)) fun (t_4 : Int) =>
 letK (IntKind.i64.wrap (t_4 + r_0_grams)) fun (t_7 : Int) =>
 letK (IntKind.i64.wrap (t_7 * 10000)) fun (t_8 : Int) =>
 letK (IntKind.i64.wrap (t_8 + r_0_from_)) fun (t_11 : Int) =>
 some t_11

set_option maxRecDepth 100000 in
set_option maxHeartbeats 2000000 in
theorem C (r_0 : PRate.Rate)   (w : World)   {r : Int} (H : Hid (P r_0 = some r)) :
  Calls Try.prog 81 #[r_0.val] w (Gives (.int .i64 r) w) := by
 have HB := Lib.hid (Below.refl w.heap.size w); unfold P at H; obtain ⟨h10, e10, g10, f10, c10⟩ := r_0; replace H := unRate_hid H; unfold PRate.Rate.val
 go_enter Try.func81, Try.ntmps81
 obtain ⟨b10, a10⟩ : ∃ x, w.alloc (.cells #[.int .i64 h10, .int .i64 e10, .int .i64 g10, .int .i64 f10, .int .i64 c10] 92) = x := ⟨_, rfl⟩; have d10 : Below w.heap.size w b10 := (by rw [← a10]; exact (Below.refl _ _).alloc (Nat.le_refl _) _); have i10 := Lib.hid (Below.step HB.out d10); clear d10; have l10 : b10.cell? ⟨w.heap.size, 0, none⟩ = some (.int .i64 h10) := (by rw [← a10]; exact box_new _ _ _ 0 _ rfl); have n10 : b10.cell? ⟨w.heap.size, 1, none⟩ = some (.int .i64 e10) := (by rw [← a10]; exact box_new _ _ _ 1 _ rfl); have j10 : b10.cell? ⟨w.heap.size, 2, none⟩ = some (.int .i64 g10) := (by rw [← a10]; exact box_new _ _ _ 2 _ rfl); have k10 : b10.cell? ⟨w.heap.size, 3, none⟩ = some (.int .i64 f10) := (by rw [← a10]; exact box_new _ _ _ 3 _ rfl); have o10 : b10.cell? ⟨w.heap.size, 4, none⟩ = some (.int .i64 c10) := (by rw [← a10]; exact box_new _ _ _ 4 _ rfl); replace H := let_hid H; obtain ⟨t_4, ht_4, H⟩ := H; replace H := let_hid H; obtain ⟨t_7, ht_7, H⟩ := H; replace H := let_hid H; obtain ⟨t_8, ht_8, H⟩ := H; replace H := let_hid H; obtain ⟨t_11, m10, H⟩ := H; obtain rfl := ret_hid H; go_wp2_with fail; go_ret; exact ⟨rfl, i10.out⟩
end Go.Proofs.Ytgbcdmlcmnaimaa.GsL8Code

namespace Go.Proofs.Ytgbcdmlcmnaimaa.GsL8Good
open Go.RowKit
open Go.Proofs.Ytgbcdmlcmnaimaa.Rowed Go.Proofs.Ytgbcdmlcmnaimaa.Turn Go.Proofs.Ytgbcdmlcmnaimaa.Aid Go.Proofs.Ytgbcdmlcmnaimaa.GoP Go.Proofs.Ytgbcdmlcmnaimaa.GoM

def l0 (list : (List PRate.Rate)) (s : Int) (nx0 bk0 : Int → Option (Bool)) : Option (Bool) :=
 letK s fun i_3l0 =>
 letK (decide (i_3l0 < (list.length : Int))) fun (t_5 : Bool) =>
 joinK (fun (t_9 : Bool) =>
 iteK t_9
 (Option.bind (idx list i_3l0) fun (yt_12 : PRate.Rate) =>
 unRate yt_12 fun (t_12_zone : Int) (t_12_grams : Int) (t_12_from_ : Int) (t_12_until_ : Int) (t_12_cents : Int) =>
 Option.bind (GsL8One.P (PRate.Rate.mk t_12_zone t_12_grams t_12_from_ t_12_until_ t_12_cents)) fun (t_14 : Bool) =>
 letK (!t_14) fun (t_15 : Bool) =>
 joinK (fun (t_33 : Bool) =>
 iteK t_33
 (some false)
 (letK (decide (0 < i_3l0)) fun (t_36 : Bool) =>
 joinK (fun (t_50 : Bool) =>
 joinK (fun (t_64 : Bool) =>
 joinK (fun (t_78 : Bool) =>
 iteK t_78
 (some false)
 (letK (IntKind.i64.wrap (i_3l0 + 1)) fun (t_81 : Int) =>
 appK nx0 (t_81))) fun jt_78 => iteK t_64 (letK (IntKind.i64.wrap (i_3l0 - 1)) fun (t_68 : Int) =>
 Option.bind (idx list t_68) fun (yt_69 : PRate.Rate) =>
 unRate yt_69 fun (t_69_zone : Int) (t_69_grams : Int) (t_69_from_ : Int) (t_69_until_ : Int) (t_69_cents : Int) =>
 Option.bind (idx list i_3l0) fun (yt_74 : PRate.Rate) =>
 unRate yt_74 fun (t_74_zone : Int) (t_74_grams : Int) (t_74_from_ : Int) (t_74_until_ : Int) (t_74_cents : Int) =>
 letK (decide (t_74_from_ ≤ t_69_until_)) fun (t_77 : Bool) =>
 appK jt_78 t_77) (appK jt_78 false)) fun jt_64 => iteK t_50 (letK (IntKind.i64.wrap (i_3l0 - 1)) fun (t_54 : Int) =>
 Option.bind (idx list t_54) fun (yt_55 : PRate.Rate) =>
 unRate yt_55 fun (t_55_zone : Int) (t_55_grams : Int) (t_55_from_ : Int) (t_55_until_ : Int) (t_55_cents : Int) =>
 Option.bind (idx list i_3l0) fun (yt_60 : PRate.Rate) =>
 unRate yt_60 fun (t_60_zone : Int) (t_60_grams : Int) (t_60_from_ : Int) (t_60_until_ : Int) (t_60_cents : Int) =>
 letK (t_55_grams == t_60_grams) fun (t_63 : Bool) =>
 appK jt_64 t_63) (appK jt_64 false)) fun jt_50 => iteK t_36 (letK (IntKind.i64.wrap (i_3l0 - 1)) fun (t_40 : Int) =>
 Option.bind (idx list t_40) fun (yt_41 : PRate.Rate) =>
 unRate yt_41 fun (t_41_zone : Int) (t_41_grams : Int) (t_41_from_ : Int) (t_41_until_ : Int) (t_41_cents : Int) =>
 Option.bind (idx list i_3l0) fun (yt_46 : PRate.Rate) =>
 unRate yt_46 fun (t_46_zone : Int) (t_46_grams : Int) (t_46_from_ : Int) (t_46_until_ : Int) (t_46_cents : Int) =>
 letK (t_41_zone == t_46_zone) fun (t_49 : Bool) =>
 appK jt_50 t_49) (appK jt_50 false))) fun jt_33 => iteK t_15 (appK jt_33 true) (letK (decide (0 < i_3l0)) fun (t_18 : Bool) =>
 joinK (fun (t_32 : Bool) =>
 appK jt_33 t_32) fun jt_32 => iteK t_18 (letK (IntKind.i64.wrap (i_3l0 - 1)) fun (t_22 : Int) =>
 Option.bind (idx list t_22) fun (yt_23 : PRate.Rate) =>
 unRate yt_23 fun (t_23_zone : Int) (t_23_grams : Int) (t_23_from_ : Int) (t_23_until_ : Int) (t_23_cents : Int) =>
 Option.bind (GsL8Code.P (PRate.Rate.mk t_23_zone t_23_grams t_23_from_ t_23_until_ t_23_cents)) fun (t_25 : Int) =>
 Option.bind (idx list i_3l0) fun (yt_28 : PRate.Rate) =>
 unRate yt_28 fun (t_28_zone : Int) (t_28_grams : Int) (t_28_from_ : Int) (t_28_until_ : Int) (t_28_cents : Int) =>
 Option.bind (GsL8Code.P (PRate.Rate.mk t_28_zone t_28_grams t_28_from_ t_28_until_ t_28_cents)) fun (t_30 : Int) =>
 letK (decide (t_30 ≤ t_25)) fun (t_31 : Bool) =>
 appK jt_32 t_31) (appK jt_32 false)))
 (appK bk0 (i_3l0))) fun jt_9 => iteK t_5 (letK (decide (i_3l0 ≤ 16)) fun (t_8 : Bool) =>
 appK jt_9 t_8) (appK jt_9 false)

def e0 (list : (List PRate.Rate)) (s : Int) : Option (Bool) :=
 letK s fun i_3l0 =>
 letK (decide ((list.length : Int) ≤ 16)) fun (t_85 : Bool) =>
 some t_85

def P (fuel : Nat) (list : (List PRate.Rate)) : Option (Bool) :=
 loopK (l0 list) fuel (0) (e0 list)

set_option maxRecDepth 100000 in
set_option maxHeartbeats 2000000 in
theorem C (fuel : Nat) (list : (List PRate.Rate)) (A0 : Option Addr) (c0 : Nat)  (w : World) (M0 : Hid (Cells w 5 A0 list.length (PRate.flat list))) (N0 : Hid (list.length ≤ 9223372036854775807))  {r : Bool} (H : Hid (P fuel list = some r)) :
  Calls Try.prog 39 #[.slice A0 list.length c0] w (Gives (.bool r) w) := by
 have HB := Lib.hid (Below.refl w.heap.size w); unfold P at H; have N0o := N0.out
 go_enter Try.func39, Try.ntmps39
 go_wp2_with fail; go_loopg [3] (fuel) (fun m_ v3_ wr => ∃ (i11 : Int), v3_ = .int .i64 i11 ∧ Hid (loopK (l0 list) m_ (i11) (e0 list) = some r) ∧ Hid (Below w.heap.size w wr))
 case atStart => exact ⟨_, rfl, H, HB⟩
 case round =>
  obtain ⟨i11, rfl, H, p10⟩ := hrel; rename World => wr0
  cases gk with
  | zero => exact (loop_zero H).elim
  | succ m0 =>
   replace H := loop_succ H; unfold l0 at H; replace H := let_hid H; obtain ⟨_, rfl, H⟩ := H; replace H := let_hid H; obtain ⟨t_5, ht_5, H⟩ := H; replace H := join_hid H
   cases t_5 with
   | false =>
    replace H := ite_f H; replace H := app_hid H; replace H := ite_f H; replace H := app_hid H; unfold e0 at H; replace H := let_hid H; obtain ⟨_, rfl, H⟩ := H; replace H := let_hid H; obtain ⟨t_85, l12, H⟩ := H; obtain rfl := ret_hid H; go_wp2_with fail; go_ret; exact ⟨rfl, p10.out⟩
   | true =>
    replace H := ite_t H; replace H := let_hid H; obtain ⟨t_8, ht_8, H⟩ := H; replace H := app_hid H
    cases t_8 with
    | false =>
     replace H := ite_f H; replace H := app_hid H; unfold e0 at H; replace H := let_hid H; obtain ⟨_, rfl, H⟩ := H; replace H := let_hid H; obtain ⟨t_85, l12, H⟩ := H; obtain rfl := ret_hid H; go_wp2_with fail; go_ret; exact ⟨rfl, p10.out⟩
    | true =>
     replace H := ite_t H; go_wp2_with fail; replace H := idx_hid H; obtain ⟨q10, y12, g13, j13, z10, H⟩ := H; subst g13; have i14 : q10 < list.length := (by have := of_decide_eq_true ht_5; omega); have k14 : q10 ≤ 16 := (by have := of_decide_eq_true ht_8; omega); obtain ⟨b11, g11, c11, e11, f11⟩ := y12; replace H := unRate_hid H; obtain ⟨t13, h14, z13, w12, r11, a10, d10, e10, c10, b10⟩ := ORate.at_ M0.out j13; obtain rfl := Option.some.inj (z10.out.symm.trans r11); subst w12; have r13 := cell_lt a10; replace a10 := cell_below p10.out a10; replace d10 := cell_below p10.out d10; replace e10 := cell_below p10.out e10; replace c10 := cell_below p10.out c10; replace b10 := cell_below p10.out b10; clear r11; have x13 : (0 : Int) ≤ (q10 : Int) := (by omega); have v13 : (q10 : Int) < ((list.length : Nat) : Int) := (by omega); have c14 : ((q10 : Int)).toNat = q10 := (by omega); have o10 := Lib.hid a10; replace a10 := cell_regrown a10; have l10 := Lib.hid d10; replace d10 := cell_regrown d10; have m10 := Lib.hid e10; replace e10 := cell_regrown e10; have n10 := Lib.hid c10; replace c10 := cell_regrown c10; have k10 := Lib.hid b10; replace b10 := cell_regrown b10; replace H := bind_hid H; obtain ⟨t_14, o13, H⟩ := H; have y10 : ∀ d os, Calls Try.prog 80 #[.agg #[.int .i64 b11, .int .i64 g11, .int .i64 c11, .int .i64 e11, .int .i64 f11]] (Go.Sort.grow (redrawn wr0 d) os) fun e w'' => e = .returned (.bool t_14) ∧ ∃ p : Regrown, w'' = Go.Sort.grow (redrawn wr0 p.d) p.os := fun d os => Calls.regrown_of (GsL8One.C ((PRate.Rate.mk b11 g11 c11 e11 f11))  _    o13)
     cases t_14 with
     | false =>
      replace H := let_hid H; obtain ⟨t_15, j11, H⟩ := H; obtain rfl : t_15 = true := j11.symm; replace H := join_hid H; replace H := ite_t H; replace H := app_hid H; refine wp_region_quiet_below (by kernel_rfl) (by kernel_rfl) ?_
      repeat (go_big_quiet_step (first | (go_at_call 80; exact y10 _ _)))
      refine wpQuiet_nil ?_; intro Y4 hY4; replace hY4 := below_class hY4; clear y10; replace a10 := o10.out; clear o10; replace d10 := l10.out; clear l10; replace e10 := m10.out; clear m10; replace c10 := n10.out; clear n10; replace b10 := k10.out; clear k10; have HBY4 := Lib.hid (Below.step p10.out hY4); replace a10 := cell_below hY4 a10; replace d10 := cell_below hY4 d10; replace e10 := cell_below hY4 e10; replace c10 := cell_below hY4 c10; replace b10 := cell_below hY4 b10; clear hY4; replace H := ite_t H; obtain rfl := ret_hid H; go_wp2_with fail; go_ret; exact ⟨rfl, HBY4.out⟩
     | true =>
      replace H := let_hid H; obtain ⟨t_15, j11, H⟩ := H; obtain rfl : t_15 = false := j11.symm; replace H := join_hid H; replace H := ite_f H; replace H := let_hid H; obtain ⟨t_18, a11, H⟩ := H; replace H := join_hid H
      cases t_18 with
      | false =>
       have e13 : ¬ (0 < q10) := (by have := of_decide_eq_false a11; omega); replace H := ite_f H; replace H := app_hid H; replace H := app_hid H; refine wp_region_quiet_below (by kernel_rfl) (by kernel_rfl) ?_
       repeat (go_big_quiet_step (first | (go_at_call 80; exact y10 _ _)))
       refine wpQuiet_nil ?_; intro Y4 hY4; replace hY4 := below_class hY4; clear y10; replace a10 := o10.out; clear o10; replace d10 := l10.out; clear l10; replace e10 := m10.out; clear m10; replace c10 := n10.out; clear n10; replace b10 := k10.out; clear k10; have HBY4 := Lib.hid (Below.step p10.out hY4); replace a10 := cell_below hY4 a10; replace d10 := cell_below hY4 d10; replace e10 := cell_below hY4 e10; replace c10 := cell_below hY4 c10; replace b10 := cell_below hY4 b10; clear hY4; replace H := ite_f H; go_wp2_with fail; have o10 := Lib.hid a10; replace a10 := cell_regrown a10; have l10 := Lib.hid d10; replace d10 := cell_regrown d10; have m10 := Lib.hid e10; replace e10 := cell_regrown e10; have n10 := Lib.hid c10; replace c10 := cell_regrown c10; have k10 := Lib.hid b10; replace b10 := cell_regrown b10; replace H := let_hid H; obtain ⟨t_36, k11, H⟩ := H; obtain rfl := a11.symm.trans k11; replace H := join_hid H; replace H := ite_f H; replace H := app_hid H; replace H := join_hid H; replace H := ite_f H; replace H := app_hid H; replace H := join_hid H; replace H := ite_f H; replace H := app_hid H; refine wp_region_quiet_below (by kernel_rfl) (by kernel_rfl) ?_
       repeat (go_big_quiet_step (fail))
       refine wpQuiet_nil ?_; intro Y6 hY6; replace hY6 := below_class hY6; replace a10 := o10.out; clear o10; replace d10 := l10.out; clear l10; replace e10 := m10.out; clear m10; replace c10 := n10.out; clear n10; replace b10 := k10.out; clear k10; have HBY6 := Lib.hid (Below.step HBY4.out hY6); replace a10 := cell_below hY6 a10; replace d10 := cell_below hY6 d10; replace e10 := cell_below hY6 e10; replace c10 := cell_below hY6 c10; replace b10 := cell_below hY6 b10; clear hY6; replace H := ite_f H; replace H := let_hid H; obtain ⟨t_81, l11, H⟩ := H; replace H := app_hid H; go_wp2_with fail
       go_roundg m0
       case measure => omega
       case rel => exact ⟨_, rfl, H, HBY6⟩
      | true =>
       have e13 : 0 < q10 := (by have := of_decide_eq_true a11; omega); replace H := ite_t H; replace H := let_hid H; obtain ⟨t_22, h11, H⟩ := H; replace H := idx_hid H; obtain ⟨x10, e12, h13, j12, d11, H⟩ := H; subst h13; obtain ⟨c12, d12, y11, p11, s11⟩ := e12; replace H := unRate_hid H; obtain ⟨g14, q14, f14, w11, x11, f10, i10, j10, g10, h10⟩ := ORate.at_ M0.out j12; obtain rfl := Option.some.inj (d11.out.symm.trans x11); simp only [Option.some.injEq, Addr.mk.injEq] at w11; obtain ⟨rfl, rfl, _⟩ := w11; have p13 := cell_lt f10; replace f10 := cell_below p10.out f10; replace i10 := cell_below p10.out i10; replace j10 := cell_below p10.out j10; replace g10 := cell_below p10.out g10; replace h10 := cell_below p10.out h10; clear x11; have n14 : (0 : Int) ≤ (x10 : Int) := (by omega); have m14 : (x10 : Int) < ((list.length : Nat) : Int) := (by omega); have e14 : ((x10 : Int)).toNat = x10 := (by omega); have r10 := Lib.hid f10; replace f10 := cell_regrown f10; have t10 := Lib.hid i10; replace i10 := cell_regrown i10; have v10 := Lib.hid j10; replace j10 := cell_regrown j10; have s10 := Lib.hid g10; replace g10 := cell_regrown g10; have w10 := Lib.hid h10; replace h10 := cell_regrown h10; replace H := bind_hid H; obtain ⟨t_25, k13, H⟩ := H; have m11 : ∀ d os, Calls Try.prog 81 #[.agg #[.int .i64 c12, .int .i64 d12, .int .i64 y11, .int .i64 p11, .int .i64 s11]] (Go.Sort.grow (redrawn wr0 d) os) fun e w'' => e = .returned (.int .i64 t_25) ∧ ∃ p : Regrown, w'' = Go.Sort.grow (redrawn wr0 p.d) p.os := fun d os => Calls.regrown_of (GsL8Code.C ((PRate.Rate.mk c12 d12 y11 p11 s11))  _    k13); replace H := idx_hid H; obtain ⟨k12, b14, z12, q12, q11, H⟩ := H; obtain rfl : q10 = k12 := (by omega); clear z12; obtain rfl := Option.some.inj (z10.out.symm.trans q11.out); clear q11 q12; replace H := unRate_hid H; replace H := bind_hid H; obtain ⟨t_30, a13, H⟩ := H; have n11 : ∀ d os, Calls Try.prog 81 #[.agg #[.int .i64 b11, .int .i64 g11, .int .i64 c11, .int .i64 e11, .int .i64 f11]] (Go.Sort.grow (redrawn wr0 d) os) fun e w'' => e = .returned (.int .i64 t_30) ∧ ∃ p : Regrown, w'' = Go.Sort.grow (redrawn wr0 p.d) p.os := fun d os => Calls.regrown_of (GsL8Code.C ((PRate.Rate.mk b11 g11 c11 e11 f11))  _    a13); replace H := let_hid H; obtain ⟨t_31, d14, H⟩ := H; replace H := app_hid H; replace H := app_hid H; refine wp_region_quiet_below (by kernel_rfl) (by kernel_rfl) ?_
       repeat (go_big_quiet_step (first | (go_at_call 81; with_reducible exact m11 _ _) | (go_at_call 81; with_reducible exact n11 _ _) | (go_at_call 80; exact y10 _ _) | (go_at_call 81; exact m11 _ _) | (go_at_call 81; exact n11 _ _)))
       refine wpQuiet_nil ?_; intro Y4 hY4; replace hY4 := below_class hY4; clear y10 m11 n11; replace a10 := o10.out; clear o10; replace d10 := l10.out; clear l10; replace e10 := m10.out; clear m10; replace c10 := n10.out; clear n10; replace b10 := k10.out; clear k10; replace f10 := r10.out; clear r10; replace i10 := t10.out; clear t10; replace j10 := v10.out; clear v10; replace g10 := s10.out; clear s10; replace h10 := w10.out; clear w10; have HBY4 := Lib.hid (Below.step p10.out hY4); replace a10 := cell_below hY4 a10; replace d10 := cell_below hY4 d10; replace e10 := cell_below hY4 e10; replace c10 := cell_below hY4 c10; replace b10 := cell_below hY4 b10; replace f10 := cell_below hY4 f10; replace i10 := cell_below hY4 i10; replace j10 := cell_below hY4 j10; replace g10 := cell_below hY4 g10; replace h10 := cell_below hY4 h10; clear hY4
       cases t_31 with
       | false =>
        replace H := ite_f H; go_wp2_with fail; have o10 := Lib.hid a10; replace a10 := cell_regrown a10; have l10 := Lib.hid d10; replace d10 := cell_regrown d10; have m10 := Lib.hid e10; replace e10 := cell_regrown e10; have n10 := Lib.hid c10; replace c10 := cell_regrown c10; have k10 := Lib.hid b10; replace b10 := cell_regrown b10; have r10 := Lib.hid f10; replace f10 := cell_regrown f10; have t10 := Lib.hid i10; replace i10 := cell_regrown i10; have v10 := Lib.hid j10; replace j10 := cell_regrown j10; have s10 := Lib.hid g10; replace g10 := cell_regrown g10; have w10 := Lib.hid h10; replace h10 := cell_regrown h10; replace H := let_hid H; obtain ⟨t_36, k11, H⟩ := H; obtain rfl := a11.symm.trans k11; replace H := join_hid H; replace H := ite_t H; replace H := let_hid H; obtain ⟨t_40, x12, H⟩ := H; obtain rfl := h11.symm.trans x12; replace H := idx_hid H; obtain ⟨r12, s13, l13, g12, z11, H⟩ := H; obtain rfl : x10 = r12 := (by omega); clear l13; obtain rfl := Option.some.inj (d11.out.symm.trans z11.out); clear z11 g12; replace H := unRate_hid H; replace H := idx_hid H; obtain ⟨f12, p14, d13, c13, b12, H⟩ := H; obtain rfl : q10 = f12 := (by omega); clear d13; obtain rfl := Option.some.inj (z10.out.symm.trans b12.out); clear b12 c13; replace H := unRate_hid H; replace H := let_hid H; obtain ⟨t_49, q13, H⟩ := H; replace H := app_hid H; replace H := join_hid H
        cases t_49 with
        | false =>
         replace H := ite_f H; replace H := app_hid H; replace H := join_hid H; replace H := ite_f H; replace H := app_hid H; refine wp_region_quiet_below (by kernel_rfl) (by kernel_rfl) ?_
         repeat (go_big_quiet_step (fail))
         refine wpQuiet_nil ?_; intro Y6 hY6; replace hY6 := below_class hY6; replace a10 := o10.out; clear o10; replace d10 := l10.out; clear l10; replace e10 := m10.out; clear m10; replace c10 := n10.out; clear n10; replace b10 := k10.out; clear k10; replace f10 := r10.out; clear r10; replace i10 := t10.out; clear t10; replace j10 := v10.out; clear v10; replace g10 := s10.out; clear s10; replace h10 := w10.out; clear w10; have HBY6 := Lib.hid (Below.step HBY4.out hY6); replace a10 := cell_below hY6 a10; replace d10 := cell_below hY6 d10; replace e10 := cell_below hY6 e10; replace c10 := cell_below hY6 c10; replace b10 := cell_below hY6 b10; replace f10 := cell_below hY6 f10; replace i10 := cell_below hY6 i10; replace j10 := cell_below hY6 j10; replace g10 := cell_below hY6 g10; replace h10 := cell_below hY6 h10; clear hY6; replace H := ite_f H; replace H := let_hid H; obtain ⟨t_81, l11, H⟩ := H; replace H := app_hid H; go_wp2_with fail
         go_roundg m0
         case measure => omega
         case rel => exact ⟨_, rfl, H, HBY6⟩
        | true =>
         replace H := ite_t H; replace H := let_hid H; obtain ⟨t_54, m12, H⟩ := H; obtain rfl := h11.symm.trans m12; replace H := idx_hid H; obtain ⟨p12, o14, o12, i12, v11, H⟩ := H; obtain rfl : x10 = p12 := (by omega); clear o12; obtain rfl := Option.some.inj (d11.out.symm.trans v11.out); clear v11 i12; replace H := unRate_hid H; replace H := idx_hid H; obtain ⟨n13, y13, b13, n12, a12, H⟩ := H; obtain rfl : q10 = n13 := (by omega); clear b13; obtain rfl := Option.some.inj (z10.out.symm.trans a12.out); clear a12 n12; replace H := unRate_hid H; replace H := let_hid H; obtain ⟨t_63, l14, H⟩ := H; replace H := app_hid H; replace H := join_hid H
         cases t_63 with
         | false =>
          replace H := ite_f H; replace H := app_hid H; refine wp_region_quiet_below (by kernel_rfl) (by kernel_rfl) ?_
          repeat (go_big_quiet_step (fail))
          refine wpQuiet_nil ?_; intro Y6 hY6; replace hY6 := below_class hY6; replace a10 := o10.out; clear o10; replace d10 := l10.out; clear l10; replace e10 := m10.out; clear m10; replace c10 := n10.out; clear n10; replace b10 := k10.out; clear k10; replace f10 := r10.out; clear r10; replace i10 := t10.out; clear t10; replace j10 := v10.out; clear v10; replace g10 := s10.out; clear s10; replace h10 := w10.out; clear w10; have HBY6 := Lib.hid (Below.step HBY4.out hY6); replace a10 := cell_below hY6 a10; replace d10 := cell_below hY6 d10; replace e10 := cell_below hY6 e10; replace c10 := cell_below hY6 c10; replace b10 := cell_below hY6 b10; replace f10 := cell_below hY6 f10; replace i10 := cell_below hY6 i10; replace j10 := cell_below hY6 j10; replace g10 := cell_below hY6 g10; replace h10 := cell_below hY6 h10; clear hY6; replace H := ite_f H; replace H := let_hid H; obtain ⟨t_81, l11, H⟩ := H; replace H := app_hid H; go_wp2_with fail
          go_roundg m0
          case measure => omega
          case rel => exact ⟨_, rfl, H, HBY6⟩
         | true =>
          replace H := ite_t H; replace H := let_hid H; obtain ⟨t_68, v12, H⟩ := H; obtain rfl := h11.symm.trans v12; replace H := idx_hid H; obtain ⟨s12, j14, f13, i13, t11, H⟩ := H; obtain rfl : x10 = s12 := (by omega); clear f13; obtain rfl := Option.some.inj (d11.out.symm.trans t11.out); clear t11 i13; replace H := unRate_hid H; replace H := idx_hid H; obtain ⟨h12, a14, m13, t12, o11, H⟩ := H; obtain rfl : q10 = h12 := (by omega); clear m13; obtain rfl := Option.some.inj (z10.out.symm.trans o11.out); clear o11 t12; replace H := unRate_hid H; replace H := let_hid H; obtain ⟨t_77, w13, H⟩ := H; replace H := app_hid H; refine wp_region_quiet_below (by kernel_rfl) (by kernel_rfl) ?_
          repeat (go_big_quiet_step (fail))
          refine wpQuiet_nil ?_; intro Y6 hY6; replace hY6 := below_class hY6; replace a10 := o10.out; clear o10; replace d10 := l10.out; clear l10; replace e10 := m10.out; clear m10; replace c10 := n10.out; clear n10; replace b10 := k10.out; clear k10; replace f10 := r10.out; clear r10; replace i10 := t10.out; clear t10; replace j10 := v10.out; clear v10; replace g10 := s10.out; clear s10; replace h10 := w10.out; clear w10; have HBY6 := Lib.hid (Below.step HBY4.out hY6); replace a10 := cell_below hY6 a10; replace d10 := cell_below hY6 d10; replace e10 := cell_below hY6 e10; replace c10 := cell_below hY6 c10; replace b10 := cell_below hY6 b10; replace f10 := cell_below hY6 f10; replace i10 := cell_below hY6 i10; replace j10 := cell_below hY6 j10; replace g10 := cell_below hY6 g10; replace h10 := cell_below hY6 h10; clear hY6
          cases t_77 with
          | false =>
           replace H := ite_f H; replace H := let_hid H; obtain ⟨t_81, l11, H⟩ := H; replace H := app_hid H; go_wp2_with fail
           go_roundg m0
           case measure => omega
           case rel => exact ⟨_, rfl, H, HBY6⟩
          | true =>
           replace H := ite_t H; obtain rfl := ret_hid H; go_wp2_with fail; go_ret; exact ⟨rfl, HBY6.out⟩
       | true =>
        replace H := ite_t H; obtain rfl := ret_hid H; go_wp2_with fail; go_ret; exact ⟨rfl, HBY4.out⟩
end Go.Proofs.Ytgbcdmlcmnaimaa.GsL8Good

namespace Go.Proofs.Ytgbcdmlcmnaimaa.GsL9Good
open Go.RowKit
open Go.Proofs.Ytgbcdmlcmnaimaa.Rowed Go.Proofs.Ytgbcdmlcmnaimaa.Turn Go.Proofs.Ytgbcdmlcmnaimaa.Aid Go.Proofs.Ytgbcdmlcmnaimaa.GoP Go.Proofs.Ytgbcdmlcmnaimaa.GoM

def l0 (list : (List PMail.Mail)) (k0 : Nat) (s : Unit) (nx0 bk0 : Unit → Option (Bool)) : Option (Bool) :=
 
 Option.bind (idx list (k0 : Int)) fun (yt_8 : PMail.Mail) =>
 unMail yt_8 fun (t_8_leave : Int) (t_8_from_ : Int) (t_8_to_ : Int) (t_8_arrive : Int) =>
 Option.bind (GsL9One.P (PMail.Mail.mk t_8_leave t_8_from_ t_8_to_ t_8_arrive)) fun (t_10 : Bool) =>
 letK (!t_10) fun (t_11 : Bool) =>
 joinK (fun (t_29 : Bool) =>
 iteK t_29
 (some false)
 (appK nx0 ())) fun jt_29 => iteK t_11 (appK jt_29 true) (letK (decide (0 < (k0 : Int))) fun (t_14 : Bool) =>
 joinK (fun (t_28 : Bool) =>
 appK jt_29 t_28) fun jt_28 => iteK t_14 (letK (IntKind.i64.wrap ((k0 : Int) - 1)) fun (t_18 : Int) =>
 Option.bind (idx list t_18) fun (yt_19 : PMail.Mail) =>
 unMail yt_19 fun (t_19_leave : Int) (t_19_from_ : Int) (t_19_to_ : Int) (t_19_arrive : Int) =>
 Option.bind (GsL9Code.P (PMail.Mail.mk t_19_leave t_19_from_ t_19_to_ t_19_arrive)) fun (t_21 : Int) =>
 Option.bind (idx list (k0 : Int)) fun (yt_24 : PMail.Mail) =>
 unMail yt_24 fun (t_24_leave : Int) (t_24_from_ : Int) (t_24_to_ : Int) (t_24_arrive : Int) =>
 Option.bind (GsL9Code.P (PMail.Mail.mk t_24_leave t_24_from_ t_24_to_ t_24_arrive)) fun (t_26 : Int) =>
 letK (decide (t_26 ≤ t_21)) fun (t_27 : Bool) =>
 appK jt_28 t_27) (appK jt_28 false))

def e0 (list : (List PMail.Mail)) (s : Unit) : Option (Bool) :=
 
 letK (decide ((list.length : Int) ≤ 20)) fun (t_36 : Bool) =>
 some t_36

def P (list : (List PMail.Mail)) : Option (Bool) :=
 cntK (l0 list) (list.length) 0 () (e0 list)

set_option maxRecDepth 100000 in
set_option maxHeartbeats 2000000 in
theorem C (list : (List PMail.Mail)) (A0 : Option Addr) (c0 : Nat)  (w : World) (M0 : Hid (Cells w 4 A0 list.length (PMail.flat list))) (N0 : Hid (list.length ≤ 9223372036854775807))  {r : Bool} (H : Hid (P list = some r)) :
  Calls Try.prog 40 #[.slice A0 list.length c0] w (Gives (.bool r) w) := by
 have HB := Lib.hid (Below.refl w.heap.size w); unfold P at H; have N0o := N0.out
 go_enter Try.func40, Try.ntmps40
 go_wp2_with fail; go_loopg [3] (list.length) (fun m_ v3_ wr => ∃ (k0 : Nat) , k0 + m_ = list.length ∧ v3_ = .int .i64 (k0 : Int) ∧ Hid (cntK (l0 list) m_ k0 () (e0 list) = some r) ∧ Hid (Below w.heap.size w wr))
 case atStart => exact ⟨0, by omega, rfl, H, HB⟩
 case round =>
  obtain ⟨k0, hkm0, rfl, H, e10⟩ := hrel; rename World => wr0
  cases gk with
  | zero =>
   obtain rfl : k0 = list.length := (by omega); have hc0 : decide (((list.length : Nat) : Int) < ((list.length : Nat) : Int)) = false := (by simp); replace H := cnt_zero H; unfold e0 at H; replace H := let_hid H; obtain ⟨t_36, f12, H⟩ := H; obtain rfl := ret_hid H; go_wp2_with fail; go_ret; exact ⟨rfl, e10.out⟩
  | succ m0 =>
   have hlt0 : k0 < list.length := (by omega); have hc0 : decide ((k0 : Int) < ((list.length : Nat) : Int)) = true := (by simp; omega); replace H := cnt_succ H; unfold l0 at H; go_wp2_with fail; replace H := idx_hid H; obtain ⟨nt_8, yt_8, et_8, lt_8, gt_8, H⟩ := H; obtain rfl : k0 = nt_8 := (by omega); clear et_8; obtain ⟨r10, q10, s10, p10⟩ := yt_8; replace H := unMail_hid H; obtain ⟨i12, d12, zt_8, At_8, g11, a10, b10, c10, d10⟩ := OMail.at_ M0.out lt_8; obtain rfl := Option.some.inj (gt_8.out.symm.trans g11); subst At_8; have k12 := cell_lt a10; replace a10 := cell_below e10.out a10; replace b10 := cell_below e10.out b10; replace c10 := cell_below e10.out c10; replace d10 := cell_below e10.out d10; clear g11; have l12 : (0 : Int) ≤ (k0 : Int) := (by omega); have h12 : (k0 : Int) < ((list.length : Nat) : Int) := (by omega); have x11 : ((k0 : Int)).toNat = k0 := (by omega); have m10 := Lib.hid a10; replace a10 := cell_regrown a10; have n10 := Lib.hid b10; replace b10 := cell_regrown b10; have j10 := Lib.hid c10; replace c10 := cell_regrown c10; have l10 := Lib.hid d10; replace d10 := cell_regrown d10; replace H := bind_hid H; obtain ⟨t_10, n11, H⟩ := H; have k10 : ∀ d os, Calls Try.prog 78 #[.agg #[.int .i64 r10, .int .i64 q10, .int .i64 s10, .int .i64 p10]] (Go.Sort.grow (redrawn wr0 d) os) fun e w'' => e = .returned (.bool t_10) ∧ ∃ p : Regrown, w'' = Go.Sort.grow (redrawn wr0 p.d) p.os := fun d os => Calls.regrown_of (GsL9One.C ((PMail.Mail.mk r10 q10 s10 p10))  _    n11)
   cases t_10 with
   | false =>
    replace H := let_hid H; obtain ⟨t_11, t10, H⟩ := H; obtain rfl : t_11 = true := t10.symm; replace H := join_hid H; replace H := ite_t H; replace H := app_hid H; refine wp_region_quiet_below (by kernel_rfl) (by kernel_rfl) ?_
    repeat (go_big_quiet_step (first | (go_at_call 78; exact k10 _ _)))
    refine wpQuiet_nil ?_; intro Y4 hY4; replace hY4 := below_class hY4; clear k10; replace a10 := m10.out; clear m10; replace b10 := n10.out; clear n10; replace c10 := j10.out; clear j10; replace d10 := l10.out; clear l10; have HBY4 := Lib.hid (Below.step e10.out hY4); replace a10 := cell_below hY4 a10; replace b10 := cell_below hY4 b10; replace c10 := cell_below hY4 c10; replace d10 := cell_below hY4 d10; clear hY4; replace H := ite_t H; obtain rfl := ret_hid H; go_wp2_with fail; go_ret; exact ⟨rfl, HBY4.out⟩
   | true =>
    replace H := let_hid H; obtain ⟨t_11, t10, H⟩ := H; obtain rfl : t_11 = false := t10.symm; replace H := join_hid H; replace H := ite_f H; replace H := let_hid H; obtain ⟨t_14, h11, H⟩ := H; replace H := join_hid H
    cases t_14 with
    | false =>
     have p11 : ¬ (0 < k0) := (by have := of_decide_eq_false h11; omega); replace H := ite_f H; replace H := app_hid H; replace H := app_hid H; refine wp_region_quiet_below (by kernel_rfl) (by kernel_rfl) ?_
     repeat (go_big_quiet_step (first | (go_at_call 78; exact k10 _ _)))
     refine wpQuiet_nil ?_; intro Y4 hY4; replace hY4 := below_class hY4; clear k10; replace a10 := m10.out; clear m10; replace b10 := n10.out; clear n10; replace c10 := j10.out; clear j10; replace d10 := l10.out; clear l10; have HBY4 := Lib.hid (Below.step e10.out hY4); replace a10 := cell_below hY4 a10; replace b10 := cell_below hY4 b10; replace c10 := cell_below hY4 c10; replace d10 := cell_below hY4 d10; clear hY4; replace H := ite_f H; replace H := app_hid H; go_wp2_with fail
     go_roundg m0
     case measure => omega
     case rel => exact ⟨k0 + 1, by omega, by go_num, H, HBY4⟩
    | true =>
     have p11 : 0 < k0 := (by have := of_decide_eq_true h11; omega); replace H := ite_t H; replace H := let_hid H; obtain ⟨t_18, z11, H⟩ := H; replace H := idx_hid H; obtain ⟨o10, t11, o11, v11, l11, H⟩ := H; subst o11; obtain ⟨j11, e11, c11, x10⟩ := t11; replace H := unMail_hid H; obtain ⟨y11, a12, e12, i11, d11, f10, i10, h10, g10⟩ := OMail.at_ M0.out v11; obtain rfl := Option.some.inj (l11.out.symm.trans d11); simp only [Option.some.injEq, Addr.mk.injEq] at i11; obtain ⟨rfl, rfl, _⟩ := i11; have j12 := cell_lt f10; replace f10 := cell_below e10.out f10; replace i10 := cell_below e10.out i10; replace h10 := cell_below e10.out h10; replace g10 := cell_below e10.out g10; clear d11; have w11 : (0 : Int) ≤ (o10 : Int) := (by omega); have g12 : (o10 : Int) < ((list.length : Nat) : Int) := (by omega); have b12 : ((o10 : Int)).toNat = o10 := (by omega); have a11 := Lib.hid f10; replace f10 := cell_regrown f10; have b11 := Lib.hid i10; replace i10 := cell_regrown i10; have f11 := Lib.hid h10; replace h10 := cell_regrown h10; have z10 := Lib.hid g10; replace g10 := cell_regrown g10; replace H := bind_hid H; obtain ⟨t_21, k11, H⟩ := H; have w10 : ∀ d os, Calls Try.prog 79 #[.agg #[.int .i64 j11, .int .i64 e11, .int .i64 c11, .int .i64 x10]] (Go.Sort.grow (redrawn wr0 d) os) fun e w'' => e = .returned (.int .i64 t_21) ∧ ∃ p : Regrown, w'' = Go.Sort.grow (redrawn wr0 p.d) p.os := fun d os => Calls.regrown_of (GsL9Code.C ((PMail.Mail.mk j11 e11 c11 x10))  _    k11); replace H := idx_hid H; obtain ⟨q11, m12, r11, s11, y10, H⟩ := H; obtain rfl : k0 = q11 := (by omega); clear r11; obtain rfl := Option.some.inj (gt_8.out.symm.trans y10.out); clear y10 s11; replace H := unMail_hid H; replace H := bind_hid H; obtain ⟨t_26, m11, H⟩ := H; have v10 : ∀ d os, Calls Try.prog 79 #[.agg #[.int .i64 r10, .int .i64 q10, .int .i64 s10, .int .i64 p10]] (Go.Sort.grow (redrawn wr0 d) os) fun e w'' => e = .returned (.int .i64 t_26) ∧ ∃ p : Regrown, w'' = Go.Sort.grow (redrawn wr0 p.d) p.os := fun d os => Calls.regrown_of (GsL9Code.C ((PMail.Mail.mk r10 q10 s10 p10))  _    m11); replace H := let_hid H; obtain ⟨t_27, c12, H⟩ := H; replace H := app_hid H; replace H := app_hid H; refine wp_region_quiet_below (by kernel_rfl) (by kernel_rfl) ?_
     repeat (go_big_quiet_step (first | (go_at_call 79; with_reducible exact w10 _ _) | (go_at_call 79; with_reducible exact v10 _ _) | (go_at_call 78; exact k10 _ _) | (go_at_call 79; exact w10 _ _) | (go_at_call 79; exact v10 _ _)))
     refine wpQuiet_nil ?_; intro Y4 hY4; replace hY4 := below_class hY4; clear k10 w10 v10; replace a10 := m10.out; clear m10; replace b10 := n10.out; clear n10; replace c10 := j10.out; clear j10; replace d10 := l10.out; clear l10; replace f10 := a11.out; clear a11; replace i10 := b11.out; clear b11; replace h10 := f11.out; clear f11; replace g10 := z10.out; clear z10; have HBY4 := Lib.hid (Below.step e10.out hY4); replace a10 := cell_below hY4 a10; replace b10 := cell_below hY4 b10; replace c10 := cell_below hY4 c10; replace d10 := cell_below hY4 d10; replace f10 := cell_below hY4 f10; replace i10 := cell_below hY4 i10; replace h10 := cell_below hY4 h10; replace g10 := cell_below hY4 g10; clear hY4
     cases t_27 with
     | false =>
      replace H := ite_f H; replace H := app_hid H; go_wp2_with fail
      go_roundg m0
      case measure => omega
      case rel => exact ⟨k0 + 1, by omega, by go_num, H, HBY4⟩
     | true =>
      replace H := ite_t H; obtain rfl := ret_hid H; go_wp2_with fail; go_ret; exact ⟨rfl, HBY4.out⟩
end Go.Proofs.Ytgbcdmlcmnaimaa.GsL9Good

namespace Go.Proofs.Ytgbcdmlcmnaimaa.GsL10One
open Go.RowKit
open Go.Proofs.Ytgbcdmlcmnaimaa.Rowed Go.Proofs.Ytgbcdmlcmnaimaa.Turn Go.Proofs.Ytgbcdmlcmnaimaa.Aid Go.Proofs.Ytgbcdmlcmnaimaa.GoP Go.Proofs.Ytgbcdmlcmnaimaa.GoM

def P (x : PCover.Cover) : Option (Bool) :=
 unCover x fun (x_id : Int) (x_day : Int) (x_zone : Int) (x_grams : Int) (x_paid : Int) (x_from_ : Int) (x_to_ : Int) (x_leave : Int) (x_arrive : Int) =>
 Option.bind (GsL1In.P x_id 1 999) fun (t_4 : Bool) =>
 letK (!t_4) fun (t_5 : Bool) =>
 joinK (fun (t_11 : Bool) =>
 joinK (fun (t_17 : Bool) =>
 joinK (fun (t_23 : Bool) =>
 joinK (fun (t_29 : Bool) =>
 iteK t_29
 (some false)
 (Option.bind (GsL9Office.P x_from_) fun (t_33 : Bool) =>
 joinK (fun (t_38 : Bool) =>
 joinK (fun (t_45 : Bool) =>
 joinK (fun (t_50 : Bool) =>
 joinK (fun (t_57 : Bool) =>
 some t_57) fun jt_57 => iteK t_50 (Option.bind (GsL1In.P x_leave 0 x_arrive) fun (t_56 : Bool) =>
 appK jt_57 t_56) (appK jt_57 false)) fun jt_50 => iteK t_45 (Option.bind (GsL9Minute.P x_arrive) fun (t_49 : Bool) =>
 appK jt_50 t_49) (appK jt_50 false)) fun jt_45 => iteK t_38 (letK (x_from_ != x_to_) fun (t_44 : Bool) =>
 appK jt_45 t_44) (appK jt_45 false)) fun jt_38 => iteK t_33 (Option.bind (GsL9Office.P x_to_) fun (t_37 : Bool) =>
 appK jt_38 t_37) (appK jt_38 false))) fun jt_29 => iteK t_23 (appK jt_29 true) (Option.bind (GsL8Cents.P x_paid) fun (t_27 : Bool) =>
 letK (!t_27) fun (t_28 : Bool) =>
 appK jt_29 t_28)) fun jt_23 => iteK t_17 (appK jt_23 true) (Option.bind (GsL8Grams.P x_grams) fun (t_21 : Bool) =>
 letK (!t_21) fun (t_22 : Bool) =>
 appK jt_23 t_22)) fun jt_17 => iteK t_11 (appK jt_17 true) (Option.bind (GsL8Zone.P x_zone) fun (t_15 : Bool) =>
 letK (!t_15) fun (t_16 : Bool) =>
 appK jt_17 t_16)) fun jt_11 => iteK t_5 (appK jt_11 true) (Option.bind (GsL2Day.P x_day) fun (t_9 : Bool) =>
 letK (!t_9) fun (t_10 : Bool) =>
 appK jt_11 t_10)

set_option maxRecDepth 100000 in
set_option maxHeartbeats 2000000 in
theorem C (x : PCover.Cover)   (w : World)   {r : Bool} (H : Hid (P x = some r)) :
  Calls Try.prog 41 #[x.val] w (Gives (.bool r) w) := by
 have HB := Lib.hid (Below.refl w.heap.size w); unfold P at H; obtain ⟨x_id, x_day, x_zone, x_grams, x_paid, x_from_, x_to_, x_leave, x_arrive⟩ := x; replace H := unCover_hid H; unfold PCover.Cover.val
 go_enter Try.func41, Try.ntmps41
 obtain ⟨q10, r10⟩ : ∃ x, w.alloc (.cells #[.int .i64 x_id, .int .i64 x_day, .int .i64 x_zone, .int .i64 x_grams, .int .i64 x_paid, .int .i64 x_from_, .int .i64 x_to_, .int .i64 x_leave, .int .i64 x_arrive] 27) = x := ⟨_, rfl⟩; have y10 : Below w.heap.size w q10 := (by rw [← r10]; exact (Below.refl _ _).alloc (Nat.le_refl _) _); have j11 := Lib.hid (Below.step HB.out y10); clear y10; have i10 : q10.cell? ⟨w.heap.size, 0, none⟩ = some (.int .i64 x_id) := (by rw [← r10]; exact box_new _ _ _ 0 _ rfl); have a10 : q10.cell? ⟨w.heap.size, 1, none⟩ = some (.int .i64 x_day) := (by rw [← r10]; exact box_new _ _ _ 1 _ rfl); have c10 : q10.cell? ⟨w.heap.size, 2, none⟩ = some (.int .i64 x_zone) := (by rw [← r10]; exact box_new _ _ _ 2 _ rfl); have d10 : q10.cell? ⟨w.heap.size, 3, none⟩ = some (.int .i64 x_grams) := (by rw [← r10]; exact box_new _ _ _ 3 _ rfl); have g10 : q10.cell? ⟨w.heap.size, 4, none⟩ = some (.int .i64 x_paid) := (by rw [← r10]; exact box_new _ _ _ 4 _ rfl); have b10 : q10.cell? ⟨w.heap.size, 5, none⟩ = some (.int .i64 x_from_) := (by rw [← r10]; exact box_new _ _ _ 5 _ rfl); have e10 : q10.cell? ⟨w.heap.size, 6, none⟩ = some (.int .i64 x_to_) := (by rw [← r10]; exact box_new _ _ _ 6 _ rfl); have f10 : q10.cell? ⟨w.heap.size, 7, none⟩ = some (.int .i64 x_leave) := (by rw [← r10]; exact box_new _ _ _ 7 _ rfl); have h10 : q10.cell? ⟨w.heap.size, 8, none⟩ = some (.int .i64 x_arrive) := (by rw [← r10]; exact box_new _ _ _ 8 _ rfl); replace H := bind_hid H; obtain ⟨t_4, qt_4, H⟩ := H; go_wp2_with fail; go_at_call 64; refine (GsL1In.C (x_id) (1) (999)  _    qt_4).mono ?_; rintro y11 wt_4 ⟨rfl, bt_4⟩; have z10 := Lib.hid (Below.step j11.out bt_4); replace i10 := cell_below bt_4 i10; replace a10 := cell_below bt_4 a10; replace c10 := cell_below bt_4 c10; replace d10 := cell_below bt_4 d10; replace g10 := cell_below bt_4 g10; replace b10 := cell_below bt_4 b10; replace e10 := cell_below bt_4 e10; replace f10 := cell_below bt_4 f10; replace h10 := cell_below bt_4 h10; clear bt_4
 cases t_4 with
 | false =>
  replace H := let_hid H; obtain ⟨t_5, ht_5, H⟩ := H; obtain rfl : t_5 = true := ht_5.symm; replace H := join_hid H; replace H := ite_t H; replace H := app_hid H; replace H := join_hid H; replace H := ite_t H; replace H := app_hid H; replace H := join_hid H; replace H := ite_t H; replace H := app_hid H; replace H := join_hid H; replace H := ite_t H; replace H := app_hid H; replace H := ite_t H; obtain rfl := ret_hid H; go_wp2_with fail; go_ret; exact ⟨rfl, z10.out⟩
 | true =>
  replace H := let_hid H; obtain ⟨t_5, ht_5, H⟩ := H; obtain rfl : t_5 = false := ht_5.symm; replace H := join_hid H; replace H := ite_f H; replace H := bind_hid H; obtain ⟨t_9, qt_9, H⟩ := H; go_wp2_with fail; go_at_call 82; refine (GsL2Day.C (x_day)  _    qt_9).mono ?_; rintro z11 wt_9 ⟨rfl, bt_9⟩; have a11 := Lib.hid (Below.step z10.out bt_9); replace i10 := cell_below bt_9 i10; replace a10 := cell_below bt_9 a10; replace c10 := cell_below bt_9 c10; replace d10 := cell_below bt_9 d10; replace g10 := cell_below bt_9 g10; replace b10 := cell_below bt_9 b10; replace e10 := cell_below bt_9 e10; replace f10 := cell_below bt_9 f10; replace h10 := cell_below bt_9 h10; clear bt_9
  cases t_9 with
  | false =>
   replace H := let_hid H; obtain ⟨t_10, w10, H⟩ := H; obtain rfl : t_10 = true := w10.symm; replace H := app_hid H; replace H := join_hid H; replace H := ite_t H; replace H := app_hid H; replace H := join_hid H; replace H := ite_t H; replace H := app_hid H; replace H := join_hid H; replace H := ite_t H; replace H := app_hid H; replace H := ite_t H; obtain rfl := ret_hid H; go_wp2_with fail; go_ret; exact ⟨rfl, a11.out⟩
  | true =>
   replace H := let_hid H; obtain ⟨t_10, w10, H⟩ := H; obtain rfl : t_10 = false := w10.symm; replace H := app_hid H; replace H := join_hid H; replace H := ite_f H; replace H := bind_hid H; obtain ⟨t_15, g11, H⟩ := H; go_wp2_with fail; go_at_call 83; refine (GsL8Zone.C (x_zone)  _    g11).mono ?_; rintro c12 w11 ⟨rfl, k10⟩; have c11 := Lib.hid (Below.step a11.out k10); replace i10 := cell_below k10 i10; replace a10 := cell_below k10 a10; replace c10 := cell_below k10 c10; replace d10 := cell_below k10 d10; replace g10 := cell_below k10 g10; replace b10 := cell_below k10 b10; replace e10 := cell_below k10 e10; replace f10 := cell_below k10 f10; replace h10 := cell_below k10 h10; clear k10
   cases t_15 with
   | false =>
    replace H := let_hid H; obtain ⟨t_16, s10, H⟩ := H; obtain rfl : t_16 = true := s10.symm; replace H := app_hid H; replace H := join_hid H; replace H := ite_t H; replace H := app_hid H; replace H := join_hid H; replace H := ite_t H; replace H := app_hid H; replace H := ite_t H; obtain rfl := ret_hid H; go_wp2_with fail; go_ret; exact ⟨rfl, c11.out⟩
   | true =>
    replace H := let_hid H; obtain ⟨t_16, s10, H⟩ := H; obtain rfl : t_16 = false := s10.symm; replace H := app_hid H; replace H := join_hid H; replace H := ite_f H; replace H := bind_hid H; obtain ⟨t_21, k11, H⟩ := H; go_wp2_with fail; go_at_call 84; refine (GsL8Grams.C (x_grams)  _    k11).mono ?_; rintro v11 s11 ⟨rfl, m10⟩; have e11 := Lib.hid (Below.step c11.out m10); replace i10 := cell_below m10 i10; replace a10 := cell_below m10 a10; replace c10 := cell_below m10 c10; replace d10 := cell_below m10 d10; replace g10 := cell_below m10 g10; replace b10 := cell_below m10 b10; replace e10 := cell_below m10 e10; replace f10 := cell_below m10 f10; replace h10 := cell_below m10 h10; clear m10
    cases t_21 with
    | false =>
     replace H := let_hid H; obtain ⟨t_22, v10, H⟩ := H; obtain rfl : t_22 = true := v10.symm; replace H := app_hid H; replace H := join_hid H; replace H := ite_t H; replace H := app_hid H; replace H := ite_t H; obtain rfl := ret_hid H; go_wp2_with fail; go_ret; exact ⟨rfl, e11.out⟩
    | true =>
     replace H := let_hid H; obtain ⟨t_22, v10, H⟩ := H; obtain rfl : t_22 = false := v10.symm; replace H := app_hid H; replace H := join_hid H; replace H := ite_f H; replace H := bind_hid H; obtain ⟨t_27, m11, H⟩ := H; go_wp2_with fail; go_at_call 85; refine (GsL8Cents.C (x_paid)  _    m11).mono ?_; rintro f12 e12 ⟨rfl, p10⟩; have b11 := Lib.hid (Below.step e11.out p10); replace i10 := cell_below p10 i10; replace a10 := cell_below p10 a10; replace c10 := cell_below p10 c10; replace d10 := cell_below p10 d10; replace g10 := cell_below p10 g10; replace b10 := cell_below p10 b10; replace e10 := cell_below p10 e10; replace f10 := cell_below p10 f10; replace h10 := cell_below p10 h10; clear p10
     cases t_27 with
     | false =>
      replace H := let_hid H; obtain ⟨t_28, x10, H⟩ := H; obtain rfl : t_28 = true := x10.symm; replace H := app_hid H; replace H := ite_t H; obtain rfl := ret_hid H; go_wp2_with fail; go_ret; exact ⟨rfl, b11.out⟩
     | true =>
      replace H := let_hid H; obtain ⟨t_28, x10, H⟩ := H; obtain rfl : t_28 = false := x10.symm; replace H := app_hid H; replace H := ite_f H; replace H := bind_hid H; obtain ⟨t_33, l11, H⟩ := H; go_wp2_with fail; go_at_call 74; refine (GsL9Office.C (x_from_)  _    l11).mono ?_; rintro q11 p11 ⟨rfl, n10⟩; have f11 := Lib.hid (Below.step b11.out n10); replace i10 := cell_below n10 i10; replace a10 := cell_below n10 a10; replace c10 := cell_below n10 c10; replace d10 := cell_below n10 d10; replace g10 := cell_below n10 g10; replace b10 := cell_below n10 b10; replace e10 := cell_below n10 e10; replace f10 := cell_below n10 f10; replace h10 := cell_below n10 h10; clear n10; replace H := join_hid H
      cases t_33 with
      | false =>
       replace H := ite_f H; replace H := app_hid H; replace H := join_hid H; replace H := ite_f H; replace H := app_hid H; replace H := join_hid H; replace H := ite_f H; replace H := app_hid H; replace H := join_hid H; replace H := ite_f H; replace H := app_hid H; obtain rfl := ret_hid H; go_wp2_with fail; go_ret; exact ⟨rfl, f11.out⟩
      | true =>
       replace H := ite_t H; replace H := bind_hid H; obtain ⟨t_37, i11, H⟩ := H; go_wp2_with fail; go_at_call 74; refine (GsL9Office.C (x_to_)  _    i11).mono ?_; rintro d12 a12 ⟨rfl, l10⟩; have t10 := Lib.hid (Below.step f11.out l10); replace i10 := cell_below l10 i10; replace a10 := cell_below l10 a10; replace c10 := cell_below l10 c10; replace d10 := cell_below l10 d10; replace g10 := cell_below l10 g10; replace b10 := cell_below l10 b10; replace e10 := cell_below l10 e10; replace f10 := cell_below l10 f10; replace h10 := cell_below l10 h10; clear l10; replace H := app_hid H; replace H := join_hid H
       cases t_37 with
       | false =>
        replace H := ite_f H; replace H := app_hid H; replace H := join_hid H; replace H := ite_f H; replace H := app_hid H; replace H := join_hid H; replace H := ite_f H; replace H := app_hid H; obtain rfl := ret_hid H; go_wp2_with fail; go_ret; exact ⟨rfl, t10.out⟩
       | true =>
        replace H := ite_t H; replace H := let_hid H; obtain ⟨t_44, r11, H⟩ := H; replace H := app_hid H; replace H := join_hid H
        cases t_44 with
        | false =>
         replace H := ite_f H; replace H := app_hid H; replace H := join_hid H; replace H := ite_f H; replace H := app_hid H; obtain rfl := ret_hid H; go_wp2_with fail; go_ret; exact ⟨rfl, t10.out⟩
        | true =>
         replace H := ite_t H; replace H := bind_hid H; obtain ⟨t_49, o11, H⟩ := H; go_wp2_with fail; go_at_call 86; refine (GsL9Minute.C (x_arrive)  _    o11).mono ?_; rintro x11 t11 ⟨rfl, j10⟩; have d11 := Lib.hid (Below.step t10.out j10); replace i10 := cell_below j10 i10; replace a10 := cell_below j10 a10; replace c10 := cell_below j10 c10; replace d10 := cell_below j10 d10; replace g10 := cell_below j10 g10; replace b10 := cell_below j10 b10; replace e10 := cell_below j10 e10; replace f10 := cell_below j10 f10; replace h10 := cell_below j10 h10; clear j10; replace H := app_hid H; replace H := join_hid H
         cases t_49 with
         | false =>
          replace H := ite_f H; replace H := app_hid H; obtain rfl := ret_hid H; go_wp2_with fail; go_ret; exact ⟨rfl, d11.out⟩
         | true =>
          replace H := ite_t H; replace H := bind_hid H; obtain ⟨t_56, n11, H⟩ := H; go_wp2_with fail; go_at_call 64; refine (GsL1In.C (x_leave) (0) (x_arrive)  _    n11).mono ?_; rintro b12 g12 ⟨rfl, o10⟩; have h11 := Lib.hid (Below.step d11.out o10); replace i10 := cell_below o10 i10; replace a10 := cell_below o10 a10; replace c10 := cell_below o10 c10; replace d10 := cell_below o10 d10; replace g10 := cell_below o10 g10; replace b10 := cell_below o10 b10; replace e10 := cell_below o10 e10; replace f10 := cell_below o10 f10; replace h10 := cell_below o10 h10; clear o10; replace H := app_hid H; obtain rfl := ret_hid H; go_wp2_with fail; go_ret; exact ⟨rfl, h11.out⟩
end Go.Proofs.Ytgbcdmlcmnaimaa.GsL10One

namespace Go.Proofs.Ytgbcdmlcmnaimaa.GsL8For
open Go.RowKit
open Go.Proofs.Ytgbcdmlcmnaimaa.Rowed Go.Proofs.Ytgbcdmlcmnaimaa.Turn Go.Proofs.Ytgbcdmlcmnaimaa.Aid Go.Proofs.Ytgbcdmlcmnaimaa.GoP Go.Proofs.Ytgbcdmlcmnaimaa.GoM

def l0 (list : (List PRate.Rate)) (day : Int) (zone : Int) (grams : Int) (k0 : Nat) (s : Unit) (nx0 bk0 : Unit → Option (Int)) : Option (Int) :=
 
 Option.bind (idx list (k0 : Int)) fun (yt_8 : PRate.Rate) =>
 unRate yt_8 fun (t_8_zone : Int) (t_8_grams : Int) (t_8_from_ : Int) (t_8_until_ : Int) (t_8_cents : Int) =>
 letK (t_8_zone == zone) fun (t_15 : Bool) =>
 joinK (fun (t_21 : Bool) =>
 joinK (fun (t_29 : Bool) =>
 iteK t_29
 (some t_8_cents)
 (appK nx0 ())) fun jt_29 => iteK t_21 (Option.bind (GsL1In.P day t_8_from_ t_8_until_) fun (t_28 : Bool) =>
 appK jt_29 t_28) (appK jt_29 false)) fun jt_21 => iteK t_15 (letK (decide (grams ≤ t_8_grams)) fun (t_20 : Bool) =>
 appK jt_21 t_20) (appK jt_21 false)

def e0  (s : Unit) : Option (Int) :=
 
 some 0

def P (list : (List PRate.Rate)) (day : Int) (zone : Int) (grams : Int) : Option (Int) :=
 cntK (l0 list day zone grams) (list.length) 0 () (e0 )

set_option maxRecDepth 100000 in
set_option maxHeartbeats 2000000 in
theorem C (list : (List PRate.Rate)) (day : Int) (zone : Int) (grams : Int) (A0 : Option Addr) (c0 : Nat)  (w : World) (M0 : Hid (Cells w 5 A0 list.length (PRate.flat list))) (N0 : Hid (list.length ≤ 9223372036854775807))  {r : Int} (H : Hid (P list day zone grams = some r)) :
  Calls Try.prog 45 #[.slice A0 list.length c0, .int .i64 day, .int .i64 zone, .int .i64 grams] w (Gives (.int .i64 r) w) := by
 have HB := Lib.hid (Below.refl w.heap.size w); unfold P at H; have N0o := N0.out
 go_enter Try.func45, Try.ntmps45
 go_wp2_with fail; go_loopg [9] (list.length) (fun m_ v9_ wr => ∃ (k0 : Nat) , k0 + m_ = list.length ∧ v9_ = .int .i64 (k0 : Int) ∧ Hid (cntK (l0 list day zone grams) m_ k0 () (e0 ) = some r) ∧ Hid (Below w.heap.size w wr))
 case atStart => exact ⟨0, by omega, rfl, H, HB⟩
 case round =>
  obtain ⟨k0, hkm0, rfl, H, c10⟩ := hrel; rename World => wr0
  cases gk with
  | zero =>
   obtain rfl : k0 = list.length := (by omega); have hc0 : decide (((list.length : Nat) : Int) < ((list.length : Nat) : Int)) = false := (by simp); replace H := cnt_zero H; unfold e0 at H; obtain rfl := ret_hid H; go_wp2_with fail; go_ret; exact ⟨rfl, c10.out⟩
  | succ m0 =>
   have hlt0 : k0 < list.length := (by omega); have hc0 : decide ((k0 : Int) < ((list.length : Nat) : Int)) = true := (by simp; omega); replace H := cnt_succ H; unfold l0 at H; replace H := idx_hid H; obtain ⟨nt_8, yt_8, et_8, lt_8, gt_8, H⟩ := H; obtain rfl : k0 = nt_8 := (by omega); clear et_8; obtain ⟨w10, v10, l10, m10, t10⟩ := yt_8; replace H := unRate_hid H; obtain ⟨f11, m11, zt_8, At_8, o10, b10, j10, h10, i10, e10⟩ := ORate.at_ M0.out lt_8; obtain rfl := Option.some.inj (gt_8.out.symm.trans o10); subst At_8; have l11 := cell_lt b10; replace b10 := cell_below c10.out b10; replace j10 := cell_below c10.out j10; replace h10 := cell_below c10.out h10; replace i10 := cell_below c10.out i10; replace e10 := cell_below c10.out e10; clear o10; have e11 : (0 : Int) ≤ (k0 : Int) := (by omega); have k11 : (k0 : Int) < ((list.length : Nat) : Int) := (by omega); have g11 : ((k0 : Int)).toNat = k0 := (by omega); obtain ⟨f10, g10⟩ : ∃ x, wr0.alloc (.cells #[.int .i64 w10, .int .i64 v10, .int .i64 l10, .int .i64 m10, .int .i64 t10] 92) = x := ⟨_, rfl⟩; have d10 : Below wr0.heap.size wr0 f10 := (by rw [← g10]; exact (Below.refl _ _).alloc (Nat.le_refl _) _); have k10 := Lib.hid (Below.step c10.out d10); have z10 := cell_below d10 b10; have a11 := cell_below d10 j10; have y10 := cell_below d10 h10; have q10 := cell_below d10 i10; have c11 := cell_below d10 e10; clear d10; have s10 : f10.cell? ⟨wr0.heap.size, 0, none⟩ = some (.int .i64 w10) := (by rw [← g10]; exact box_new _ _ _ 0 _ rfl); have n10 : f10.cell? ⟨wr0.heap.size, 1, none⟩ = some (.int .i64 v10) := (by rw [← g10]; exact box_new _ _ _ 1 _ rfl); have b11 : f10.cell? ⟨wr0.heap.size, 2, none⟩ = some (.int .i64 l10) := (by rw [← g10]; exact box_new _ _ _ 2 _ rfl); have r10 : f10.cell? ⟨wr0.heap.size, 3, none⟩ = some (.int .i64 m10) := (by rw [← g10]; exact box_new _ _ _ 3 _ rfl); have p10 : f10.cell? ⟨wr0.heap.size, 4, none⟩ = some (.int .i64 t10) := (by rw [← g10]; exact box_new _ _ _ 4 _ rfl); replace H := let_hid H; obtain ⟨t_15, n11, H⟩ := H; replace H := join_hid H
   cases t_15 with
   | false =>
    replace H := ite_f H; replace H := app_hid H; replace H := join_hid H; replace H := ite_f H; replace H := app_hid H; replace H := ite_f H; replace H := app_hid H; go_wp2_with fail; clear b10 j10 h10 i10 e10
    go_roundg m0
    case measure => omega
    case rel => exact ⟨k0 + 1, by omega, by go_num, H, k10⟩
   | true =>
    replace H := ite_t H; replace H := let_hid H; obtain ⟨t_20, j11, H⟩ := H; replace H := app_hid H; replace H := join_hid H
    cases t_20 with
    | false =>
     replace H := ite_f H; replace H := app_hid H; replace H := ite_f H; replace H := app_hid H; go_wp2_with fail; clear b10 j10 h10 i10 e10
     go_roundg m0
     case measure => omega
     case rel => exact ⟨k0 + 1, by omega, by go_num, H, k10⟩
    | true =>
     replace H := ite_t H; replace H := bind_hid H; obtain ⟨t_28, d11, H⟩ := H; go_wp2_with fail; clear b10 j10 h10 i10 e10; go_at_call 64; refine (GsL1In.C (day) (l10) (m10)  _    d11).mono ?_; rintro i11 h11 ⟨rfl, a10⟩; have x10 := Lib.hid (Below.step k10.out a10); replace z10 := cell_below a10 z10; replace a11 := cell_below a10 a11; replace y10 := cell_below a10 y10; replace q10 := cell_below a10 q10; replace c11 := cell_below a10 c11; replace s10 := cell_below a10 s10; replace n10 := cell_below a10 n10; replace b11 := cell_below a10 b11; replace r10 := cell_below a10 r10; replace p10 := cell_below a10 p10; clear a10; replace H := app_hid H
     cases t_28 with
     | false =>
      replace H := ite_f H; replace H := app_hid H; go_wp2_with fail
      go_roundg m0
      case measure => omega
      case rel => exact ⟨k0 + 1, by omega, by go_num, H, x10⟩
     | true =>
      replace H := ite_t H; obtain rfl := ret_hid H; go_wp2_with fail; go_ret; exact ⟨rfl, x10.out⟩
end Go.Proofs.Ytgbcdmlcmnaimaa.GsL8For

namespace Go.Proofs.Ytgbcdmlcmnaimaa.GsL1Least
open Go.RowKit
open Go.Proofs.Ytgbcdmlcmnaimaa.Rowed Go.Proofs.Ytgbcdmlcmnaimaa.Turn Go.Proofs.Ytgbcdmlcmnaimaa.Aid Go.Proofs.Ytgbcdmlcmnaimaa.GoP Go.Proofs.Ytgbcdmlcmnaimaa.GoM

def P (a : Int) (b : Int) : Option (Int) :=
  letK (decide (a < b)) fun (t_3 : Bool) =>
  iteK t_3
  (some a)
  (some b)

set_option maxRecDepth 100000 in
set_option maxHeartbeats 2000000 in
theorem C (a : Int) (b : Int)   (w : World)   {r : Int} (H : Hid (P a b = some r)) :
    Calls Try.prog 102 #[.int .i64 a, .int .i64 b] w (Gives (.int .i64 r) w) := by
  have HB := Lib.hid (Below.refl w.heap.size w)
  unfold P at H
  go_enter Try.func102, Try.ntmps102
  replace H := let_hid H
  obtain ⟨t_3, ht_3, H⟩ := H
  cases t_3 with
  | false =>
    replace H := ite_f H
    obtain rfl := ret_hid H
    go_wp2_with fail
    go_ret
    exact ⟨rfl, HB.out⟩
  | true =>
    replace H := ite_t H
    obtain rfl := ret_hid H
    go_wp2_with fail
    go_ret
    exact ⟨rfl, HB.out⟩

set_option maxRecDepth 100000 in
set_option maxHeartbeats 2000000 in
theorem C0 (a : Int) (b : Int)   (w : World)   {r : Int} (H : Hid (P a b = some r)) :
    Calls Try.prog 102 #[.int .i64 a, .int .i64 b] w (fun e w'' => e = .returned (.int .i64 r) ∧ w'' = w) := by
  have HB := Lib.hid (Below.refl w.heap.size w)
  unfold P at H
  go_enter Try.func102, Try.ntmps102
  replace H := let_hid H
  obtain ⟨t_3, ht_3, H⟩ := H
  cases t_3 with
  | false =>
    replace H := ite_f H
    obtain rfl := ret_hid H
    go_wp2_with fail
    go_ret
    exact ⟨rfl, rfl⟩
  | true =>
    replace H := ite_t H
    obtain rfl := ret_hid H
    go_wp2_with fail
    go_ret
    exact ⟨rfl, rfl⟩
end Go.Proofs.Ytgbcdmlcmnaimaa.GsL1Least

namespace Go.Proofs.Ytgbcdmlcmnaimaa.GsL9Times
open Go.RowKit
open Go.Proofs.Ytgbcdmlcmnaimaa.Rowed Go.Proofs.Ytgbcdmlcmnaimaa.Turn Go.Proofs.Ytgbcdmlcmnaimaa.Aid Go.Proofs.Ytgbcdmlcmnaimaa.GoP Go.Proofs.Ytgbcdmlcmnaimaa.GoM

def l0  (k0 : Nat) (s : (List Int)) (nx0 bk0 : (List Int) → Option ((List Int))) : Option ((List Int)) :=
 letK s fun out_7l0 =>
 Option.bind (idx out_7l0 (k0 : Int)) fun (yt_10 : Int) =>
 letK (out_7l0.set k0 10000) fun (l11_11 : (List Int)) =>
 appK nx0 (l11_11)

def l1 (list : (List PMail.Mail)) (k1 : Nat) (s : (List Int)) (nx1 bk1 : (List Int) → Option ((List Int))) : Option ((List Int)) :=
 letK s fun out_7l1 =>
 Option.bind (idx list (k1 : Int)) fun (yt_27 : PMail.Mail) =>
 unMail yt_27 fun (t_27_leave : Int) (t_27_from_ : Int) (t_27_to_ : Int) (t_27_arrive : Int) =>
 Option.bind (idx out_7l1 t_27_from_) fun (yt_34 : Int) =>
 letK (decide (yt_34 ≤ t_27_leave)) fun (t_38 : Bool) =>
 iteK t_38
 (Option.bind (idx out_7l1 t_27_to_) fun (yt_45 : Int) =>
 Option.bind (GsL1Least.P yt_45 t_27_arrive) fun (t_49 : Int) =>
 Option.bind (idx out_7l1 t_27_to_) fun (yt_50 : Int) =>
 letK (out_7l1.set (t_27_to_).toNat t_49) fun (l51_51 : (List Int)) =>
 appK nx1 (l51_51))
 (appK nx1 (out_7l1))

def e1  (s : (List Int)) : Option ((List Int)) :=
 letK s fun out_7l1 =>
 some out_7l1

def e0 (list : (List PMail.Mail)) (from_1 : Int) (minute : Int) (s : (List Int)) : Option ((List Int)) :=
 letK s fun out_7l0 =>
 Option.bind (idx out_7l0 from_1) fun (yt_18 : Int) =>
 letK (out_7l0.set (from_1).toNat minute) fun (l19_19 : (List Int)) =>
 cntK (l1 list) (list.length) 0 (l19_19) (e1 )

def P (list : (List PMail.Mail)) (from_1 : Int) (minute : Int) : Option ((List Int)) :=
 guardK (0 ≤ 10 ∧ 10 ≤ 1099511627776) <|
 letK (List.replicate 10 0) fun (t_1 : (List Int)) =>
 cntK (l0 ) (t_1.length) 0 (t_1) (e0 list from_1 minute)

set_option maxRecDepth 100000 in
set_option maxHeartbeats 2000000 in
theorem C (list : (List PMail.Mail)) (from_1 : Int) (minute : Int) (A0 : Option Addr) (c0 : Nat)  (w : World) (M0 : Hid (Cells w 4 A0 list.length (PMail.flat list))) (N0 : Hid (list.length ≤ 9223372036854775807))  {r : (List Int)} (H : Hid (P list from_1 minute = some r)) :
  Calls Try.prog 87 #[.slice A0 list.length c0, .int .i64 from_1, .int .i64 minute] w (fun e w' => ∃ A_r c_r, e = .returned (.slice A_r r.length c_r) ∧ w'.ownsRow w.heap.size 3 1 (.slice A_r r.length c_r) r.length (HelpInt.iv r) ∧ Below w.heap.size w w') := by
 have HB := Lib.hid (Below.refl w.heap.size w); unfold P at H; have N0o := N0.out; obtain ⟨i0_3, hi_3, v13, r14, m13⟩ := Aid.info_parts (P := Try.prog) (T := 3) (z := .int .i64 0) (s := 1) (b := 8) (by kernel_rfl)
 go_enter Try.func87, Try.ntmps87
 replace H := guard_hid H; obtain ⟨r16, H⟩ := H; replace H := let_hid H; obtain ⟨t_1, ht_1, H⟩ := H; have a12 := HB.out.size; have j11 : t_1.length = 10 := (by rw [← ht_1]; simp); have k13 := Lib.hid ht_1; clear ht_1; go_wp2_with (at_make; refine wpList_make_full _ rfl _ _ 33 rfl w.heap.size 3 i0_3 (.int .i64 0) 1 Try.underlying33 hi_3 v13 r14 .i64 .i64 _ _ 10 rfl rfl (by omega) (by omega) (by rw [m13]; omega) (by unfold maxLen; omega) a12 ?_; intro wt_1 ot_1 gt_1; have Qt_1 := Lib.hid ot_1; have Gt_1 := Lib.hid gt_1; clear ot_1 gt_1; refine stop_in ?_); refine stop_out ?_
 have Et_1 : (HelpInt.iv t_1) = (madeCells (.int .i64 0 : Value).cells (10 * 1)).toList := by
  rw [made_flat (fun x => [.int .i64 x]) 0 _ 1 _ rfl rfl (by decide), ← k13.out]; exact map_flat _ _
 have Pt_1 : Hid (wt_1.ownsRow w.heap.size 3 1 (.slice (some ⟨w.heap.size, 0, none⟩) 10 10) 10 (HelpInt.iv t_1)) := Lib.hid (by rw [Et_1]; exact Qt_1.out); clear Et_1; replace j11 := Lib.hid j11; clear Qt_1 a12; have bt_1 : Below w.heap.size w wt_1 := (Below.refl _ _).grown Gt_1.out (Nat.le_refl _) (by simp); clear Gt_1; have o13 := Lib.hid (Below.step HB.out bt_1); clear bt_1; go_wp2_with fail; go_wp2_with fail; have hc_ := j11.out; have hv_ : (Value.slice (some ⟨w.heap.size, 0, none⟩) 10 10 : Value) = Value.slice (some ⟨w.heap.size, 0, none⟩) t_1.length 10 := (by rw [hc_])
 try rw [hv_]
 replace Pt_1 := Lib.hid (own_len hc_ Pt_1.out); clear hc_ hv_; have hb_0 : t_1.length ≤ 9223372036854775807 := own_max Pt_1.out; go_wp2_with fail; go_loopg [8] (t_1.length) (fun m_ v8_ wr => ∃ (k0 : Nat) (p10 : (List Int)), k0 + m_ = t_1.length ∧ v8_ = .int .i64 (k0 : Int) ∧ Hid (cntK (l0 ) m_ k0 (p10) (e0 list from_1 minute) = some r) ∧ Hid (Below w.heap.size w wr) ∧ Hid (wr.ownsRow w.heap.size 3 1 (.slice (some ⟨w.heap.size, 0, none⟩) t_1.length 10) t_1.length (HelpInt.iv p10)) ∧ Hid (p10.length = t_1.length))
 case atStart => exact ⟨0, _, by omega, rfl, H, o13, Pt_1, Lib.hid (rfl)⟩
 case round =>
  obtain ⟨k0, p10, hkm0, rfl, H, c11, h10, d11⟩ := hrel; rename World => wr0
  cases gk with
  | zero =>
   obtain rfl : k0 = t_1.length := (by omega); have hc0 : decide (((t_1.length : Nat) : Int) < ((t_1.length : Nat) : Int)) = false := (by simp); replace H := cnt_zero H; unfold e0 at H; replace H := let_hid H; obtain ⟨_, rfl, H⟩ := H; replace H := idx_hid H; obtain ⟨n10, f15, e14, x15, k14, H⟩ := H; subst e14; have g14 := d11.out; obtain ⟨s15, y15, f16, w12, e12, b12⟩ := HelpInt.Ints.at_ (own_cells h10.out) (k := n10) (by omega); obtain rfl := Option.some.inj (k14.out.symm.trans e12); simp only [Option.some.injEq, Addr.mk.injEq] at w12; obtain ⟨rfl, rfl, _⟩ := w12; clear e12; simp only [Nat.zero_add] at b12; have l16 : (0 : Int) ≤ (n10 : Int) := (by omega); have i16 : (n10 : Int) < ((t_1.length : Nat) : Int) := (by omega); have n15 : ((n10 : Int)).toNat = n10 := (by omega); clear g14; replace H := let_hid H; obtain ⟨k11, a11, H⟩ := H
   try simp only [Int.toNat_natCast] at a11
   obtain ⟨v11, y12⟩ : ∃ x, (wr0).setCell ⟨w.heap.size, n10, none⟩ (.int .i64 minute) = x := ⟨_, rfl⟩; have m14 := h10.out.frozenAt (n10); have m11 := Lib.hid (own_stores [(n10, .int .i64 minute)] h10.out); have i14 : Hid (k11.length = t_1.length) := Lib.hid (by rw [← a11, List.length_set]; exact d11.out); have q13 : Hid (v11.ownsRow w.heap.size 3 1 (.slice (some ⟨w.heap.size, 0, none⟩) t_1.length 10) t_1.length (HelpInt.iv k11)) := Lib.hid (by have e_ : ([(n10, .int .i64 minute)] : List (Nat × Value)).foldl (fun xs p => xs.set p.1 p.2) (HelpInt.iv p10) = (HelpInt.iv k11) := (by rw [← a11]; first | done | simp [HelpInt.iv, List.map_set]); rw [← y12, ← e_]; exact m11.out.1); have c13 : Hid (wr0.grownBy v11 (Value.slice (some ⟨w.heap.size, 0, none⟩) t_1.length 10).ownBlock) := Lib.hid (by rw [← y12]; exact m11.out.2); have o14 := Lib.hid (c11.out.grown c13.out c11.out.size (fun q hq => (h10.out.lt q hq).1)); have g16 := Lib.hid a11; clear a11 m11; clear h10 c13; go_wp2_with fail; clear m14 b12; go_wp2_with fail; go_loopg [9] (list.length) (fun m_ v9_ wr => ∃ (k1 : Nat) (r10 : (List Int)), k1 + m_ = list.length ∧ v9_ = .int .i64 (k1 : Int) ∧ Hid (cntK (l1 list) m_ k1 (r10) (e1 ) = some r) ∧ Hid (Below w.heap.size w wr) ∧ Hid (wr.ownsRow w.heap.size 3 1 (.slice (some ⟨w.heap.size, 0, none⟩) t_1.length 10) t_1.length (HelpInt.iv r10)) ∧ Hid (r10.length = t_1.length))
   case atStart => exact ⟨0, _, by omega, rfl, H, o14, q13, Lib.hid (i14.out)⟩
   case round =>
    obtain ⟨k1, r10, hkm1, rfl, H, q10, a10, y10⟩ := hrel; rename World => wr1
    cases gk with
    | zero =>
     obtain rfl : k1 = list.length := (by omega); have hc1 : decide (((list.length : Nat) : Int) < ((list.length : Nat) : Int)) = false := (by simp); replace H := cnt_zero H; unfold e1 at H; replace H := let_hid H; obtain ⟨_, rfl, H⟩ := H; obtain rfl := ret_hid H; go_wp2_with fail; go_ret; have hr_0 := y10.out; replace a10 := Lib.hid (own_len hr_0 a10.out); exact ⟨(some ⟨w.heap.size, 0, none⟩), 10, (by first | (rw [hr_0]; done) | (rw [hr_0]; rfl)), a10.out, q10.out⟩
    | succ m1 =>
     have hlt1 : k1 < list.length := (by omega); have hc1 : decide ((k1 : Int) < ((list.length : Nat) : Int)) = true := (by simp; omega); replace H := cnt_succ H; unfold l1 at H; replace H := let_hid H; obtain ⟨_, rfl, H⟩ := H; replace H := idx_hid H; obtain ⟨f14, f13, y13, a14, d14, H⟩ := H; obtain rfl : k1 = f14 := (by omega); clear y13; obtain ⟨c12, s11, f12, o11⟩ := f13; replace H := unMail_hid H; obtain ⟨h16, t16, b16, i13, m12, s10, e11, f11, g11⟩ := OMail.at_ M0.out a14; obtain rfl := Option.some.inj (d14.out.symm.trans m12); subst i13; have b11 := cell_lt s10; replace s10 := cell_below q10.out s10; replace e11 := cell_below q10.out e11; replace f11 := cell_below q10.out f11; replace g11 := cell_below q10.out g11; clear m12; have k16 : (0 : Int) ≤ (k1 : Int) := (by omega); have p15 : (k1 : Int) < ((list.length : Nat) : Int) := (by omega); have v14 : ((k1 : Int)).toNat = k1 := (by omega); obtain ⟨x10, w10⟩ : ∃ x, wr1.alloc (.cells #[.int .i64 c12, .int .i64 s11, .int .i64 f12, .int .i64 o11] 77) = x := ⟨_, rfl⟩; have o10 : Below wr1.heap.size wr1 x10 := (by rw [← w10]; exact (Below.refl _ _).alloc (Nat.le_refl _) _); have h11 := Lib.hid (apart_fresh a10.out); have b14 := Lib.hid (Below.step q10.out o10); have e10 := cell_below o10 s10; have k10 := cell_below o10 e11; have c10 := cell_below o10 f11; have m10 := cell_below o10 g11; replace a10 := Lib.hid (own_below a10.out o10); clear o10; have g10 : x10.cell? ⟨wr1.heap.size, 0, none⟩ = some (.int .i64 c12) := (by rw [← w10]; exact box_new _ _ _ 0 _ rfl); have f10 : x10.cell? ⟨wr1.heap.size, 1, none⟩ = some (.int .i64 s11) := (by rw [← w10]; exact box_new _ _ _ 1 _ rfl); have i10 : x10.cell? ⟨wr1.heap.size, 2, none⟩ = some (.int .i64 f12) := (by rw [← w10]; exact box_new _ _ _ 2 _ rfl); have l10 : x10.cell? ⟨wr1.heap.size, 3, none⟩ = some (.int .i64 o11) := (by rw [← w10]; exact box_new _ _ _ 3 _ rfl); go_wp2_with fail; clear s10 e11 f11 g11; have v12 := Lib.hid e10; replace e10 := cell_regrown e10; have x11 := Lib.hid k10; replace k10 := cell_regrown k10; have z12 := Lib.hid c10; replace c10 := cell_regrown c10; have l12 := Lib.hid m10; replace m10 := cell_regrown m10; have o12 := Lib.hid g10; replace g10 := cell_regrown g10; have z11 := Lib.hid f10; replace f10 := cell_regrown f10; have i12 := Lib.hid i10; replace i10 := cell_regrown i10; have j12 := Lib.hid l10; replace l10 := cell_regrown l10; replace H := idx_hid H; obtain ⟨v10, l15, l14, c16, r13, H⟩ := H; subst l14; have z13 := y10.out; obtain ⟨h15, m15, i15, s12, r12, j10⟩ := HelpInt.Ints.at_ (own_cells a10.out) (k := v10) (by omega); obtain rfl := Option.some.inj (r13.out.symm.trans r12); simp only [Option.some.injEq, Addr.mk.injEq] at s12; obtain ⟨rfl, rfl, _⟩ := s12; clear r12; simp only [Nat.zero_add] at j10; have t15 : (0 : Int) ≤ (v10 : Int) := (by omega); have d16 : (v10 : Int) < ((t_1.length : Nat) : Int) := (by omega); have z14 : ((v10 : Int)).toNat = v10 := (by omega); clear z13; have b13 := Lib.hid j10; replace j10 := cell_regrown j10; replace H := let_hid H; obtain ⟨t_38, g15, H⟩ := H; refine wp_region_quiet_below (by kernel_rfl) (by kernel_rfl) ?_
     repeat (go_big_quiet_step (fail))
     refine wpQuiet_nil ?_; intro Y11 hY11; replace hY11 := below_class hY11; replace e10 := v12.out; clear v12; replace k10 := x11.out; clear x11; replace c10 := z12.out; clear z12; replace m10 := l12.out; clear l12; replace g10 := o12.out; clear o12; replace f10 := z11.out; clear z11; replace i10 := i12.out; clear i12; replace l10 := j12.out; clear j12; replace j10 := b13.out; clear b13; have p12 := Lib.hid (Below.step b14.out hY11); replace e10 := cell_below hY11 e10; replace k10 := cell_below hY11 k10; replace c10 := cell_below hY11 c10; replace m10 := cell_below hY11 m10; replace g10 := cell_below hY11 g10; replace f10 := cell_below hY11 f10; replace i10 := cell_below hY11 i10; replace l10 := cell_below hY11 l10; replace j10 := cell_below hY11 j10; replace a10 := Lib.hid (own_below a10.out hY11); clear hY11
     cases t_38 with
     | false =>
      replace H := ite_f H; replace H := app_hid H; go_wp2_with fail
      go_roundg m1
      case measure => omega
      case rel => exact ⟨k1 + 1, _, by omega, by go_num, H, p12, a10, Lib.hid (y10.out)⟩
     | true =>
      replace H := ite_t H; go_wp2_with fail; obtain ⟨Z12, hZ12⟩ : ∃ x, Y11.drew = x := ⟨_, rfl⟩; have bd12 : Below Y11.heap.size Y11 Z12 := (by rw [← hZ12]; exact (Below.refl _ _).drew); have r11 := Lib.hid (Below.step p12.out bd12); replace e10 := cell_below bd12 e10; replace k10 := cell_below bd12 k10; replace c10 := cell_below bd12 c10; replace m10 := cell_below bd12 m10; replace g10 := cell_below bd12 g10; replace f10 := cell_below bd12 f10; replace i10 := cell_below bd12 i10; replace l10 := cell_below bd12 l10; replace j10 := cell_below bd12 j10; replace a10 := Lib.hid (own_below a10.out bd12); clear bd12; replace H := idx_hid H; obtain ⟨d10, g13, s14, n16, x12, H⟩ := H; subst s14; have n13 := y10.out; obtain ⟨y14, b15, z15, y11, g12, n12⟩ := HelpInt.Ints.at_ (own_cells a10.out) (k := d10) (by omega); obtain rfl := Option.some.inj (x12.out.symm.trans g12); simp only [Option.some.injEq, Addr.mk.injEq] at y11; obtain ⟨rfl, rfl, _⟩ := y11; clear g12; simp only [Nat.zero_add] at n12; have e15 : (0 : Int) ≤ (d10 : Int) := (by omega); have a15 : (d10 : Int) < ((t_1.length : Nat) : Int) := (by omega); have o16 : ((d10 : Int)).toNat = d10 := (by omega); clear n13; replace H := bind_hid H; obtain ⟨t_49, p14, H⟩ := H; replace H := idx_hid H; obtain ⟨n14, p16, h13, j14, w11, H⟩ := H; obtain rfl : d10 = n14 := (by omega); clear h13; obtain rfl := Option.some.inj (x12.out.symm.trans w11.out); clear w11 j14; refine wp_region_still_tail 12 (by kernel_rfl) (by kernel_rfl) ?_; simp only [List.take_succ_cons, List.take_zero, List.drop_succ_cons, List.drop_zero]; change wpStill _ _ Y11.drew _ _ _; rw [hZ12]
      still_step
      still_step
      still_step
      still_step
      still_step
      still_step
      still_step
      still_step
      still_step
      still_step
      still_call (GsL1Least.C0 (g13) (o11)  _    p14)
      still_step
      refine wpStill_nil ?_; change wpList _ _ _ _ _ Y11.drew; rw [hZ12]; clear hZ12; replace H := let_hid H; obtain ⟨l11, t10, H⟩ := H
      try simp only [Int.toNat_natCast] at t10
      obtain ⟨d12, q11⟩ : ∃ x, (Z12).setCell ⟨w.heap.size, d10, none⟩ (.int .i64 t_49) = x := ⟨_, rfl⟩; have q14 := a10.out.frozenAt (d10); have n11 := Lib.hid (own_stores [(d10, .int .i64 t_49)] a10.out); have j13 : Hid (l11.length = t_1.length) := Lib.hid (by rw [← t10, List.length_set]; exact y10.out); have d13 : Hid (d12.ownsRow w.heap.size 3 1 (.slice (some ⟨w.heap.size, 0, none⟩) t_1.length 10) t_1.length (HelpInt.iv l11)) := Lib.hid (by have e_ : ([(d10, .int .i64 t_49)] : List (Nat × Value)).foldl (fun xs p => xs.set p.1 p.2) (HelpInt.iv r10) = (HelpInt.iv l11) := (by rw [← t10]; first | done | simp [HelpInt.iv, List.map_set]); rw [← q11, ← e_]; exact n11.out.1); have b10 : Hid (Z12.grownBy d12 (Value.slice (some ⟨w.heap.size, 0, none⟩) t_1.length 10).ownBlock) := Lib.hid (by rw [← q11]; exact n11.out.2); have h14 := Lib.hid (r11.out.grown b10.out r11.out.size (fun q hq => (a10.out.lt q hq).1)); have k15 := Lib.hid t10; clear t10 n11; have w14 := cell_other e10 b10.out (apart_old a10.out b11); have r15 := cell_other k10 b10.out (apart_old a10.out b11); have w15 := cell_other c10 b10.out (apart_old a10.out b11); have a16 := cell_other m10 b10.out (apart_old a10.out b11); have e16 := cell_other g10 b10.out (Apart.symm h11.out); have s16 := cell_other f10 b10.out (Apart.symm h11.out); have j15 := cell_other i10 b10.out (Apart.symm h11.out); have q15 := cell_other l10 b10.out (Apart.symm h11.out); clear a10 b10; replace H := app_hid H; go_wp2_with fail; clear q14 e10 k10 c10 m10 g10 f10 i10 l10 j10 n12
      go_roundg m1
      case measure => omega
      case rel => exact ⟨k1 + 1, _, by omega, by go_num, H, h14, d13, Lib.hid (j13.out)⟩
  | succ m0 =>
   have hlt0 : k0 < t_1.length := (by omega); have hc0 : decide ((k0 : Int) < ((t_1.length : Nat) : Int)) = true := (by simp; omega); replace H := cnt_succ H; unfold l0 at H; replace H := let_hid H; obtain ⟨_, rfl, H⟩ := H; replace H := idx_hid H; obtain ⟨p13, c15, l13, o15, s13, H⟩ := H; obtain rfl : k0 = p13 := (by omega); clear l13; have x13 := d11.out; obtain ⟨j16, q16, v15, k12, a13, h12⟩ := HelpInt.Ints.at_ (own_cells h10.out) (k := k0) (by omega); obtain rfl := Option.some.inj (s13.out.symm.trans a13); simp only [Option.some.injEq, Addr.mk.injEq] at k12; obtain ⟨rfl, rfl, _⟩ := k12; clear a13; simp only [Nat.zero_add] at h12; have d15 : (0 : Int) ≤ (k0 : Int) := (by omega); have x14 : (k0 : Int) < ((t_1.length : Nat) : Int) := (by omega); have t14 : ((k0 : Int)).toNat = k0 := (by omega); clear x13; replace H := let_hid H; obtain ⟨p11, z10, H⟩ := H
   try simp only [Int.toNat_natCast] at z10
   obtain ⟨t11, q12⟩ : ∃ x, (wr0).setCell ⟨w.heap.size, k0, none⟩ (.int .i64 10000) = x := ⟨_, rfl⟩; have t13 := h10.out.frozenAt (k0); have i11 := Lib.hid (own_stores [(k0, .int .i64 10000)] h10.out); have w13 : Hid (p11.length = t_1.length) := Lib.hid (by rw [← z10, List.length_set]; exact d11.out); have c14 : Hid (t11.ownsRow w.heap.size 3 1 (.slice (some ⟨w.heap.size, 0, none⟩) t_1.length 10) t_1.length (HelpInt.iv p11)) := Lib.hid (by have e_ : ([(k0, .int .i64 10000)] : List (Nat × Value)).foldl (fun xs p => xs.set p.1 p.2) (HelpInt.iv p10) = (HelpInt.iv p11) := (by rw [← z10]; first | done | simp [HelpInt.iv, List.map_set]); rw [← q12, ← e_]; exact i11.out.1); have t12 : Hid (wr0.grownBy t11 (Value.slice (some ⟨w.heap.size, 0, none⟩) t_1.length 10).ownBlock) := Lib.hid (by rw [← q12]; exact i11.out.2); have e13 := Lib.hid (c11.out.grown t12.out c11.out.size (fun q hq => (h10.out.lt q hq).1)); have m16 := Lib.hid z10; clear z10 i11; clear h10 t12; replace H := app_hid H; go_wp2_with fail; clear t13 h12
   go_roundg m0
   case measure => omega
   case rel => exact ⟨k0 + 1, _, by omega, by go_num, H, e13, c14, Lib.hid (w13.out)⟩
end Go.Proofs.Ytgbcdmlcmnaimaa.GsL9Times

