/- Texts on which the proofs of several laws stand, one behind the other (9 of 18). No condition of their own. -/
import Derived.Test.YtgbcdmlcmnaimaaChecked
import Derived.Test.YtgbcdmlcmnaimaaX10P1
import Derived.Test.YtgbcdmlcmnaimaaX10P8
import Derived.WalkKit
import Derived.WalkSpells
import Derived.WalkLawsBesides
import Derived.BigQuiet
import Derived.OwnWalk
import Derived.Deep.LoopGhost
import Derived.Deep.QuietTactic
import Derived.IntWalk
import Derived.Lib.QuietBelow
import Derived.Test.YtgbcdmlcmnaimaaX10P4
import Derived.StillTailTactics
set_option linter.unusedVariables false
set_option linter.unusedSimpArgs false
namespace Go.Proofs.Ytgbcdmlcmnaimaa.GiFaultOf
open Go.RowKit
open Go.Proofs.Ytgbcdmlcmnaimaa.Rowed Go.Proofs.Ytgbcdmlcmnaimaa.Turn Go.Proofs.Ytgbcdmlcmnaimaa.Aid Go.Proofs.Ytgbcdmlcmnaimaa.GoP Go.Proofs.Ytgbcdmlcmnaimaa.GoM

def P (rates : (List PRate.Rate)) (mails : (List PMail.Mail)) (x : PCover.Cover) : Option (Int × Bool) :=
 unCover x fun (x_id : Int) (x_day : Int) (x_zone : Int) (x_grams : Int) (x_paid : Int) (x_from_ : Int) (x_to_ : Int) (x_leave : Int) (x_arrive : Int) =>
 Option.bind (GiCanCheckCovers.P rates mails) fun (t_5 : Bool) =>
 letK (!t_5) fun (t_6 : Bool) =>
 joinK (fun (t_11 : Bool) =>
 iteK t_11
 (some (0, false))
 (Option.bind (GiFaultOn.P rates mails (PCover.Cover.mk x_id x_day x_zone x_grams x_paid x_from_ x_to_ x_leave x_arrive)) fun (t_17 : Int) =>
 some (t_17, true))) fun jt_11 => iteK t_6 (appK jt_11 true) (Option.bind (GiIsCover.P (PCover.Cover.mk x_id x_day x_zone x_grams x_paid x_from_ x_to_ x_leave x_arrive)) fun (t_9 : Bool) =>
 letK (!t_9) fun (t_10 : Bool) =>
 appK jt_11 t_10)

set_option maxRecDepth 100000 in
set_option maxHeartbeats 2000000 in
theorem C (rates : (List PRate.Rate)) (mails : (List PMail.Mail)) (x : PCover.Cover) (A0 : Option Addr) (c0 : Nat) (A1 : Option Addr) (c1 : Nat)  (w : World) (M0 : Hid (Cells w 5 A0 rates.length (PRate.flat rates))) (N0 : Hid (rates.length ≤ 9223372036854775807)) (M1 : Hid (Cells w 4 A1 mails.length (PMail.flat mails))) (N1 : Hid (mails.length ≤ 9223372036854775807))  {r0 : Int} {r1 : Bool} (H : Hid (P rates mails x = some (r0, r1))) :
  Calls Try.prog 7 #[.slice A0 rates.length c0, .slice A1 mails.length c1, x.val] w (Gives (.tuple #[.int .i64 r0, .bool r1]) w) := by
 have HB := Lib.hid (Below.refl w.heap.size w); unfold P at H; obtain ⟨x_id, x_day, x_zone, x_grams, x_paid, x_from_, x_to_, x_leave, x_arrive⟩ := x; replace H := unCover_hid H; unfold PCover.Cover.val; have N0o := N0.out; have N1o := N1.out
 go_enter Try.func7, Try.ntmps7
 obtain ⟨b10, c10⟩ : ∃ x, w.alloc (.cells #[.int .i64 x_id, .int .i64 x_day, .int .i64 x_zone, .int .i64 x_grams, .int .i64 x_paid, .int .i64 x_from_, .int .i64 x_to_, .int .i64 x_leave, .int .i64 x_arrive] 27) = x := ⟨_, rfl⟩; have q10 : Below w.heap.size w b10 := (by rw [← c10]; exact (Below.refl _ _).alloc (Nat.le_refl _) _); have o10 := Lib.hid (Below.step HB.out q10); clear q10; have e10 : b10.cell? ⟨w.heap.size, 0, none⟩ = some (.int .i64 x_id) := (by rw [← c10]; exact box_new _ _ _ 0 _ rfl); have h10 : b10.cell? ⟨w.heap.size, 1, none⟩ = some (.int .i64 x_day) := (by rw [← c10]; exact box_new _ _ _ 1 _ rfl); have j10 : b10.cell? ⟨w.heap.size, 2, none⟩ = some (.int .i64 x_zone) := (by rw [← c10]; exact box_new _ _ _ 2 _ rfl); have d10 : b10.cell? ⟨w.heap.size, 3, none⟩ = some (.int .i64 x_grams) := (by rw [← c10]; exact box_new _ _ _ 3 _ rfl); have k10 : b10.cell? ⟨w.heap.size, 4, none⟩ = some (.int .i64 x_paid) := (by rw [← c10]; exact box_new _ _ _ 4 _ rfl); have l10 : b10.cell? ⟨w.heap.size, 5, none⟩ = some (.int .i64 x_from_) := (by rw [← c10]; exact box_new _ _ _ 5 _ rfl); have i10 : b10.cell? ⟨w.heap.size, 6, none⟩ = some (.int .i64 x_to_) := (by rw [← c10]; exact box_new _ _ _ 6 _ rfl); have g10 : b10.cell? ⟨w.heap.size, 7, none⟩ = some (.int .i64 x_leave) := (by rw [← c10]; exact box_new _ _ _ 7 _ rfl); have f10 : b10.cell? ⟨w.heap.size, 8, none⟩ = some (.int .i64 x_arrive) := (by rw [← c10]; exact box_new _ _ _ 8 _ rfl); replace H := bind_hid H; obtain ⟨t_5, qt_5, H⟩ := H; go_wp2_with fail; go_at_call 37; refine (GiCanCheckCovers.C (rates) (mails) A0 c0 A1 c1 _   (Lib.hid (Cells.below M0.out o10.out)) N0 (Lib.hid (Cells.below M1.out o10.out)) N1 qt_5).mono ?_; rintro t10 wt_5 ⟨rfl, bt_5⟩; have p10 := Lib.hid (Below.step o10.out bt_5); replace e10 := cell_below bt_5 e10; replace h10 := cell_below bt_5 h10; replace j10 := cell_below bt_5 j10; replace d10 := cell_below bt_5 d10; replace k10 := cell_below bt_5 k10; replace l10 := cell_below bt_5 l10; replace i10 := cell_below bt_5 i10; replace g10 := cell_below bt_5 g10; replace f10 := cell_below bt_5 f10; clear bt_5
 cases t_5 with
 | false =>
  replace H := let_hid H; obtain ⟨t_6, ht_6, H⟩ := H; obtain rfl : t_6 = true := ht_6.symm; replace H := join_hid H; replace H := ite_t H; replace H := app_hid H; replace H := ite_t H; cases ret_hid H; go_wp2_with fail; go_ret2; exact ⟨rfl, p10.out⟩
 | true =>
  replace H := let_hid H; obtain ⟨t_6, ht_6, H⟩ := H; obtain rfl : t_6 = false := ht_6.symm; replace H := join_hid H; replace H := ite_f H; replace H := bind_hid H; obtain ⟨t_9, qt_9, H⟩ := H; go_wp2_with fail; go_at_call 18; refine (GiIsCover.C ((PCover.Cover.mk x_id x_day x_zone x_grams x_paid x_from_ x_to_ x_leave x_arrive))  _    qt_9).mono ?_; rintro w10 wt_9 ⟨rfl, bt_9⟩; have m10 := Lib.hid (Below.step p10.out bt_9); replace e10 := cell_below bt_9 e10; replace h10 := cell_below bt_9 h10; replace j10 := cell_below bt_9 j10; replace d10 := cell_below bt_9 d10; replace k10 := cell_below bt_9 k10; replace l10 := cell_below bt_9 l10; replace i10 := cell_below bt_9 i10; replace g10 := cell_below bt_9 g10; replace f10 := cell_below bt_9 f10; clear bt_9
  cases t_9 with
  | false =>
   replace H := let_hid H; obtain ⟨t_10, n10, H⟩ := H; obtain rfl : t_10 = true := n10.symm; replace H := app_hid H; replace H := ite_t H; cases ret_hid H; go_wp2_with fail; go_ret2; exact ⟨rfl, m10.out⟩
  | true =>
   replace H := let_hid H; obtain ⟨t_10, n10, H⟩ := H; obtain rfl : t_10 = false := n10.symm; replace H := app_hid H; replace H := ite_f H; replace H := bind_hid H; obtain ⟨t_17, s10, H⟩ := H; go_wp2_with fail; go_at_call 38; refine (GiFaultOn.C (rates) (mails) ((PCover.Cover.mk x_id x_day x_zone x_grams x_paid x_from_ x_to_ x_leave x_arrive)) A0 c0 A1 c1 _   (Lib.hid (Cells.below M0.out m10.out)) N0 (Lib.hid (Cells.below M1.out m10.out)) N1 s10).mono ?_; rintro x10 v10 ⟨rfl, a10⟩; have r10 := Lib.hid (Below.step m10.out a10); replace e10 := cell_below a10 e10; replace h10 := cell_below a10 h10; replace j10 := cell_below a10 j10; replace d10 := cell_below a10 d10; replace k10 := cell_below a10 k10; replace l10 := cell_below a10 l10; replace i10 := cell_below a10 i10; replace g10 := cell_below a10 g10; replace f10 := cell_below a10 f10; clear a10; cases ret_hid H; go_wp2_with fail; go_ret2; exact ⟨rfl, r10.out⟩
end Go.Proofs.Ytgbcdmlcmnaimaa.GiFaultOf

namespace Go.Proofs.Ytgbcdmlcmnaimaa.GsL8Zone
open Go.RowKit
open Go.Proofs.Ytgbcdmlcmnaimaa.Rowed Go.Proofs.Ytgbcdmlcmnaimaa.Turn Go.Proofs.Ytgbcdmlcmnaimaa.Aid Go.Proofs.Ytgbcdmlcmnaimaa.GoP Go.Proofs.Ytgbcdmlcmnaimaa.GoM

def P (zone : Int) : Option (Bool) :=
  Option.bind (Go.Proofs.Ytgbcdmlcmnaimaa.GsL1In.P zone 0 9) fun (t_2 : Bool) =>
  some t_2

set_option maxRecDepth 100000 in
set_option maxHeartbeats 2000000 in
theorem C (zone : Int)   (w : World)   {r : Bool} (H : Hid (P zone = some r)) :
    Calls Try.prog 83 #[.int .i64 zone] w (Gives (.bool r) w) := by
  have HB := Lib.hid (Below.refl w.heap.size w)
  unfold P at H
  go_enter Try.func83, Try.ntmps83
  replace H := bind_hid H
  obtain ⟨t_2, qt_2, H⟩ := H
  go_wp2_with fail
  go_at_call 64
  refine (Go.Proofs.Ytgbcdmlcmnaimaa.GsL1In.C (zone) (0) (9)  _    qt_2).mono ?_
  rintro e_t_2 wt_2 ⟨rfl, bt_2⟩
  have HBwt_2 := Lib.hid (Below.step HB.out bt_2)
  clear bt_2
  obtain rfl := ret_hid H
  go_wp2_with fail
  go_ret
  exact ⟨rfl, HBwt_2.out⟩
end Go.Proofs.Ytgbcdmlcmnaimaa.GsL8Zone

namespace Go.Proofs.Ytgbcdmlcmnaimaa.GsL8Grams
open Go.RowKit
open Go.Proofs.Ytgbcdmlcmnaimaa.Rowed Go.Proofs.Ytgbcdmlcmnaimaa.Turn Go.Proofs.Ytgbcdmlcmnaimaa.Aid Go.Proofs.Ytgbcdmlcmnaimaa.GoP Go.Proofs.Ytgbcdmlcmnaimaa.GoM

def P (grams : Int) : Option (Bool) :=
  Option.bind (Go.Proofs.Ytgbcdmlcmnaimaa.GsL1In.P grams 1 2000) fun (t_2 : Bool) =>
  some t_2

set_option maxRecDepth 100000 in
set_option maxHeartbeats 2000000 in
theorem C (grams : Int)   (w : World)   {r : Bool} (H : Hid (P grams = some r)) :
    Calls Try.prog 84 #[.int .i64 grams] w (Gives (.bool r) w) := by
  have HB := Lib.hid (Below.refl w.heap.size w)
  unfold P at H
  go_enter Try.func84, Try.ntmps84
  replace H := bind_hid H
  obtain ⟨t_2, qt_2, H⟩ := H
  go_wp2_with fail
  go_at_call 64
  refine (Go.Proofs.Ytgbcdmlcmnaimaa.GsL1In.C (grams) (1) (2000)  _    qt_2).mono ?_
  rintro e_t_2 wt_2 ⟨rfl, bt_2⟩
  have HBwt_2 := Lib.hid (Below.step HB.out bt_2)
  clear bt_2
  obtain rfl := ret_hid H
  go_wp2_with fail
  go_ret
  exact ⟨rfl, HBwt_2.out⟩
end Go.Proofs.Ytgbcdmlcmnaimaa.GsL8Grams

namespace Go.Proofs.Ytgbcdmlcmnaimaa.GsL2Day
open Go.RowKit
open Go.Proofs.Ytgbcdmlcmnaimaa.Rowed Go.Proofs.Ytgbcdmlcmnaimaa.Turn Go.Proofs.Ytgbcdmlcmnaimaa.Aid Go.Proofs.Ytgbcdmlcmnaimaa.GoP Go.Proofs.Ytgbcdmlcmnaimaa.GoM

def P (d_0 : Int) : Option (Bool) :=
  Option.bind (Go.Proofs.Ytgbcdmlcmnaimaa.GsL1In.P d_0 0 4000) fun (t_2 : Bool) =>
  some t_2

set_option maxRecDepth 100000 in
set_option maxHeartbeats 2000000 in
theorem C (d_0 : Int)   (w : World)   {r : Bool} (H : Hid (P d_0 = some r)) :
    Calls Try.prog 82 #[.int .i64 d_0] w (Gives (.bool r) w) := by
  have HB := Lib.hid (Below.refl w.heap.size w)
  unfold P at H
  go_enter Try.func82, Try.ntmps82
  replace H := bind_hid H
  obtain ⟨t_2, qt_2, H⟩ := H
  go_wp2_with fail
  go_at_call 64
  refine (Go.Proofs.Ytgbcdmlcmnaimaa.GsL1In.C (d_0) (0) (4000)  _    qt_2).mono ?_
  rintro e_t_2 wt_2 ⟨rfl, bt_2⟩
  have HBwt_2 := Lib.hid (Below.step HB.out bt_2)
  clear bt_2
  obtain rfl := ret_hid H
  go_wp2_with fail
  go_ret
  exact ⟨rfl, HBwt_2.out⟩
end Go.Proofs.Ytgbcdmlcmnaimaa.GsL2Day

namespace Go.Proofs.Ytgbcdmlcmnaimaa.GsL8Cents
open Go.RowKit
open Go.Proofs.Ytgbcdmlcmnaimaa.Rowed Go.Proofs.Ytgbcdmlcmnaimaa.Turn Go.Proofs.Ytgbcdmlcmnaimaa.Aid Go.Proofs.Ytgbcdmlcmnaimaa.GoP Go.Proofs.Ytgbcdmlcmnaimaa.GoM

def P (cents : Int) : Option (Bool) :=
  Option.bind (Go.Proofs.Ytgbcdmlcmnaimaa.GsL1In.P cents 1 9999) fun (t_2 : Bool) =>
  some t_2

set_option maxRecDepth 100000 in
set_option maxHeartbeats 2000000 in
theorem C (cents : Int)   (w : World)   {r : Bool} (H : Hid (P cents = some r)) :
    Calls Try.prog 85 #[.int .i64 cents] w (Gives (.bool r) w) := by
  have HB := Lib.hid (Below.refl w.heap.size w)
  unfold P at H
  go_enter Try.func85, Try.ntmps85
  replace H := bind_hid H
  obtain ⟨t_2, qt_2, H⟩ := H
  go_wp2_with fail
  go_at_call 64
  refine (Go.Proofs.Ytgbcdmlcmnaimaa.GsL1In.C (cents) (1) (9999)  _    qt_2).mono ?_
  rintro e_t_2 wt_2 ⟨rfl, bt_2⟩
  have HBwt_2 := Lib.hid (Below.step HB.out bt_2)
  clear bt_2
  obtain rfl := ret_hid H
  go_wp2_with fail
  go_ret
  exact ⟨rfl, HBwt_2.out⟩
end Go.Proofs.Ytgbcdmlcmnaimaa.GsL8Cents

namespace Go.Proofs.Ytgbcdmlcmnaimaa.GsL8One
open Go.RowKit
open Go.Proofs.Ytgbcdmlcmnaimaa.Rowed Go.Proofs.Ytgbcdmlcmnaimaa.Turn Go.Proofs.Ytgbcdmlcmnaimaa.Aid Go.Proofs.Ytgbcdmlcmnaimaa.GoP Go.Proofs.Ytgbcdmlcmnaimaa.GoM

def P (r_0 : PRate.Rate) : Option (Bool) :=
 unRate r_0 fun (r_0_zone : Int) (r_0_grams : Int) (r_0_from_ : Int) (r_0_until_ : Int) (r_0_cents : Int) =>
 Option.bind (GsL8Zone.P r_0_zone) fun (t_4 : Bool) =>
 joinK (fun (t_9 : Bool) =>
 joinK (fun (t_14 : Bool) =>
 joinK (fun (t_21 : Bool) =>
 joinK (fun (t_26 : Bool) =>
 some t_26) fun jt_26 => iteK t_21 (Option.bind (GsL8Cents.P r_0_cents) fun (t_25 : Bool) =>
 appK jt_26 t_25) (appK jt_26 false)) fun jt_21 => iteK t_14 (Option.bind (GsL1In.P r_0_from_ 0 r_0_until_) fun (t_20 : Bool) =>
 appK jt_21 t_20) (appK jt_21 false)) fun jt_14 => iteK t_9 (Option.bind (GsL2Day.P r_0_until_) fun (t_13 : Bool) =>
 appK jt_14 t_13) (appK jt_14 false)) fun jt_9 => iteK t_4 (Option.bind (GsL8Grams.P r_0_grams) fun (t_8 : Bool) =>
 appK jt_9 t_8) (appK jt_9 false)

set_option maxRecDepth 100000 in
set_option maxHeartbeats 2000000 in
theorem C (r_0 : PRate.Rate)   (w : World)   {r : Bool} (H : Hid (P r_0 = some r)) :
  Calls Try.prog 80 #[r_0.val] w (Gives (.bool r) w) := by
 have HB := Lib.hid (Below.refl w.heap.size w); unfold P at H; obtain ⟨n10, l10, m10, k10, o10⟩ := r_0; replace H := unRate_hid H; unfold PRate.Rate.val
 go_enter Try.func80, Try.ntmps80
 obtain ⟨j10, i10⟩ : ∃ x, w.alloc (.cells #[.int .i64 n10, .int .i64 l10, .int .i64 m10, .int .i64 k10, .int .i64 o10] 92) = x := ⟨_, rfl⟩; have r10 : Below w.heap.size w j10 := (by rw [← i10]; exact (Below.refl _ _).alloc (Nat.le_refl _) _); have z10 := Lib.hid (Below.step HB.out r10); clear r10; have c10 : j10.cell? ⟨w.heap.size, 0, none⟩ = some (.int .i64 n10) := (by rw [← i10]; exact box_new _ _ _ 0 _ rfl); have b10 : j10.cell? ⟨w.heap.size, 1, none⟩ = some (.int .i64 l10) := (by rw [← i10]; exact box_new _ _ _ 1 _ rfl); have e10 : j10.cell? ⟨w.heap.size, 2, none⟩ = some (.int .i64 m10) := (by rw [← i10]; exact box_new _ _ _ 2 _ rfl); have d10 : j10.cell? ⟨w.heap.size, 3, none⟩ = some (.int .i64 k10) := (by rw [← i10]; exact box_new _ _ _ 3 _ rfl); have a10 : j10.cell? ⟨w.heap.size, 4, none⟩ = some (.int .i64 o10) := (by rw [← i10]; exact box_new _ _ _ 4 _ rfl); replace H := bind_hid H; obtain ⟨t_4, qt_4, H⟩ := H; go_wp2_with fail; go_at_call 83; refine (GsL8Zone.C (n10)  _    qt_4).mono ?_; rintro b11 wt_4 ⟨rfl, bt_4⟩; have p10 := Lib.hid (Below.step z10.out bt_4); replace c10 := cell_below bt_4 c10; replace b10 := cell_below bt_4 b10; replace e10 := cell_below bt_4 e10; replace d10 := cell_below bt_4 d10; replace a10 := cell_below bt_4 a10; clear bt_4; replace H := join_hid H
 cases t_4 with
 | false =>
  replace H := ite_f H; replace H := app_hid H; replace H := join_hid H; replace H := ite_f H; replace H := app_hid H; replace H := join_hid H; replace H := ite_f H; replace H := app_hid H; replace H := join_hid H; replace H := ite_f H; replace H := app_hid H; obtain rfl := ret_hid H; go_wp2_with fail; go_ret; exact ⟨rfl, p10.out⟩
 | true =>
  replace H := ite_t H; replace H := bind_hid H; obtain ⟨t_8, qt_8, H⟩ := H; go_wp2_with fail; go_at_call 84; refine (GsL8Grams.C (l10)  _    qt_8).mono ?_; rintro f11 wt_8 ⟨rfl, bt_8⟩; have t10 := Lib.hid (Below.step p10.out bt_8); replace c10 := cell_below bt_8 c10; replace b10 := cell_below bt_8 b10; replace e10 := cell_below bt_8 e10; replace d10 := cell_below bt_8 d10; replace a10 := cell_below bt_8 a10; clear bt_8; replace H := app_hid H; replace H := join_hid H
  cases t_8 with
  | false =>
   replace H := ite_f H; replace H := app_hid H; replace H := join_hid H; replace H := ite_f H; replace H := app_hid H; replace H := join_hid H; replace H := ite_f H; replace H := app_hid H; obtain rfl := ret_hid H; go_wp2_with fail; go_ret; exact ⟨rfl, t10.out⟩
  | true =>
   replace H := ite_t H; replace H := bind_hid H; obtain ⟨t_13, x10, H⟩ := H; go_wp2_with fail; go_at_call 82; refine (GsL2Day.C (k10)  _    x10).mono ?_; rintro d11 g11 ⟨rfl, h10⟩; have q10 := Lib.hid (Below.step t10.out h10); replace c10 := cell_below h10 c10; replace b10 := cell_below h10 b10; replace e10 := cell_below h10 e10; replace d10 := cell_below h10 d10; replace a10 := cell_below h10 a10; clear h10; replace H := app_hid H; replace H := join_hid H
   cases t_13 with
   | false =>
    replace H := ite_f H; replace H := app_hid H; replace H := join_hid H; replace H := ite_f H; replace H := app_hid H; obtain rfl := ret_hid H; go_wp2_with fail; go_ret; exact ⟨rfl, q10.out⟩
   | true =>
    replace H := ite_t H; replace H := bind_hid H; obtain ⟨t_20, v10, H⟩ := H; go_wp2_with fail; go_at_call 64; refine (GsL1In.C (m10) (0) (k10)  _    v10).mono ?_; rintro h11 e11 ⟨rfl, g10⟩; have s10 := Lib.hid (Below.step q10.out g10); replace c10 := cell_below g10 c10; replace b10 := cell_below g10 b10; replace e10 := cell_below g10 e10; replace d10 := cell_below g10 d10; replace a10 := cell_below g10 a10; clear g10; replace H := app_hid H; replace H := join_hid H
    cases t_20 with
    | false =>
     replace H := ite_f H; replace H := app_hid H; obtain rfl := ret_hid H; go_wp2_with fail; go_ret; exact ⟨rfl, s10.out⟩
    | true =>
     replace H := ite_t H; replace H := bind_hid H; obtain ⟨t_25, w10, H⟩ := H; go_wp2_with fail; go_at_call 85; refine (GsL8Cents.C (o10)  _    w10).mono ?_; rintro a11 c11 ⟨rfl, f10⟩; have y10 := Lib.hid (Below.step s10.out f10); replace c10 := cell_below f10 c10; replace b10 := cell_below f10 b10; replace e10 := cell_below f10 e10; replace d10 := cell_below f10 d10; replace a10 := cell_below f10 a10; clear f10; replace H := app_hid H; obtain rfl := ret_hid H; go_wp2_with fail; go_ret; exact ⟨rfl, y10.out⟩
end Go.Proofs.Ytgbcdmlcmnaimaa.GsL8One

namespace Go.Proofs.Ytgbcdmlcmnaimaa.GsL8Code
open Go.RowKit
open Go.Proofs.Ytgbcdmlcmnaimaa.Rowed Go.Proofs.Ytgbcdmlcmnaimaa.Turn Go.Proofs.Ytgbcdmlcmnaimaa.Aid Go.Proofs.Ytgbcdmlcmnaimaa.GoP Go.Proofs.Ytgbcdmlcmnaimaa.GoM

def P (r_0 : PRate.Rate) : Option (Int) :=
 unRate r_0 fun (r_0_zone : Int) (r_0_grams : Int) (r_0_from_ : Int) (r_0_until_ : Int) (r_0_cents : Int) =>
 letK (IntKind.i64.wrap (10000 * r_0_zone)) fun (t_4 : Int) =>
 letK (IntKind.i64.wrap (t_4 + r_0_grams)) fun (t_7 : Int) =>
 letK (IntKind.i64.wrap (t_7 * 10000)) fun (t_8 : Int) =>
 letK (IntKind.i64.wrap (t_8 + r_0_from_)) fun (t_11 : Int) =>
 some t_11

set_option maxRecDepth 100000 in
set_option maxHeartbeats 2000000 in
theorem C (r_0 : PRate.Rate)   (w : World)   {r : Int} (H : Hid (P r_0 = some r)) :
  Calls Try.prog 81 #[r_0.val] w (Gives (.int .i64 r) w) := by
 have HB := Lib.hid (Below.refl w.heap.size w); unfold P at H; obtain ⟨d10, e10, c10, h10, g10⟩ := r_0; replace H := unRate_hid H; unfold PRate.Rate.val
 go_enter Try.func81, Try.ntmps81
 obtain ⟨a10, b10⟩ : ∃ x, w.alloc (.cells #[.int .i64 d10, .int .i64 e10, .int .i64 c10, .int .i64 h10, .int .i64 g10] 92) = x := ⟨_, rfl⟩; have f10 : Below w.heap.size w a10 := (by rw [← b10]; exact (Below.refl _ _).alloc (Nat.le_refl _) _); have i10 := Lib.hid (Below.step HB.out f10); clear f10; have l10 : a10.cell? ⟨w.heap.size, 0, none⟩ = some (.int .i64 d10) := (by rw [← b10]; exact box_new _ _ _ 0 _ rfl); have m10 : a10.cell? ⟨w.heap.size, 1, none⟩ = some (.int .i64 e10) := (by rw [← b10]; exact box_new _ _ _ 1 _ rfl); have j10 : a10.cell? ⟨w.heap.size, 2, none⟩ = some (.int .i64 c10) := (by rw [← b10]; exact box_new _ _ _ 2 _ rfl); have o10 : a10.cell? ⟨w.heap.size, 3, none⟩ = some (.int .i64 h10) := (by rw [← b10]; exact box_new _ _ _ 3 _ rfl); have k10 : a10.cell? ⟨w.heap.size, 4, none⟩ = some (.int .i64 g10) := (by rw [← b10]; exact box_new _ _ _ 4 _ rfl); replace H := let_hid H; obtain ⟨t_4, ht_4, H⟩ := H; replace H := let_hid H; obtain ⟨t_7, ht_7, H⟩ := H; replace H := let_hid H; obtain ⟨t_8, ht_8, H⟩ := H; replace H := let_hid H; obtain ⟨t_11, n10, H⟩ := H; obtain rfl := ret_hid H; go_wp2_with fail; go_ret; exact ⟨rfl, i10.out⟩
end Go.Proofs.Ytgbcdmlcmnaimaa.GsL8Code

namespace Go.Proofs.Ytgbcdmlcmnaimaa.GsL8Good
open Go.RowKit
open Go.Proofs.Ytgbcdmlcmnaimaa.Rowed Go.Proofs.Ytgbcdmlcmnaimaa.Turn Go.Proofs.Ytgbcdmlcmnaimaa.Aid Go.Proofs.Ytgbcdmlcmnaimaa.GoP Go.Proofs.Ytgbcdmlcmnaimaa.GoM

def l0 (list : (List PRate.Rate)) (s : Int) (nx0 bk0 : Int → Option (Bool)) : Option (Bool) :=
 letK s fun i_3l0 =>
 letK (decide (i_3l0 < (list.length : Int))) fun (t_5 : Bool) =>
 joinK (fun (t_9 : Bool) =>
 iteK t_9
 (Option.bind (idx list i_3l0) fun (yt_12 : PRate.Rate) =>
 unRate yt_12 fun (t_12_zone : Int) (t_12_grams : Int) (t_12_from_ : Int) (t_12_until_ : Int) (t_12_cents : Int) =>
 Option.bind (GsL8One.P (PRate.Rate.mk t_12_zone t_12_grams t_12_from_ t_12_until_ t_12_cents)) fun (t_14 : Bool) =>
 letK (!t_14) fun (t_15 : Bool) =>
 joinK (fun (t_33 : Bool) =>
 iteK t_33
 (some false)
 (letK (decide (0 < i_3l0)) fun (t_36 : Bool) =>
 joinK (fun (t_50 : Bool) =>
 joinK (fun (t_64 : Bool) =>
 joinK (fun (t_78 : Bool) =>
 iteK t_78
 (some false)
 (letK (IntKind.i64.wrap (i_3l0 + 1)) fun (t_81 : Int) =>
 appK nx0 (t_81))) fun jt_78 => iteK t_64 (letK (IntKind.i64.wrap (i_3l0 - 1)) fun (t_68 : Int) =>
 Option.bind (idx list t_68) fun (yt_69 : PRate.Rate) =>
 unRate yt_69 fun (t_69_zone : Int) (t_69_grams : Int) (t_69_from_ : Int) (t_69_until_ : Int) (t_69_cents : Int) =>
 Option.bind (idx list i_3l0) fun (yt_74 : PRate.Rate) =>
 unRate yt_74 fun (t_74_zone : Int) (t_74_grams : Int) (t_74_from_ : Int) (t_74_until_ : Int) (t_74_cents : Int) =>
 letK (decide (t_74_from_ ≤ t_69_until_)) fun (t_77 : Bool) =>
 appK jt_78 t_77) (appK jt_78 false)) fun jt_64 => iteK t_50 (letK (IntKind.i64.wrap (i_3l0 - 1)) fun (t_54 : Int) =>
 Option.bind (idx list t_54) fun (yt_55 : PRate.Rate) =>
 unRate yt_55 fun (t_55_zone : Int) (t_55_grams : Int) (t_55_from_ : Int) (t_55_until_ : Int) (t_55_cents : Int) =>
 Option.bind (idx list i_3l0) fun (yt_60 : PRate.Rate) =>
 unRate yt_60 fun (t_60_zone : Int) (t_60_grams : Int) (t_60_from_ : Int) (t_60_until_ : Int) (t_60_cents : Int) =>
 letK (t_55_grams == t_60_grams) fun (t_63 : Bool) =>
 appK jt_64 t_63) (appK jt_64 false)) fun jt_50 => iteK t_36 (letK (IntKind.i64.wrap (i_3l0 - 1)) fun (t_40 : Int) =>
 Option.bind (idx list t_40) fun (yt_41 : PRate.Rate) =>
 unRate yt_41 fun (t_41_zone : Int) (t_41_grams : Int) (t_41_from_ : Int) (t_41_until_ : Int) (t_41_cents : Int) =>
 Option.bind (idx list i_3l0) fun (yt_46 : PRate.Rate) =>
 unRate yt_46 fun (t_46_zone : Int) (t_46_grams : Int) (t_46_from_ : Int) (t_46_until_ : Int) (t_46_cents : Int) =>
 letK (t_41_zone == t_46_zone) fun (t_49 : Bool) =>
 appK jt_50 t_49) (appK jt_50 false))) fun jt_33 => iteK t_15 (appK jt_33 true) (letK (decide (0 < i_3l0)) fun (t_18 : Bool) =>
 joinK (fun (t_32 : Bool) =>
 appK jt_33 t_32) fun jt_32 => iteK t_18 (letK (IntKind.i64.wrap (i_3l0 - 1)) fun (t_22 : Int) =>
 Option.bind (idx list t_22) fun (yt_23 : PRate.Rate) =>
 unRate yt_23 fun (t_23_zone : Int) (t_23_grams : Int) (t_23_from_ : Int) (t_23_until_ : Int) (t_23_cents : Int) =>
 Option.bind (GsL8Code.P (PRate.Rate.mk t_23_zone t_23_grams t_23_from_ t_23_until_ t_23_cents)) fun (t_25 : Int) =>
 Option.bind (idx list i_3l0) fun (yt_28 : PRate.Rate) =>
 unRate yt_28 fun (t_28_zone : Int) (t_28_grams : Int) (t_28_from_ : Int) (t_28_until_ : Int) (t_28_cents : Int) =>
 Option.bind (GsL8Code.P (PRate.Rate.mk t_28_zone t_28_grams t_28_from_ t_28_until_ t_28_cents)) fun (t_30 : Int) =>
 letK (decide (t_30 ≤ t_25)) fun (t_31 : Bool) =>
 appK jt_32 t_31) (appK jt_32 false)))
 (appK bk0 (i_3l0))) fun jt_9 => iteK t_5 (letK (decide (i_3l0 ≤ 16)) fun (t_8 : Bool) =>
 appK jt_9 t_8) (appK jt_9 false)

def e0 (list : (List PRate.Rate)) (s : Int) : Option (Bool) :=
 letK s fun i_3l0 =>
 letK (decide ((list.length : Int) ≤ 16)) fun (t_85 : Bool) =>
 some t_85

def P (fuel : Nat) (list : (List PRate.Rate)) : Option (Bool) :=
 loopK (l0 list) fuel (0) (e0 list)

set_option maxRecDepth 100000 in
set_option maxHeartbeats 2000000 in
theorem C (fuel : Nat) (list : (List PRate.Rate)) (A0 : Option Addr) (c0 : Nat)  (w : World) (M0 : Hid (Cells w 5 A0 list.length (PRate.flat list))) (N0 : Hid (list.length ≤ 9223372036854775807))  {r : Bool} (H : Hid (P fuel list = some r)) :
  Calls Try.prog 39 #[.slice A0 list.length c0] w (Gives (.bool r) w) := by
 have HB := Lib.hid (Below.refl w.heap.size w); unfold P at H; have N0o := N0.out
 go_enter Try.func39, Try.ntmps39
 go_wp2_with fail; go_loopg [3] (fuel) (fun m_ v3_ wr => ∃ (j11 : Int), v3_ = .int .i64 j11 ∧ Hid (loopK (l0 list) m_ (j11) (e0 list) = some r) ∧ Hid (Below w.heap.size w wr))
 case atStart => exact ⟨_, rfl, H, HB⟩
 case round =>
  obtain ⟨j11, rfl, H, p10⟩ := hrel; rename World => wr0
  cases gk with
  | zero => exact (loop_zero H).elim
  | succ m0 =>
   replace H := loop_succ H; unfold l0 at H; replace H := let_hid H; obtain ⟨_, rfl, H⟩ := H; replace H := let_hid H; obtain ⟨t_5, ht_5, H⟩ := H; replace H := join_hid H
   cases t_5 with
   | false =>
    replace H := ite_f H; replace H := app_hid H; replace H := ite_f H; replace H := app_hid H; unfold e0 at H; replace H := let_hid H; obtain ⟨_, rfl, H⟩ := H; replace H := let_hid H; obtain ⟨t_85, c13, H⟩ := H; obtain rfl := ret_hid H; go_wp2_with fail; go_ret; exact ⟨rfl, p10.out⟩
   | true =>
    replace H := ite_t H; replace H := let_hid H; obtain ⟨t_8, ht_8, H⟩ := H; replace H := app_hid H
    cases t_8 with
    | false =>
     replace H := ite_f H; replace H := app_hid H; unfold e0 at H; replace H := let_hid H; obtain ⟨_, rfl, H⟩ := H; replace H := let_hid H; obtain ⟨t_85, c13, H⟩ := H; obtain rfl := ret_hid H; go_wp2_with fail; go_ret; exact ⟨rfl, p10.out⟩
    | true =>
     replace H := ite_t H; go_wp2_with fail; replace H := idx_hid H; obtain ⟨q10, m13, h12, m12, z10, H⟩ := H; subst h12; have q13 : q10 < list.length := (by have := of_decide_eq_true ht_5; omega); have q14 : q10 ≤ 16 := (by have := of_decide_eq_true ht_8; omega); obtain ⟨b11, f11, a11, g11, c11⟩ := m13; replace H := unRate_hid H; obtain ⟨v13, p13, t13, w12, o11, a10, d10, b10, c10, e10⟩ := ORate.at_ M0.out m12; obtain rfl := Option.some.inj (z10.out.symm.trans o11); subst w12; have l14 := cell_lt a10; replace a10 := cell_below p10.out a10; replace d10 := cell_below p10.out d10; replace b10 := cell_below p10.out b10; replace c10 := cell_below p10.out c10; replace e10 := cell_below p10.out e10; clear o11; have y13 : (0 : Int) ≤ (q10 : Int) := (by omega); have p14 : (q10 : Int) < ((list.length : Nat) : Int) := (by omega); have o14 : ((q10 : Int)).toNat = q10 := (by omega); have k10 := Lib.hid a10; replace a10 := cell_regrown a10; have l10 := Lib.hid d10; replace d10 := cell_regrown d10; have m10 := Lib.hid b10; replace b10 := cell_regrown b10; have n10 := Lib.hid c10; replace c10 := cell_regrown c10; have o10 := Lib.hid e10; replace e10 := cell_regrown e10; replace H := bind_hid H; obtain ⟨t_14, z12, H⟩ := H; have y10 : ∀ d os, Calls Try.prog 80 #[.agg #[.int .i64 b11, .int .i64 f11, .int .i64 a11, .int .i64 g11, .int .i64 c11]] (Go.Sort.grow (redrawn wr0 d) os) fun e w'' => e = .returned (.bool t_14) ∧ ∃ p : Regrown, w'' = Go.Sort.grow (redrawn wr0 p.d) p.os := fun d os => Calls.regrown_of (GsL8One.C ((PRate.Rate.mk b11 f11 a11 g11 c11))  _    z12)
     cases t_14 with
     | false =>
      replace H := let_hid H; obtain ⟨t_15, m11, H⟩ := H; obtain rfl : t_15 = true := m11.symm; replace H := join_hid H; replace H := ite_t H; replace H := app_hid H; refine wp_region_quiet_below (by kernel_rfl) (by kernel_rfl) ?_
      repeat (go_big_quiet_step (first | (go_at_call 80; exact y10 _ _)))
      refine wpQuiet_nil ?_; intro Y4 hY4; replace hY4 := below_class hY4; clear y10; replace a10 := k10.out; clear k10; replace d10 := l10.out; clear l10; replace b10 := m10.out; clear m10; replace c10 := n10.out; clear n10; replace e10 := o10.out; clear o10; have HBY4 := Lib.hid (Below.step p10.out hY4); replace a10 := cell_below hY4 a10; replace d10 := cell_below hY4 d10; replace b10 := cell_below hY4 b10; replace c10 := cell_below hY4 c10; replace e10 := cell_below hY4 e10; clear hY4; replace H := ite_t H; obtain rfl := ret_hid H; go_wp2_with fail; go_ret; exact ⟨rfl, HBY4.out⟩
     | true =>
      replace H := let_hid H; obtain ⟨t_15, m11, H⟩ := H; obtain rfl : t_15 = false := m11.symm; replace H := join_hid H; replace H := ite_f H; replace H := let_hid H; obtain ⟨t_18, d11, H⟩ := H; replace H := join_hid H
      cases t_18 with
      | false =>
       have x12 : ¬ (0 < q10) := (by have := of_decide_eq_false d11; omega); replace H := ite_f H; replace H := app_hid H; replace H := app_hid H; refine wp_region_quiet_below (by kernel_rfl) (by kernel_rfl) ?_
       repeat (go_big_quiet_step (first | (go_at_call 80; exact y10 _ _)))
       refine wpQuiet_nil ?_; intro Y4 hY4; replace hY4 := below_class hY4; clear y10; replace a10 := k10.out; clear k10; replace d10 := l10.out; clear l10; replace b10 := m10.out; clear m10; replace c10 := n10.out; clear n10; replace e10 := o10.out; clear o10; have HBY4 := Lib.hid (Below.step p10.out hY4); replace a10 := cell_below hY4 a10; replace d10 := cell_below hY4 d10; replace b10 := cell_below hY4 b10; replace c10 := cell_below hY4 c10; replace e10 := cell_below hY4 e10; clear hY4; replace H := ite_f H; go_wp2_with fail; have k10 := Lib.hid a10; replace a10 := cell_regrown a10; have l10 := Lib.hid d10; replace d10 := cell_regrown d10; have m10 := Lib.hid b10; replace b10 := cell_regrown b10; have n10 := Lib.hid c10; replace c10 := cell_regrown c10; have o10 := Lib.hid e10; replace e10 := cell_regrown e10; replace H := let_hid H; obtain ⟨t_36, l11, H⟩ := H; obtain rfl := d11.symm.trans l11; replace H := join_hid H; replace H := ite_f H; replace H := app_hid H; replace H := join_hid H; replace H := ite_f H; replace H := app_hid H; replace H := join_hid H; replace H := ite_f H; replace H := app_hid H; refine wp_region_quiet_below (by kernel_rfl) (by kernel_rfl) ?_
       repeat (go_big_quiet_step (fail))
       refine wpQuiet_nil ?_; intro Y6 hY6; replace hY6 := below_class hY6; replace a10 := k10.out; clear k10; replace d10 := l10.out; clear l10; replace b10 := m10.out; clear m10; replace c10 := n10.out; clear n10; replace e10 := o10.out; clear o10; have HBY6 := Lib.hid (Below.step HBY4.out hY6); replace a10 := cell_below hY6 a10; replace d10 := cell_below hY6 d10; replace b10 := cell_below hY6 b10; replace c10 := cell_below hY6 c10; replace e10 := cell_below hY6 e10; clear hY6; replace H := ite_f H; replace H := let_hid H; obtain ⟨t_81, h11, H⟩ := H; replace H := app_hid H; go_wp2_with fail
       go_roundg m0
       case measure => omega
       case rel => exact ⟨_, rfl, H, HBY6⟩
      | true =>
       have x12 : 0 < q10 := (by have := of_decide_eq_true d11; omega); replace H := ite_t H; replace H := let_hid H; obtain ⟨t_22, i11, H⟩ := H; replace H := idx_hid H; obtain ⟨x10, g12, d13, e12, e11, H⟩ := H; subst d13; obtain ⟨p11, r11, x11, q11, v11⟩ := g12; replace H := unRate_hid H; obtain ⟨h14, c14, x13, z11, w11, f10, g10, h10, i10, j10⟩ := ORate.at_ M0.out e12; obtain rfl := Option.some.inj (e11.out.symm.trans w11); simp only [Option.some.injEq, Addr.mk.injEq] at z11; obtain ⟨rfl, rfl, _⟩ := z11; have e14 := cell_lt f10; replace f10 := cell_below p10.out f10; replace g10 := cell_below p10.out g10; replace h10 := cell_below p10.out h10; replace i10 := cell_below p10.out i10; replace j10 := cell_below p10.out j10; clear w11; have j14 : (0 : Int) ≤ (x10 : Int) := (by omega); have n14 : (x10 : Int) < ((list.length : Nat) : Int) := (by omega); have a14 : ((x10 : Int)).toNat = x10 := (by omega); have v10 := Lib.hid f10; replace f10 := cell_regrown f10; have w10 := Lib.hid g10; replace g10 := cell_regrown g10; have t10 := Lib.hid h10; replace h10 := cell_regrown h10; have r10 := Lib.hid i10; replace i10 := cell_regrown i10; have s10 := Lib.hid j10; replace j10 := cell_regrown j10; replace H := bind_hid H; obtain ⟨t_25, n13, H⟩ := H; have k11 : ∀ d os, Calls Try.prog 81 #[.agg #[.int .i64 p11, .int .i64 r11, .int .i64 x11, .int .i64 q11, .int .i64 v11]] (Go.Sort.grow (redrawn wr0 d) os) fun e w'' => e = .returned (.int .i64 t_25) ∧ ∃ p : Regrown, w'' = Go.Sort.grow (redrawn wr0 p.d) p.os := fun d os => Calls.regrown_of (GsL8Code.C ((PRate.Rate.mk p11 r11 x11 q11 v11))  _    n13); replace H := idx_hid H; obtain ⟨g13, d14, o13, n12, t11, H⟩ := H; obtain rfl : q10 = g13 := (by omega); clear o13; obtain rfl := Option.some.inj (z10.out.symm.trans t11.out); clear t11 n12; replace H := unRate_hid H; replace H := bind_hid H; obtain ⟨t_30, f12, H⟩ := H; have n11 : ∀ d os, Calls Try.prog 81 #[.agg #[.int .i64 b11, .int .i64 f11, .int .i64 a11, .int .i64 g11, .int .i64 c11]] (Go.Sort.grow (redrawn wr0 d) os) fun e w'' => e = .returned (.int .i64 t_30) ∧ ∃ p : Regrown, w'' = Go.Sort.grow (redrawn wr0 p.d) p.os := fun d os => Calls.regrown_of (GsL8Code.C ((PRate.Rate.mk b11 f11 a11 g11 c11))  _    f12); replace H := let_hid H; obtain ⟨t_31, k14, H⟩ := H; replace H := app_hid H; replace H := app_hid H; refine wp_region_quiet_below (by kernel_rfl) (by kernel_rfl) ?_
       repeat (go_big_quiet_step (first | (go_at_call 81; with_reducible exact k11 _ _) | (go_at_call 81; with_reducible exact n11 _ _) | (go_at_call 80; exact y10 _ _) | (go_at_call 81; exact k11 _ _) | (go_at_call 81; exact n11 _ _)))
       refine wpQuiet_nil ?_; intro Y4 hY4; replace hY4 := below_class hY4; clear y10 k11 n11; replace a10 := k10.out; clear k10; replace d10 := l10.out; clear l10; replace b10 := m10.out; clear m10; replace c10 := n10.out; clear n10; replace e10 := o10.out; clear o10; replace f10 := v10.out; clear v10; replace g10 := w10.out; clear w10; replace h10 := t10.out; clear t10; replace i10 := r10.out; clear r10; replace j10 := s10.out; clear s10; have HBY4 := Lib.hid (Below.step p10.out hY4); replace a10 := cell_below hY4 a10; replace d10 := cell_below hY4 d10; replace b10 := cell_below hY4 b10; replace c10 := cell_below hY4 c10; replace e10 := cell_below hY4 e10; replace f10 := cell_below hY4 f10; replace g10 := cell_below hY4 g10; replace h10 := cell_below hY4 h10; replace i10 := cell_below hY4 i10; replace j10 := cell_below hY4 j10; clear hY4
       cases t_31 with
       | false =>
        replace H := ite_f H; go_wp2_with fail; have k10 := Lib.hid a10; replace a10 := cell_regrown a10; have l10 := Lib.hid d10; replace d10 := cell_regrown d10; have m10 := Lib.hid b10; replace b10 := cell_regrown b10; have n10 := Lib.hid c10; replace c10 := cell_regrown c10; have o10 := Lib.hid e10; replace e10 := cell_regrown e10; have v10 := Lib.hid f10; replace f10 := cell_regrown f10; have w10 := Lib.hid g10; replace g10 := cell_regrown g10; have t10 := Lib.hid h10; replace h10 := cell_regrown h10; have r10 := Lib.hid i10; replace i10 := cell_regrown i10; have s10 := Lib.hid j10; replace j10 := cell_regrown j10; replace H := let_hid H; obtain ⟨t_36, l11, H⟩ := H; obtain rfl := d11.symm.trans l11; replace H := join_hid H; replace H := ite_t H; replace H := let_hid H; obtain ⟨t_40, q12, H⟩ := H; obtain rfl := i11.symm.trans q12; replace H := idx_hid H; obtain ⟨k12, r13, l13, t12, s11, H⟩ := H; obtain rfl : x10 = k12 := (by omega); clear l13; obtain rfl := Option.some.inj (e11.out.symm.trans s11.out); clear s11 t12; replace H := unRate_hid H; replace H := idx_hid H; obtain ⟨p12, s13, a13, b13, b12, H⟩ := H; obtain rfl : q10 = p12 := (by omega); clear a13; obtain rfl := Option.some.inj (z10.out.symm.trans b12.out); clear b12 b13; replace H := unRate_hid H; replace H := let_hid H; obtain ⟨t_49, b14, H⟩ := H; replace H := app_hid H; replace H := join_hid H
        cases t_49 with
        | false =>
         replace H := ite_f H; replace H := app_hid H; replace H := join_hid H; replace H := ite_f H; replace H := app_hid H; refine wp_region_quiet_below (by kernel_rfl) (by kernel_rfl) ?_
         repeat (go_big_quiet_step (fail))
         refine wpQuiet_nil ?_; intro Y6 hY6; replace hY6 := below_class hY6; replace a10 := k10.out; clear k10; replace d10 := l10.out; clear l10; replace b10 := m10.out; clear m10; replace c10 := n10.out; clear n10; replace e10 := o10.out; clear o10; replace f10 := v10.out; clear v10; replace g10 := w10.out; clear w10; replace h10 := t10.out; clear t10; replace i10 := r10.out; clear r10; replace j10 := s10.out; clear s10; have HBY6 := Lib.hid (Below.step HBY4.out hY6); replace a10 := cell_below hY6 a10; replace d10 := cell_below hY6 d10; replace b10 := cell_below hY6 b10; replace c10 := cell_below hY6 c10; replace e10 := cell_below hY6 e10; replace f10 := cell_below hY6 f10; replace g10 := cell_below hY6 g10; replace h10 := cell_below hY6 h10; replace i10 := cell_below hY6 i10; replace j10 := cell_below hY6 j10; clear hY6; replace H := ite_f H; replace H := let_hid H; obtain ⟨t_81, h11, H⟩ := H; replace H := app_hid H; go_wp2_with fail
         go_roundg m0
         case measure => omega
         case rel => exact ⟨_, rfl, H, HBY6⟩
        | true =>
         replace H := ite_t H; replace H := let_hid H; obtain ⟨t_54, k13, H⟩ := H; obtain rfl := i11.symm.trans k13; replace H := idx_hid H; obtain ⟨r12, z13, i12, e13, d12, H⟩ := H; obtain rfl : x10 = r12 := (by omega); clear i12; obtain rfl := Option.some.inj (e11.out.symm.trans d12.out); clear d12 e13; replace H := unRate_hid H; replace H := idx_hid H; obtain ⟨j12, g14, i13, v12, y11, H⟩ := H; obtain rfl : q10 = j12 := (by omega); clear i13; obtain rfl := Option.some.inj (z10.out.symm.trans y11.out); clear y11 v12; replace H := unRate_hid H; replace H := let_hid H; obtain ⟨t_63, m14, H⟩ := H; replace H := app_hid H; replace H := join_hid H
         cases t_63 with
         | false =>
          replace H := ite_f H; replace H := app_hid H; refine wp_region_quiet_below (by kernel_rfl) (by kernel_rfl) ?_
          repeat (go_big_quiet_step (fail))
          refine wpQuiet_nil ?_; intro Y6 hY6; replace hY6 := below_class hY6; replace a10 := k10.out; clear k10; replace d10 := l10.out; clear l10; replace b10 := m10.out; clear m10; replace c10 := n10.out; clear n10; replace e10 := o10.out; clear o10; replace f10 := v10.out; clear v10; replace g10 := w10.out; clear w10; replace h10 := t10.out; clear t10; replace i10 := r10.out; clear r10; replace j10 := s10.out; clear s10; have HBY6 := Lib.hid (Below.step HBY4.out hY6); replace a10 := cell_below hY6 a10; replace d10 := cell_below hY6 d10; replace b10 := cell_below hY6 b10; replace c10 := cell_below hY6 c10; replace e10 := cell_below hY6 e10; replace f10 := cell_below hY6 f10; replace g10 := cell_below hY6 g10; replace h10 := cell_below hY6 h10; replace i10 := cell_below hY6 i10; replace j10 := cell_below hY6 j10; clear hY6; replace H := ite_f H; replace H := let_hid H; obtain ⟨t_81, h11, H⟩ := H; replace H := app_hid H; go_wp2_with fail
          go_roundg m0
          case measure => omega
          case rel => exact ⟨_, rfl, H, HBY6⟩
         | true =>
          replace H := ite_t H; replace H := let_hid H; obtain ⟨t_68, f13, H⟩ := H; obtain rfl := i11.symm.trans f13; replace H := idx_hid H; obtain ⟨s12, i14, l12, y12, c12, H⟩ := H; obtain rfl : x10 = s12 := (by omega); clear l12; obtain rfl := Option.some.inj (e11.out.symm.trans c12.out); clear c12 y12; replace H := unRate_hid H; replace H := idx_hid H; obtain ⟨h13, f14, j13, o12, a12, H⟩ := H; obtain rfl : q10 = h13 := (by omega); clear j13; obtain rfl := Option.some.inj (z10.out.symm.trans a12.out); clear a12 o12; replace H := unRate_hid H; replace H := let_hid H; obtain ⟨t_77, w13, H⟩ := H; replace H := app_hid H; refine wp_region_quiet_below (by kernel_rfl) (by kernel_rfl) ?_
          repeat (go_big_quiet_step (fail))
          refine wpQuiet_nil ?_; intro Y6 hY6; replace hY6 := below_class hY6; replace a10 := k10.out; clear k10; replace d10 := l10.out; clear l10; replace b10 := m10.out; clear m10; replace c10 := n10.out; clear n10; replace e10 := o10.out; clear o10; replace f10 := v10.out; clear v10; replace g10 := w10.out; clear w10; replace h10 := t10.out; clear t10; replace i10 := r10.out; clear r10; replace j10 := s10.out; clear s10; have HBY6 := Lib.hid (Below.step HBY4.out hY6); replace a10 := cell_below hY6 a10; replace d10 := cell_below hY6 d10; replace b10 := cell_below hY6 b10; replace c10 := cell_below hY6 c10; replace e10 := cell_below hY6 e10; replace f10 := cell_below hY6 f10; replace g10 := cell_below hY6 g10; replace h10 := cell_below hY6 h10; replace i10 := cell_below hY6 i10; replace j10 := cell_below hY6 j10; clear hY6
          cases t_77 with
          | false =>
           replace H := ite_f H; replace H := let_hid H; obtain ⟨t_81, h11, H⟩ := H; replace H := app_hid H; go_wp2_with fail
           go_roundg m0
           case measure => omega
           case rel => exact ⟨_, rfl, H, HBY6⟩
          | true =>
           replace H := ite_t H; obtain rfl := ret_hid H; go_wp2_with fail; go_ret; exact ⟨rfl, HBY6.out⟩
       | true =>
        replace H := ite_t H; obtain rfl := ret_hid H; go_wp2_with fail; go_ret; exact ⟨rfl, HBY4.out⟩
end Go.Proofs.Ytgbcdmlcmnaimaa.GsL8Good

namespace Go.Proofs.Ytgbcdmlcmnaimaa.GsL9Good
open Go.RowKit
open Go.Proofs.Ytgbcdmlcmnaimaa.Rowed Go.Proofs.Ytgbcdmlcmnaimaa.Turn Go.Proofs.Ytgbcdmlcmnaimaa.Aid Go.Proofs.Ytgbcdmlcmnaimaa.GoP Go.Proofs.Ytgbcdmlcmnaimaa.GoM

def l0 (list : (List PMail.Mail)) (k0 : Nat) (s : Unit) (nx0 bk0 : Unit → Option (Bool)) : Option (Bool) :=
 
 Option.bind (idx list (k0 : Int)) fun (yt_8 : PMail.Mail) =>
 unMail yt_8 fun (t_8_leave : Int) (t_8_from_ : Int) (t_8_to_ : Int) (t_8_arrive : Int) =>
 Option.bind (GsL9One.P (PMail.Mail.mk t_8_leave t_8_from_ t_8_to_ t_8_arrive)) fun (t_10 : Bool) =>
 letK (!t_10) fun (t_11 : Bool) =>
 joinK (fun (t_29 : Bool) =>
 iteK t_29
 (some false)
 (appK nx0 ())) fun jt_29 => iteK t_11 (appK jt_29 true) (letK (decide (0 < (k0 : Int))) fun (t_14 : Bool) =>
 joinK (fun (t_28 : Bool) =>
 appK jt_29 t_28) fun jt_28 => iteK t_14 (letK (IntKind.i64.wrap ((k0 : Int) - 1)) fun (t_18 : Int) =>
 Option.bind (idx list t_18) fun (yt_19 : PMail.Mail) =>
 unMail yt_19 fun (t_19_leave : Int) (t_19_from_ : Int) (t_19_to_ : Int) (t_19_arrive : Int) =>
 Option.bind (GsL9Code.P (PMail.Mail.mk t_19_leave t_19_from_ t_19_to_ t_19_arrive)) fun (t_21 : Int) =>
 Option.bind (idx list (k0 : Int)) fun (yt_24 : PMail.Mail) =>
 unMail yt_24 fun (t_24_leave : Int) (t_24_from_ : Int) (t_24_to_ : Int) (t_24_arrive : Int) =>
 Option.bind (GsL9Code.P (PMail.Mail.mk t_24_leave t_24_from_ t_24_to_ t_24_arrive)) fun (t_26 : Int) =>
 letK (decide (t_26 ≤ t_21)) fun (t_27 : Bool) =>
 appK jt_28 t_27) (appK jt_28 false))

def e0 (list : (List PMail.Mail)) (s : Unit) : Option (Bool) :=
 
 letK (decide ((list.length : Int) ≤ 20)) fun (t_36 : Bool) =>
 some t_36

def P (list : (List PMail.Mail)) : Option (Bool) :=
 cntK (l0 list) (list.length) 0 () (e0 list)

set_option maxRecDepth 100000 in
set_option maxHeartbeats 2000000 in
theorem C (list : (List PMail.Mail)) (A0 : Option Addr) (c0 : Nat)  (w : World) (M0 : Hid (Cells w 4 A0 list.length (PMail.flat list))) (N0 : Hid (list.length ≤ 9223372036854775807))  {r : Bool} (H : Hid (P list = some r)) :
  Calls Try.prog 40 #[.slice A0 list.length c0] w (Gives (.bool r) w) := by
 have HB := Lib.hid (Below.refl w.heap.size w); unfold P at H; have N0o := N0.out
 go_enter Try.func40, Try.ntmps40
 go_wp2_with fail; go_loopg [3] (list.length) (fun m_ v3_ wr => ∃ (k0 : Nat) , k0 + m_ = list.length ∧ v3_ = .int .i64 (k0 : Int) ∧ Hid (cntK (l0 list) m_ k0 () (e0 list) = some r) ∧ Hid (Below w.heap.size w wr))
 case atStart => exact ⟨0, by omega, rfl, H, HB⟩
 case round =>
  obtain ⟨k0, hkm0, rfl, H, e10⟩ := hrel; rename World => wr0
  cases gk with
  | zero =>
   obtain rfl : k0 = list.length := (by omega); have hc0 : decide (((list.length : Nat) : Int) < ((list.length : Nat) : Int)) = false := (by simp); replace H := cnt_zero H; unfold e0 at H; replace H := let_hid H; obtain ⟨t_36, i12, H⟩ := H; obtain rfl := ret_hid H; go_wp2_with fail; go_ret; exact ⟨rfl, e10.out⟩
  | succ m0 =>
   have hlt0 : k0 < list.length := (by omega); have hc0 : decide ((k0 : Int) < ((list.length : Nat) : Int)) = true := (by simp; omega); replace H := cnt_succ H; unfold l0 at H; go_wp2_with fail; replace H := idx_hid H; obtain ⟨nt_8, yt_8, et_8, lt_8, gt_8, H⟩ := H; obtain rfl : k0 = nt_8 := (by omega); clear et_8; obtain ⟨r10, s10, o10, q10⟩ := yt_8; replace H := unMail_hid H; obtain ⟨h12, d12, zt_8, At_8, j11, a10, c10, d10, b10⟩ := OMail.at_ M0.out lt_8; obtain rfl := Option.some.inj (gt_8.out.symm.trans j11); subst At_8; have j12 := cell_lt a10; replace a10 := cell_below e10.out a10; replace c10 := cell_below e10.out c10; replace d10 := cell_below e10.out d10; replace b10 := cell_below e10.out b10; clear j11; have k12 : (0 : Int) ≤ (k0 : Int) := (by omega); have x11 : (k0 : Int) < ((list.length : Nat) : Int) := (by omega); have a12 : ((k0 : Int)).toNat = k0 := (by omega); have n10 := Lib.hid a10; replace a10 := cell_regrown a10; have j10 := Lib.hid c10; replace c10 := cell_regrown c10; have m10 := Lib.hid d10; replace d10 := cell_regrown d10; have k10 := Lib.hid b10; replace b10 := cell_regrown b10; replace H := bind_hid H; obtain ⟨t_10, q11, H⟩ := H; have l10 : ∀ d os, Calls Try.prog 78 #[.agg #[.int .i64 r10, .int .i64 s10, .int .i64 o10, .int .i64 q10]] (Go.Sort.grow (redrawn wr0 d) os) fun e w'' => e = .returned (.bool t_10) ∧ ∃ p : Regrown, w'' = Go.Sort.grow (redrawn wr0 p.d) p.os := fun d os => Calls.regrown_of (GsL9One.C ((PMail.Mail.mk r10 s10 o10 q10))  _    q11)
   cases t_10 with
   | false =>
    replace H := let_hid H; obtain ⟨t_11, t10, H⟩ := H; obtain rfl : t_11 = true := t10.symm; replace H := join_hid H; replace H := ite_t H; replace H := app_hid H; refine wp_region_quiet_below (by kernel_rfl) (by kernel_rfl) ?_
    repeat (go_big_quiet_step (first | (go_at_call 78; exact l10 _ _)))
    refine wpQuiet_nil ?_; intro Y4 hY4; replace hY4 := below_class hY4; clear l10; replace a10 := n10.out; clear n10; replace c10 := j10.out; clear j10; replace d10 := m10.out; clear m10; replace b10 := k10.out; clear k10; have HBY4 := Lib.hid (Below.step e10.out hY4); replace a10 := cell_below hY4 a10; replace c10 := cell_below hY4 c10; replace d10 := cell_below hY4 d10; replace b10 := cell_below hY4 b10; clear hY4; replace H := ite_t H; obtain rfl := ret_hid H; go_wp2_with fail; go_ret; exact ⟨rfl, HBY4.out⟩
   | true =>
    replace H := let_hid H; obtain ⟨t_11, t10, H⟩ := H; obtain rfl : t_11 = false := t10.symm; replace H := join_hid H; replace H := ite_f H; replace H := let_hid H; obtain ⟨t_14, y10, H⟩ := H; replace H := join_hid H
    cases t_14 with
    | false =>
     have m11 : ¬ (0 < k0) := (by have := of_decide_eq_false y10; omega); replace H := ite_f H; replace H := app_hid H; replace H := app_hid H; refine wp_region_quiet_below (by kernel_rfl) (by kernel_rfl) ?_
     repeat (go_big_quiet_step (first | (go_at_call 78; exact l10 _ _)))
     refine wpQuiet_nil ?_; intro Y4 hY4; replace hY4 := below_class hY4; clear l10; replace a10 := n10.out; clear n10; replace c10 := j10.out; clear j10; replace d10 := m10.out; clear m10; replace b10 := k10.out; clear k10; have HBY4 := Lib.hid (Below.step e10.out hY4); replace a10 := cell_below hY4 a10; replace c10 := cell_below hY4 c10; replace d10 := cell_below hY4 d10; replace b10 := cell_below hY4 b10; clear hY4; replace H := ite_f H; replace H := app_hid H; go_wp2_with fail
     go_roundg m0
     case measure => omega
     case rel => exact ⟨k0 + 1, by omega, by go_num, H, HBY4⟩
    | true =>
     have m11 : 0 < k0 := (by have := of_decide_eq_true y10; omega); replace H := ite_t H; replace H := let_hid H; obtain ⟨t_18, f12, H⟩ := H; replace H := idx_hid H; obtain ⟨p10, s11, p11, t11, n11, H⟩ := H; subst p11; obtain ⟨a11, e11, h11, c11⟩ := s11; replace H := unMail_hid H; obtain ⟨y11, l12, m12, f11, i11, f10, i10, g10, h10⟩ := OMail.at_ M0.out t11; obtain rfl := Option.some.inj (n11.out.symm.trans i11); simp only [Option.some.injEq, Addr.mk.injEq] at f11; obtain ⟨rfl, rfl, _⟩ := f11; have c12 := cell_lt f10; replace f10 := cell_below e10.out f10; replace i10 := cell_below e10.out i10; replace g10 := cell_below e10.out g10; replace h10 := cell_below e10.out h10; clear i11; have g12 : (0 : Int) ≤ (p10 : Int) := (by omega); have b12 : (p10 : Int) < ((list.length : Nat) : Int) := (by omega); have e12 : ((p10 : Int)).toNat = p10 := (by omega); have d11 := Lib.hid f10; replace f10 := cell_regrown f10; have x10 := Lib.hid i10; replace i10 := cell_regrown i10; have b11 := Lib.hid g10; replace g10 := cell_regrown g10; have g11 := Lib.hid h10; replace h10 := cell_regrown h10; replace H := bind_hid H; obtain ⟨t_21, r11, H⟩ := H; have w10 : ∀ d os, Calls Try.prog 79 #[.agg #[.int .i64 a11, .int .i64 e11, .int .i64 h11, .int .i64 c11]] (Go.Sort.grow (redrawn wr0 d) os) fun e w'' => e = .returned (.int .i64 t_21) ∧ ∃ p : Regrown, w'' = Go.Sort.grow (redrawn wr0 p.d) p.os := fun d os => Calls.regrown_of (GsL9Code.C ((PMail.Mail.mk a11 e11 h11 c11))  _    r11); replace H := idx_hid H; obtain ⟨l11, w11, v11, o11, z10, H⟩ := H; obtain rfl : k0 = l11 := (by omega); clear v11; obtain rfl := Option.some.inj (gt_8.out.symm.trans z10.out); clear z10 o11; replace H := unMail_hid H; replace H := bind_hid H; obtain ⟨t_26, k11, H⟩ := H; have v10 : ∀ d os, Calls Try.prog 79 #[.agg #[.int .i64 r10, .int .i64 s10, .int .i64 o10, .int .i64 q10]] (Go.Sort.grow (redrawn wr0 d) os) fun e w'' => e = .returned (.int .i64 t_26) ∧ ∃ p : Regrown, w'' = Go.Sort.grow (redrawn wr0 p.d) p.os := fun d os => Calls.regrown_of (GsL9Code.C ((PMail.Mail.mk r10 s10 o10 q10))  _    k11); replace H := let_hid H; obtain ⟨t_27, z11, H⟩ := H; replace H := app_hid H; replace H := app_hid H; refine wp_region_quiet_below (by kernel_rfl) (by kernel_rfl) ?_
     repeat (go_big_quiet_step (first | (go_at_call 79; with_reducible exact w10 _ _) | (go_at_call 79; with_reducible exact v10 _ _) | (go_at_call 78; exact l10 _ _) | (go_at_call 79; exact w10 _ _) | (go_at_call 79; exact v10 _ _)))
     refine wpQuiet_nil ?_; intro Y4 hY4; replace hY4 := below_class hY4; clear l10 w10 v10; replace a10 := n10.out; clear n10; replace c10 := j10.out; clear j10; replace d10 := m10.out; clear m10; replace b10 := k10.out; clear k10; replace f10 := d11.out; clear d11; replace i10 := x10.out; clear x10; replace g10 := b11.out; clear b11; replace h10 := g11.out; clear g11; have HBY4 := Lib.hid (Below.step e10.out hY4); replace a10 := cell_below hY4 a10; replace c10 := cell_below hY4 c10; replace d10 := cell_below hY4 d10; replace b10 := cell_below hY4 b10; replace f10 := cell_below hY4 f10; replace i10 := cell_below hY4 i10; replace g10 := cell_below hY4 g10; replace h10 := cell_below hY4 h10; clear hY4
     cases t_27 with
     | false =>
      replace H := ite_f H; replace H := app_hid H; go_wp2_with fail
      go_roundg m0
      case measure => omega
      case rel => exact ⟨k0 + 1, by omega, by go_num, H, HBY4⟩
     | true =>
      replace H := ite_t H; obtain rfl := ret_hid H; go_wp2_with fail; go_ret; exact ⟨rfl, HBY4.out⟩
end Go.Proofs.Ytgbcdmlcmnaimaa.GsL9Good

namespace Go.Proofs.Ytgbcdmlcmnaimaa.GsL10One
open Go.RowKit
open Go.Proofs.Ytgbcdmlcmnaimaa.Rowed Go.Proofs.Ytgbcdmlcmnaimaa.Turn Go.Proofs.Ytgbcdmlcmnaimaa.Aid Go.Proofs.Ytgbcdmlcmnaimaa.GoP Go.Proofs.Ytgbcdmlcmnaimaa.GoM

def P (x : PCover.Cover) : Option (Bool) :=
 unCover x fun (x_id : Int) (x_day : Int) (x_zone : Int) (x_grams : Int) (x_paid : Int) (x_from_ : Int) (x_to_ : Int) (x_leave : Int) (x_arrive : Int) =>
 Option.bind (GsL1In.P x_id 1 999) fun (t_4 : Bool) =>
 letK (!t_4) fun (t_5 : Bool) =>
 joinK (fun (t_11 : Bool) =>
 joinK (fun (t_17 : Bool) =>
 joinK (fun (t_23 : Bool) =>
 joinK (fun (t_29 : Bool) =>
 iteK t_29
 (some false)
 (Option.bind (GsL9Office.P x_from_) fun (t_33 : Bool) =>
 joinK (fun (t_38 : Bool) =>
 joinK (fun (t_45 : Bool) =>
 joinK (fun (t_50 : Bool) =>
 joinK (fun (t_57 : Bool) =>
 some t_57) fun jt_57 => iteK t_50 (Option.bind (GsL1In.P x_leave 0 x_arrive) fun (t_56 : Bool) =>
 appK jt_57 t_56) (appK jt_57 false)) fun jt_50 => iteK t_45 (Option.bind (GsL9Minute.P x_arrive) fun (t_49 : Bool) =>
 appK jt_50 t_49) (appK jt_50 false)) fun jt_45 => iteK t_38 (letK (x_from_ != x_to_) fun (t_44 : Bool) =>
 appK jt_45 t_44) (appK jt_45 false)) fun jt_38 => iteK t_33 (Option.bind (GsL9Office.P x_to_) fun (t_37 : Bool) =>
 appK jt_38 t_37) (appK jt_38 false))) fun jt_29 => iteK t_23 (appK jt_29 true) (Option.bind (GsL8Cents.P x_paid) fun (t_27 : Bool) =>
 letK (!t_27) fun (t_28 : Bool) =>
 appK jt_29 t_28)) fun jt_23 => iteK t_17 (appK jt_23 true) (Option.bind (GsL8Grams.P x_grams) fun (t_21 : Bool) =>
 letK (!t_21) fun (t_22 : Bool) =>
 appK jt_23 t_22)) fun jt_17 => iteK t_11 (appK jt_17 true) (Option.bind (GsL8Zone.P x_zone) fun (t_15 : Bool) =>
 letK (!t_15) fun (t_16 : Bool) =>
 appK jt_17 t_16)) fun jt_11 => iteK t_5 (appK jt_11 true) (Option.bind (GsL2Day.P x_day) fun (t_9 : Bool) =>
 letK (!t_9) fun (t_10 : Bool) =>
 appK jt_11 t_10)

set_option maxRecDepth 100000 in
set_option maxHeartbeats 2000000 in
theorem C (x : PCover.Cover)   (w : World)   {r : Bool} (H : Hid (P x = some r)) :
  Calls Try.prog 41 #[x.val] w (Gives (.bool r) w) := by
 have HB := Lib.hid (Below.refl w.heap.size w); unfold P at H; obtain ⟨x_id, x_day, x_zone, x_grams, x_paid, x_from_, x_to_, x_leave, x_arrive⟩ := x; replace H := unCover_hid H; unfold PCover.Cover.val
 go_enter Try.func41, Try.ntmps41
 obtain ⟨q10, r10⟩ : ∃ x, w.alloc (.cells #[.int .i64 x_id, .int .i64 x_day, .int .i64 x_zone, .int .i64 x_grams, .int .i64 x_paid, .int .i64 x_from_, .int .i64 x_to_, .int .i64 x_leave, .int .i64 x_arrive] 27) = x := ⟨_, rfl⟩; have b11 : Below w.heap.size w q10 := (by rw [← r10]; exact (Below.refl _ _).alloc (Nat.le_refl _) _); have j11 := Lib.hid (Below.step HB.out b11); clear b11; have g10 : q10.cell? ⟨w.heap.size, 0, none⟩ = some (.int .i64 x_id) := (by rw [← r10]; exact box_new _ _ _ 0 _ rfl); have d10 : q10.cell? ⟨w.heap.size, 1, none⟩ = some (.int .i64 x_day) := (by rw [← r10]; exact box_new _ _ _ 1 _ rfl); have i10 : q10.cell? ⟨w.heap.size, 2, none⟩ = some (.int .i64 x_zone) := (by rw [← r10]; exact box_new _ _ _ 2 _ rfl); have h10 : q10.cell? ⟨w.heap.size, 3, none⟩ = some (.int .i64 x_grams) := (by rw [← r10]; exact box_new _ _ _ 3 _ rfl); have b10 : q10.cell? ⟨w.heap.size, 4, none⟩ = some (.int .i64 x_paid) := (by rw [← r10]; exact box_new _ _ _ 4 _ rfl); have c10 : q10.cell? ⟨w.heap.size, 5, none⟩ = some (.int .i64 x_from_) := (by rw [← r10]; exact box_new _ _ _ 5 _ rfl); have a10 : q10.cell? ⟨w.heap.size, 6, none⟩ = some (.int .i64 x_to_) := (by rw [← r10]; exact box_new _ _ _ 6 _ rfl); have e10 : q10.cell? ⟨w.heap.size, 7, none⟩ = some (.int .i64 x_leave) := (by rw [← r10]; exact box_new _ _ _ 7 _ rfl); have f10 : q10.cell? ⟨w.heap.size, 8, none⟩ = some (.int .i64 x_arrive) := (by rw [← r10]; exact box_new _ _ _ 8 _ rfl); replace H := bind_hid H; obtain ⟨t_4, qt_4, H⟩ := H; go_wp2_with fail; go_at_call 64; refine (GsL1In.C (x_id) (1) (999)  _    qt_4).mono ?_; rintro d12 wt_4 ⟨rfl, bt_4⟩; have a11 := Lib.hid (Below.step j11.out bt_4); replace g10 := cell_below bt_4 g10; replace d10 := cell_below bt_4 d10; replace i10 := cell_below bt_4 i10; replace h10 := cell_below bt_4 h10; replace b10 := cell_below bt_4 b10; replace c10 := cell_below bt_4 c10; replace a10 := cell_below bt_4 a10; replace e10 := cell_below bt_4 e10; replace f10 := cell_below bt_4 f10; clear bt_4
 cases t_4 with
 | false =>
  replace H := let_hid H; obtain ⟨t_5, ht_5, H⟩ := H; obtain rfl : t_5 = true := ht_5.symm; replace H := join_hid H; replace H := ite_t H; replace H := app_hid H; replace H := join_hid H; replace H := ite_t H; replace H := app_hid H; replace H := join_hid H; replace H := ite_t H; replace H := app_hid H; replace H := join_hid H; replace H := ite_t H; replace H := app_hid H; replace H := ite_t H; obtain rfl := ret_hid H; go_wp2_with fail; go_ret; exact ⟨rfl, a11.out⟩
 | true =>
  replace H := let_hid H; obtain ⟨t_5, ht_5, H⟩ := H; obtain rfl : t_5 = false := ht_5.symm; replace H := join_hid H; replace H := ite_f H; replace H := bind_hid H; obtain ⟨t_9, qt_9, H⟩ := H; go_wp2_with fail; go_at_call 82; refine (GsL2Day.C (x_day)  _    qt_9).mono ?_; rintro y11 wt_9 ⟨rfl, bt_9⟩; have f11 := Lib.hid (Below.step a11.out bt_9); replace g10 := cell_below bt_9 g10; replace d10 := cell_below bt_9 d10; replace i10 := cell_below bt_9 i10; replace h10 := cell_below bt_9 h10; replace b10 := cell_below bt_9 b10; replace c10 := cell_below bt_9 c10; replace a10 := cell_below bt_9 a10; replace e10 := cell_below bt_9 e10; replace f10 := cell_below bt_9 f10; clear bt_9
  cases t_9 with
  | false =>
   replace H := let_hid H; obtain ⟨t_10, w10, H⟩ := H; obtain rfl : t_10 = true := w10.symm; replace H := app_hid H; replace H := join_hid H; replace H := ite_t H; replace H := app_hid H; replace H := join_hid H; replace H := ite_t H; replace H := app_hid H; replace H := join_hid H; replace H := ite_t H; replace H := app_hid H; replace H := ite_t H; obtain rfl := ret_hid H; go_wp2_with fail; go_ret; exact ⟨rfl, f11.out⟩
  | true =>
   replace H := let_hid H; obtain ⟨t_10, w10, H⟩ := H; obtain rfl : t_10 = false := w10.symm; replace H := app_hid H; replace H := join_hid H; replace H := ite_f H; replace H := bind_hid H; obtain ⟨t_15, n11, H⟩ := H; go_wp2_with fail; go_at_call 83; refine (GsL8Zone.C (x_zone)  _    n11).mono ?_; rintro p11 c12 ⟨rfl, m10⟩; have d11 := Lib.hid (Below.step f11.out m10); replace g10 := cell_below m10 g10; replace d10 := cell_below m10 d10; replace i10 := cell_below m10 i10; replace h10 := cell_below m10 h10; replace b10 := cell_below m10 b10; replace c10 := cell_below m10 c10; replace a10 := cell_below m10 a10; replace e10 := cell_below m10 e10; replace f10 := cell_below m10 f10; clear m10
   cases t_15 with
   | false =>
    replace H := let_hid H; obtain ⟨t_16, s10, H⟩ := H; obtain rfl : t_16 = true := s10.symm; replace H := app_hid H; replace H := join_hid H; replace H := ite_t H; replace H := app_hid H; replace H := join_hid H; replace H := ite_t H; replace H := app_hid H; replace H := ite_t H; obtain rfl := ret_hid H; go_wp2_with fail; go_ret; exact ⟨rfl, d11.out⟩
   | true =>
    replace H := let_hid H; obtain ⟨t_16, s10, H⟩ := H; obtain rfl : t_16 = false := s10.symm; replace H := app_hid H; replace H := join_hid H; replace H := ite_f H; replace H := bind_hid H; obtain ⟨t_21, l11, H⟩ := H; go_wp2_with fail; go_at_call 84; refine (GsL8Grams.C (x_grams)  _    l11).mono ?_; rintro w11 t11 ⟨rfl, o10⟩; have y10 := Lib.hid (Below.step d11.out o10); replace g10 := cell_below o10 g10; replace d10 := cell_below o10 d10; replace i10 := cell_below o10 i10; replace h10 := cell_below o10 h10; replace b10 := cell_below o10 b10; replace c10 := cell_below o10 c10; replace a10 := cell_below o10 a10; replace e10 := cell_below o10 e10; replace f10 := cell_below o10 f10; clear o10
    cases t_21 with
    | false =>
     replace H := let_hid H; obtain ⟨t_22, v10, H⟩ := H; obtain rfl : t_22 = true := v10.symm; replace H := app_hid H; replace H := join_hid H; replace H := ite_t H; replace H := app_hid H; replace H := ite_t H; obtain rfl := ret_hid H; go_wp2_with fail; go_ret; exact ⟨rfl, y10.out⟩
    | true =>
     replace H := let_hid H; obtain ⟨t_22, v10, H⟩ := H; obtain rfl : t_22 = false := v10.symm; replace H := app_hid H; replace H := join_hid H; replace H := ite_f H; replace H := bind_hid H; obtain ⟨t_27, h11, H⟩ := H; go_wp2_with fail; go_at_call 85; refine (GsL8Cents.C (x_paid)  _    h11).mono ?_; rintro z11 s11 ⟨rfl, j10⟩; have z10 := Lib.hid (Below.step y10.out j10); replace g10 := cell_below j10 g10; replace d10 := cell_below j10 d10; replace i10 := cell_below j10 i10; replace h10 := cell_below j10 h10; replace b10 := cell_below j10 b10; replace c10 := cell_below j10 c10; replace a10 := cell_below j10 a10; replace e10 := cell_below j10 e10; replace f10 := cell_below j10 f10; clear j10
     cases t_27 with
     | false =>
      replace H := let_hid H; obtain ⟨t_28, t10, H⟩ := H; obtain rfl : t_28 = true := t10.symm; replace H := app_hid H; replace H := ite_t H; obtain rfl := ret_hid H; go_wp2_with fail; go_ret; exact ⟨rfl, z10.out⟩
     | true =>
      replace H := let_hid H; obtain ⟨t_28, t10, H⟩ := H; obtain rfl : t_28 = false := t10.symm; replace H := app_hid H; replace H := ite_f H; replace H := bind_hid H; obtain ⟨t_33, g11, H⟩ := H; go_wp2_with fail; go_at_call 74; refine (GsL9Office.C (x_from_)  _    g11).mono ?_; rintro x11 a12 ⟨rfl, l10⟩; have c11 := Lib.hid (Below.step z10.out l10); replace g10 := cell_below l10 g10; replace d10 := cell_below l10 d10; replace i10 := cell_below l10 i10; replace h10 := cell_below l10 h10; replace b10 := cell_below l10 b10; replace c10 := cell_below l10 c10; replace a10 := cell_below l10 a10; replace e10 := cell_below l10 e10; replace f10 := cell_below l10 f10; clear l10; replace H := join_hid H
      cases t_33 with
      | false =>
       replace H := ite_f H; replace H := app_hid H; replace H := join_hid H; replace H := ite_f H; replace H := app_hid H; replace H := join_hid H; replace H := ite_f H; replace H := app_hid H; replace H := join_hid H; replace H := ite_f H; replace H := app_hid H; obtain rfl := ret_hid H; go_wp2_with fail; go_ret; exact ⟨rfl, c11.out⟩
      | true =>
       replace H := ite_t H; replace H := bind_hid H; obtain ⟨t_37, m11, H⟩ := H; go_wp2_with fail; go_at_call 74; refine (GsL9Office.C (x_to_)  _    m11).mono ?_; rintro e12 q11 ⟨rfl, k10⟩; have x10 := Lib.hid (Below.step c11.out k10); replace g10 := cell_below k10 g10; replace d10 := cell_below k10 d10; replace i10 := cell_below k10 i10; replace h10 := cell_below k10 h10; replace b10 := cell_below k10 b10; replace c10 := cell_below k10 c10; replace a10 := cell_below k10 a10; replace e10 := cell_below k10 e10; replace f10 := cell_below k10 f10; clear k10; replace H := app_hid H; replace H := join_hid H
       cases t_37 with
       | false =>
        replace H := ite_f H; replace H := app_hid H; replace H := join_hid H; replace H := ite_f H; replace H := app_hid H; replace H := join_hid H; replace H := ite_f H; replace H := app_hid H; obtain rfl := ret_hid H; go_wp2_with fail; go_ret; exact ⟨rfl, x10.out⟩
       | true =>
        replace H := ite_t H; replace H := let_hid H; obtain ⟨t_44, b12, H⟩ := H; replace H := app_hid H; replace H := join_hid H
        cases t_44 with
        | false =>
         replace H := ite_f H; replace H := app_hid H; replace H := join_hid H; replace H := ite_f H; replace H := app_hid H; obtain rfl := ret_hid H; go_wp2_with fail; go_ret; exact ⟨rfl, x10.out⟩
        | true =>
         replace H := ite_t H; replace H := bind_hid H; obtain ⟨t_49, o11, H⟩ := H; go_wp2_with fail; go_at_call 86; refine (GsL9Minute.C (x_arrive)  _    o11).mono ?_; rintro f12 v11 ⟨rfl, n10⟩; have e11 := Lib.hid (Below.step x10.out n10); replace g10 := cell_below n10 g10; replace d10 := cell_below n10 d10; replace i10 := cell_below n10 i10; replace h10 := cell_below n10 h10; replace b10 := cell_below n10 b10; replace c10 := cell_below n10 c10; replace a10 := cell_below n10 a10; replace e10 := cell_below n10 e10; replace f10 := cell_below n10 f10; clear n10; replace H := app_hid H; replace H := join_hid H
         cases t_49 with
         | false =>
          replace H := ite_f H; replace H := app_hid H; obtain rfl := ret_hid H; go_wp2_with fail; go_ret; exact ⟨rfl, e11.out⟩
         | true =>
          replace H := ite_t H; replace H := bind_hid H; obtain ⟨t_56, i11, H⟩ := H; go_wp2_with fail; go_at_call 64; refine (GsL1In.C (x_leave) (0) (x_arrive)  _    i11).mono ?_; rintro r11 g12 ⟨rfl, p10⟩; have k11 := Lib.hid (Below.step e11.out p10); replace g10 := cell_below p10 g10; replace d10 := cell_below p10 d10; replace i10 := cell_below p10 i10; replace h10 := cell_below p10 h10; replace b10 := cell_below p10 b10; replace c10 := cell_below p10 c10; replace a10 := cell_below p10 a10; replace e10 := cell_below p10 e10; replace f10 := cell_below p10 f10; clear p10; replace H := app_hid H; obtain rfl := ret_hid H; go_wp2_with fail; go_ret; exact ⟨rfl, k11.out⟩
end Go.Proofs.Ytgbcdmlcmnaimaa.GsL10One

namespace Go.Proofs.Ytgbcdmlcmnaimaa.GsL8For
open Go.RowKit
open Go.Proofs.Ytgbcdmlcmnaimaa.Rowed Go.Proofs.Ytgbcdmlcmnaimaa.Turn Go.Proofs.Ytgbcdmlcmnaimaa.Aid Go.Proofs.Ytgbcdmlcmnaimaa.GoP Go.Proofs.Ytgbcdmlcmnaimaa.GoM

def l0 (list : (List PRate.Rate)) (day : Int) (zone : Int) (grams : Int) (k0 : Nat) (s : Unit) (nx0 bk0 : Unit → Option (Int)) : Option (Int) :=
 
 Option.bind (idx list (k0 : Int)) fun (yt_8 : PRate.Rate) =>
 unRate yt_8 fun (t_8_zone : Int) (t_8_grams : Int) (t_8_from_ : Int) (t_8_until_ : Int) (t_8_cents : Int) =>
 letK (t_8_zone == zone) fun (t_15 : Bool) =>
 joinK (fun (t_21 : Bool) =>
 joinK (fun (t_29 : Bool) =>
 iteK t_29
 (some t_8_cents)
 (appK nx0 ())) fun jt_29 => iteK t_21 (Option.bind (GsL1In.P day t_8_from_ t_8_until_) fun (t_28 : Bool) =>
 appK jt_29 t_28) (appK jt_29 false)) fun jt_21 => iteK t_15 (letK (decide (grams ≤ t_8_grams)) fun (t_20 : Bool) =>
 appK jt_21 t_20) (appK jt_21 false)

def e0  (s : Unit) : Option (Int) :=
 
 some 0

def P (list : (List PRate.Rate)) (day : Int) (zone : Int) (grams : Int) : Option (Int) :=
 cntK (l0 list day zone grams) (list.length) 0 () (e0 )

set_option maxRecDepth 100000 in
set_option maxHeartbeats 2000000 in
theorem C (list : (List PRate.Rate)) (day : Int) (zone : Int) (grams : Int) (A0 : Option Addr) (c0 : Nat)  (w : World) (M0 : Hid (Cells w 5 A0 list.length (PRate.flat list))) (N0 : Hid (list.length ≤ 9223372036854775807))  {r : Int} (H : Hid (P list day zone grams = some r)) :
  Calls Try.prog 45 #[.slice A0 list.length c0, .int .i64 day, .int .i64 zone, .int .i64 grams] w (Gives (.int .i64 r) w) := by
 have HB := Lib.hid (Below.refl w.heap.size w); unfold P at H; have N0o := N0.out
 go_enter Try.func45, Try.ntmps45
 go_wp2_with fail; go_loopg [9] (list.length) (fun m_ v9_ wr => ∃ (k0 : Nat) , k0 + m_ = list.length ∧ v9_ = .int .i64 (k0 : Int) ∧ Hid (cntK (l0 list day zone grams) m_ k0 () (e0 ) = some r) ∧ Hid (Below w.heap.size w wr))
 case atStart => exact ⟨0, by omega, rfl, H, HB⟩
 case round =>
  obtain ⟨k0, hkm0, rfl, H, d10⟩ := hrel; rename World => wr0
  cases gk with
  | zero =>
   obtain rfl : k0 = list.length := (by omega); have hc0 : decide (((list.length : Nat) : Int) < ((list.length : Nat) : Int)) = false := (by simp); replace H := cnt_zero H; unfold e0 at H; obtain rfl := ret_hid H; go_wp2_with fail; go_ret; exact ⟨rfl, d10.out⟩
  | succ m0 =>
   have hlt0 : k0 < list.length := (by omega); have hc0 : decide ((k0 : Int) < ((list.length : Nat) : Int)) = true := (by simp; omega); replace H := cnt_succ H; unfold l0 at H; replace H := idx_hid H; obtain ⟨nt_8, yt_8, et_8, lt_8, gt_8, H⟩ := H; obtain rfl : k0 = nt_8 := (by omega); clear et_8; obtain ⟨o10, t10, m10, l10, z10⟩ := yt_8; replace H := unRate_hid H; obtain ⟨l11, i11, zt_8, At_8, w10, b10, e10, i10, f10, j10⟩ := ORate.at_ M0.out lt_8; obtain rfl := Option.some.inj (gt_8.out.symm.trans w10); subst At_8; have h11 := cell_lt b10; replace b10 := cell_below d10.out b10; replace e10 := cell_below d10.out e10; replace i10 := cell_below d10.out i10; replace f10 := cell_below d10.out f10; replace j10 := cell_below d10.out j10; clear w10; have g11 : (0 : Int) ≤ (k0 : Int) := (by omega); have e11 : (k0 : Int) < ((list.length : Nat) : Int) := (by omega); have n11 : ((k0 : Int)).toNat = k0 := (by omega); obtain ⟨h10, g10⟩ : ∃ x, wr0.alloc (.cells #[.int .i64 o10, .int .i64 t10, .int .i64 m10, .int .i64 l10, .int .i64 z10] 92) = x := ⟨_, rfl⟩; have c10 : Below wr0.heap.size wr0 h10 := (by rw [← g10]; exact (Below.refl _ _).alloc (Nat.le_refl _) _); have k10 := Lib.hid (Below.step d10.out c10); have b11 := cell_below c10 b10; have c11 := cell_below c10 e10; have r10 := cell_below c10 i10; have v10 := cell_below c10 f10; have q10 := cell_below c10 j10; clear c10; have x10 : h10.cell? ⟨wr0.heap.size, 0, none⟩ = some (.int .i64 o10) := (by rw [← g10]; exact box_new _ _ _ 0 _ rfl); have y10 : h10.cell? ⟨wr0.heap.size, 1, none⟩ = some (.int .i64 t10) := (by rw [← g10]; exact box_new _ _ _ 1 _ rfl); have a11 : h10.cell? ⟨wr0.heap.size, 2, none⟩ = some (.int .i64 m10) := (by rw [← g10]; exact box_new _ _ _ 2 _ rfl); have p10 : h10.cell? ⟨wr0.heap.size, 3, none⟩ = some (.int .i64 l10) := (by rw [← g10]; exact box_new _ _ _ 3 _ rfl); have s10 : h10.cell? ⟨wr0.heap.size, 4, none⟩ = some (.int .i64 z10) := (by rw [← g10]; exact box_new _ _ _ 4 _ rfl); replace H := let_hid H; obtain ⟨t_15, k11, H⟩ := H; replace H := join_hid H
   cases t_15 with
   | false =>
    replace H := ite_f H; replace H := app_hid H; replace H := join_hid H; replace H := ite_f H; replace H := app_hid H; replace H := ite_f H; replace H := app_hid H; go_wp2_with fail; clear b10 e10 i10 f10 j10
    go_roundg m0
    case measure => omega
    case rel => exact ⟨k0 + 1, by omega, by go_num, H, k10⟩
   | true =>
    replace H := ite_t H; replace H := let_hid H; obtain ⟨t_20, f11, H⟩ := H; replace H := app_hid H; replace H := join_hid H
    cases t_20 with
    | false =>
     replace H := ite_f H; replace H := app_hid H; replace H := ite_f H; replace H := app_hid H; go_wp2_with fail; clear b10 e10 i10 f10 j10
     go_roundg m0
     case measure => omega
     case rel => exact ⟨k0 + 1, by omega, by go_num, H, k10⟩
    | true =>
     replace H := ite_t H; replace H := bind_hid H; obtain ⟨t_28, d11, H⟩ := H; go_wp2_with fail; clear b10 e10 i10 f10 j10; go_at_call 64; refine (GsL1In.C (day) (m10) (l10)  _    d11).mono ?_; rintro m11 j11 ⟨rfl, a10⟩; have n10 := Lib.hid (Below.step k10.out a10); replace b11 := cell_below a10 b11; replace c11 := cell_below a10 c11; replace r10 := cell_below a10 r10; replace v10 := cell_below a10 v10; replace q10 := cell_below a10 q10; replace x10 := cell_below a10 x10; replace y10 := cell_below a10 y10; replace a11 := cell_below a10 a11; replace p10 := cell_below a10 p10; replace s10 := cell_below a10 s10; clear a10; replace H := app_hid H
     cases t_28 with
     | false =>
      replace H := ite_f H; replace H := app_hid H; go_wp2_with fail
      go_roundg m0
      case measure => omega
      case rel => exact ⟨k0 + 1, by omega, by go_num, H, n10⟩
     | true =>
      replace H := ite_t H; obtain rfl := ret_hid H; go_wp2_with fail; go_ret; exact ⟨rfl, n10.out⟩
end Go.Proofs.Ytgbcdmlcmnaimaa.GsL8For

namespace Go.Proofs.Ytgbcdmlcmnaimaa.GsL1Least
open Go.RowKit
open Go.Proofs.Ytgbcdmlcmnaimaa.Rowed Go.Proofs.Ytgbcdmlcmnaimaa.Turn Go.Proofs.Ytgbcdmlcmnaimaa.Aid Go.Proofs.Ytgbcdmlcmnaimaa.GoP Go.Proofs.Ytgbcdmlcmnaimaa.GoM

def P (a : Int) (b : Int) : Option (Int) :=
  letK (decide (a < b)) fun (t_3 : Bool) =>
  iteK t_3
  (some a)
  (some b)

set_option maxRecDepth 100000 in
set_option maxHeartbeats 2000000 in
theorem C (a : Int) (b : Int)   (w : World)   {r : Int} (H : Hid (P a b = some r)) :
    Calls Try.prog 102 #[.int .i64 a, .int .i64 b] w (Gives (.int .i64 r) w) := by
  have HB := Lib.hid (Below.refl w.heap.size w)
  unfold P at H
  go_enter Try.func102, Try.ntmps102
  replace H := let_hid H
  obtain ⟨t_3, ht_3, H⟩ := H
  cases t_3 with
  | false =>
    replace H := ite_f H
    obtain rfl := ret_hid H
    go_wp2_with fail
    go_ret
    exact ⟨rfl, HB.out⟩
  | true =>
    replace H := ite_t H
    obtain rfl := ret_hid H
    go_wp2_with fail
    go_ret
    exact ⟨rfl, HB.out⟩

set_option maxRecDepth 100000 in
set_option maxHeartbeats 2000000 in
theorem C0 (a : Int) (b : Int)   (w : World)   {r : Int} (H : Hid (P a b = some r)) :
    Calls Try.prog 102 #[.int .i64 a, .int .i64 b] w (fun e w'' => e = .returned (.int .i64 r) ∧ w'' = w) := by
  have HB := Lib.hid (Below.refl w.heap.size w)
  unfold P at H
  go_enter Try.func102, Try.ntmps102
  replace H := let_hid H
  obtain ⟨t_3, ht_3, H⟩ := H
  cases t_3 with
  | false =>
    replace H := ite_f H
    obtain rfl := ret_hid H
    go_wp2_with fail
    go_ret
    exact ⟨rfl, rfl⟩
  | true =>
    replace H := ite_t H
    obtain rfl := ret_hid H
    go_wp2_with fail
    go_ret
    exact ⟨rfl, rfl⟩
end Go.Proofs.Ytgbcdmlcmnaimaa.GsL1Least

namespace Go.Proofs.Ytgbcdmlcmnaimaa.GsL9Times
open Go.RowKit
open Go.Proofs.Ytgbcdmlcmnaimaa.Rowed Go.Proofs.Ytgbcdmlcmnaimaa.Turn Go.Proofs.Ytgbcdmlcmnaimaa.Aid Go.Proofs.Ytgbcdmlcmnaimaa.GoP Go.Proofs.Ytgbcdmlcmnaimaa.GoM

def l0  (k0 : Nat) (s : (List Int)) (nx0 bk0 : (List Int) → Option ((List Int))) : Option ((List Int)) :=
 letK s fun out_7l0 =>
 Option.bind (idx out_7l0 (k0 : Int)) fun (yt_10 : Int) =>
 letK (out_7l0.set k0 10000) fun (l11_11 : (List Int)) =>
 appK nx0 (l11_11)

def l1 (list : (List PMail.Mail)) (k1 : Nat) (s : (List Int)) (nx1 bk1 : (List Int) → Option ((List Int))) : Option ((List Int)) :=
 letK s fun out_7l1 =>
 Option.bind (idx list (k1 : Int)) fun (yt_27 : PMail.Mail) =>
 unMail yt_27 fun (t_27_leave : Int) (t_27_from_ : Int) (t_27_to_ : Int) (t_27_arrive : Int) =>
 Option.bind (idx out_7l1 t_27_from_) fun (yt_34 : Int) =>
 letK (decide (yt_34 ≤ t_27_leave)) fun (t_38 : Bool) =>
 iteK t_38
 (Option.bind (idx out_7l1 t_27_to_) fun (yt_45 : Int) =>
 Option.bind (GsL1Least.P yt_45 t_27_arrive) fun (t_49 : Int) =>
 Option.bind (idx out_7l1 t_27_to_) fun (yt_50 : Int) =>
 letK (out_7l1.set (t_27_to_).toNat t_49) fun (l51_51 : (List Int)) =>
 appK nx1 (l51_51))
 (appK nx1 (out_7l1))

def e1  (s : (List Int)) : Option ((List Int)) :=
 letK s fun out_7l1 =>
 some out_7l1

def e0 (list : (List PMail.Mail)) (from_1 : Int) (minute : Int) (s : (List Int)) : Option ((List Int)) :=
 letK s fun out_7l0 =>
 Option.bind (idx out_7l0 from_1) fun (yt_18 : Int) =>
 letK (out_7l0.set (from_1).toNat minute) fun (l19_19 : (List Int)) =>
 cntK (l1 list) (list.length) 0 (l19_19) (e1 )

def P (list : (List PMail.Mail)) (from_1 : Int) (minute : Int) : Option ((List Int)) :=
 guardK (0 ≤ 10 ∧ 10 ≤ 1099511627776) <|
 letK (List.replicate 10 0) fun (t_1 : (List Int)) =>
 cntK (l0 ) (t_1.length) 0 (t_1) (e0 list from_1 minute)

set_option maxRecDepth 100000 in
set_option maxHeartbeats 2000000 in
theorem C (list : (List PMail.Mail)) (from_1 : Int) (minute : Int) (A0 : Option Addr) (c0 : Nat)  (w : World) (M0 : Hid (Cells w 4 A0 list.length (PMail.flat list))) (N0 : Hid (list.length ≤ 9223372036854775807))  {r : (List Int)} (H : Hid (P list from_1 minute = some r)) :
  Calls Try.prog 87 #[.slice A0 list.length c0, .int .i64 from_1, .int .i64 minute] w (fun e w' => ∃ A_r c_r, e = .returned (.slice A_r r.length c_r) ∧ w'.ownsRow w.heap.size 3 1 (.slice A_r r.length c_r) r.length (HelpInt.iv r) ∧ Below w.heap.size w w') := by
 have HB := Lib.hid (Below.refl w.heap.size w); unfold P at H; have N0o := N0.out; obtain ⟨i0_3, hi_3, f13, d13, q13⟩ := Aid.info_parts (P := Try.prog) (T := 3) (z := .int .i64 0) (s := 1) (b := 8) (by kernel_rfl)
 go_enter Try.func87, Try.ntmps87
 replace H := guard_hid H; obtain ⟨f15, H⟩ := H; replace H := let_hid H; obtain ⟨t_1, ht_1, H⟩ := H; have v12 := HB.out.size; have o11 : t_1.length = 10 := (by rw [← ht_1]; simp); have d14 := Lib.hid ht_1; clear ht_1; go_wp2_with (at_make; refine wpList_make_full _ rfl _ _ 33 rfl w.heap.size 3 i0_3 (.int .i64 0) 1 Try.underlying33 hi_3 f13 d13 .i64 .i64 _ _ 10 rfl rfl (by omega) (by omega) (by rw [q13]; omega) (by unfold maxLen; omega) v12 ?_; intro wt_1 ot_1 gt_1; have Qt_1 := Lib.hid ot_1; have Gt_1 := Lib.hid gt_1; clear ot_1 gt_1; refine stop_in ?_); refine stop_out ?_
 have Et_1 : (HelpInt.iv t_1) = (madeCells (.int .i64 0 : Value).cells (10 * 1)).toList := by
  rw [made_flat (fun x => [.int .i64 x]) 0 _ 1 _ rfl rfl (by decide), ← d14.out]; exact map_flat _ _
 have Pt_1 : Hid (wt_1.ownsRow w.heap.size 3 1 (.slice (some ⟨w.heap.size, 0, none⟩) 10 10) 10 (HelpInt.iv t_1)) := Lib.hid (by rw [Et_1]; exact Qt_1.out); clear Et_1; replace o11 := Lib.hid o11; clear Qt_1 v12; have bt_1 : Below w.heap.size w wt_1 := (Below.refl _ _).grown Gt_1.out (Nat.le_refl _) (by simp); clear Gt_1; have g13 := Lib.hid (Below.step HB.out bt_1); clear bt_1; go_wp2_with fail; go_wp2_with fail; have hc_ := o11.out; have hv_ : (Value.slice (some ⟨w.heap.size, 0, none⟩) 10 10 : Value) = Value.slice (some ⟨w.heap.size, 0, none⟩) t_1.length 10 := (by rw [hc_])
 try rw [hv_]
 replace Pt_1 := Lib.hid (own_len hc_ Pt_1.out); clear hc_ hv_; have hb_0 : t_1.length ≤ 9223372036854775807 := own_max Pt_1.out; go_wp2_with fail; go_loopg [8] (t_1.length) (fun m_ v8_ wr => ∃ (k0 : Nat) (p10 : (List Int)), k0 + m_ = t_1.length ∧ v8_ = .int .i64 (k0 : Int) ∧ Hid (cntK (l0 ) m_ k0 (p10) (e0 list from_1 minute) = some r) ∧ Hid (Below w.heap.size w wr) ∧ Hid (wr.ownsRow w.heap.size 3 1 (.slice (some ⟨w.heap.size, 0, none⟩) t_1.length 10) t_1.length (HelpInt.iv p10)) ∧ Hid (p10.length = t_1.length))
 case atStart => exact ⟨0, _, by omega, rfl, H, g13, Pt_1, Lib.hid (rfl)⟩
 case round =>
  obtain ⟨k0, p10, hkm0, rfl, H, e11, e10, c11⟩ := hrel; rename World => wr0
  cases gk with
  | zero =>
   obtain rfl : k0 = t_1.length := (by omega); have hc0 : decide (((t_1.length : Nat) : Int) < ((t_1.length : Nat) : Int)) = false := (by simp); replace H := cnt_zero H; unfold e0 at H; replace H := let_hid H; obtain ⟨_, rfl, H⟩ := H; replace H := idx_hid H; obtain ⟨n10, n15, n14, f16, w13, H⟩ := H; subst n14; have g14 := c11.out; obtain ⟨v15, w15, o15, q11, j12, y12⟩ := HelpInt.Ints.at_ (own_cells e10.out) (k := n10) (by omega); obtain rfl := Option.some.inj (w13.out.symm.trans j12); simp only [Option.some.injEq, Addr.mk.injEq] at q11; obtain ⟨rfl, rfl, _⟩ := q11; clear j12; simp only [Nat.zero_add] at y12; have n16 : (0 : Int) ≤ (n10 : Int) := (by omega); have x15 : (n10 : Int) < ((t_1.length : Nat) : Int) := (by omega); have q15 : ((n10 : Int)).toNat = n10 := (by omega); clear g14; replace H := let_hid H; obtain ⟨p11, a11, H⟩ := H
   try simp only [Int.toNat_natCast] at a11
   obtain ⟨r11, c13⟩ : ∃ x, (wr0).setCell ⟨w.heap.size, n10, none⟩ (.int .i64 minute) = x := ⟨_, rfl⟩; have e14 := e10.out.frozenAt (n10); have i11 := Lib.hid (own_stores [(n10, .int .i64 minute)] e10.out); have l14 : Hid (p11.length = t_1.length) := Lib.hid (by rw [← a11, List.length_set]; exact c11.out); have v13 : Hid (r11.ownsRow w.heap.size 3 1 (.slice (some ⟨w.heap.size, 0, none⟩) t_1.length 10) t_1.length (HelpInt.iv p11)) := Lib.hid (by have e_ : ([(n10, .int .i64 minute)] : List (Nat × Value)).foldl (fun xs p => xs.set p.1 p.2) (HelpInt.iv p10) = (HelpInt.iv p11) := (by rw [← a11]; first | done | simp [HelpInt.iv, List.map_set]); rw [← c13, ← e_]; exact i11.out.1); have k12 : Hid (wr0.grownBy r11 (Value.slice (some ⟨w.heap.size, 0, none⟩) t_1.length 10).ownBlock) := Lib.hid (by rw [← c13]; exact i11.out.2); have c14 := Lib.hid (e11.out.grown k12.out e11.out.size (fun q hq => (e10.out.lt q hq).1)); have t14 := Lib.hid a11; clear a11 i11; clear e10 k12; go_wp2_with fail; clear e14 y12; go_wp2_with fail; go_loopg [9] (list.length) (fun m_ v9_ wr => ∃ (k1 : Nat) (y10 : (List Int)), k1 + m_ = list.length ∧ v9_ = .int .i64 (k1 : Int) ∧ Hid (cntK (l1 list) m_ k1 (y10) (e1 ) = some r) ∧ Hid (Below w.heap.size w wr) ∧ Hid (wr.ownsRow w.heap.size 3 1 (.slice (some ⟨w.heap.size, 0, none⟩) t_1.length 10) t_1.length (HelpInt.iv y10)) ∧ Hid (y10.length = t_1.length))
   case atStart => exact ⟨0, _, by omega, rfl, H, c14, v13, Lib.hid (l14.out)⟩
   case round =>
    obtain ⟨k1, y10, hkm1, rfl, H, q10, a10, t10⟩ := hrel; rename World => wr1
    cases gk with
    | zero =>
     obtain rfl : k1 = list.length := (by omega); have hc1 : decide (((list.length : Nat) : Int) < ((list.length : Nat) : Int)) = false := (by simp); replace H := cnt_zero H; unfold e1 at H; replace H := let_hid H; obtain ⟨_, rfl, H⟩ := H; obtain rfl := ret_hid H; go_wp2_with fail; go_ret; have hr_0 := t10.out; replace a10 := Lib.hid (own_len hr_0 a10.out); exact ⟨(some ⟨w.heap.size, 0, none⟩), 10, (by first | (rw [hr_0]; done) | (rw [hr_0]; rfl)), a10.out, q10.out⟩
    | succ m1 =>
     have hlt1 : k1 < list.length := (by omega); have hc1 : decide ((k1 : Int) < ((list.length : Nat) : Int)) = true := (by simp; omega); replace H := cnt_succ H; unfold l1 at H; replace H := let_hid H; obtain ⟨_, rfl, H⟩ := H; replace H := idx_hid H; obtain ⟨y13, h14, l13, b14, r13, H⟩ := H; obtain rfl : k1 = y13 := (by omega); clear l13; obtain ⟨f12, i12, m12, l11⟩ := h14; replace H := unMail_hid H; obtain ⟨r16, y15, t15, n13, t11, s10, g11, h11, d11⟩ := OMail.at_ M0.out b14; obtain rfl := Option.some.inj (r13.out.symm.trans t11); subst n13; have b11 := cell_lt s10; replace s10 := cell_below q10.out s10; replace g11 := cell_below q10.out g11; replace h11 := cell_below q10.out h11; replace d11 := cell_below q10.out d11; clear t11; have p16 : (0 : Int) ≤ (k1 : Int) := (by omega); have e15 : (k1 : Int) < ((list.length : Nat) : Int) := (by omega); have z15 : ((k1 : Int)).toNat = k1 := (by omega); obtain ⟨r10, v10⟩ : ∃ x, wr1.alloc (.cells #[.int .i64 f12, .int .i64 i12, .int .i64 m12, .int .i64 l11] 77) = x := ⟨_, rfl⟩; have o10 : Below wr1.heap.size wr1 r10 := (by rw [← v10]; exact (Below.refl _ _).alloc (Nat.le_refl _) _); have f11 := Lib.hid (apart_fresh a10.out); have j14 := Lib.hid (Below.step q10.out o10); have i10 := cell_below o10 s10; have j10 := cell_below o10 g11; have l10 := cell_below o10 h11; have b10 := cell_below o10 d11; replace a10 := Lib.hid (own_below a10.out o10); clear o10; have m10 : r10.cell? ⟨wr1.heap.size, 0, none⟩ = some (.int .i64 f12) := (by rw [← v10]; exact box_new _ _ _ 0 _ rfl); have f10 : r10.cell? ⟨wr1.heap.size, 1, none⟩ = some (.int .i64 i12) := (by rw [← v10]; exact box_new _ _ _ 1 _ rfl); have c10 : r10.cell? ⟨wr1.heap.size, 2, none⟩ = some (.int .i64 m12) := (by rw [← v10]; exact box_new _ _ _ 2 _ rfl); have g10 : r10.cell? ⟨wr1.heap.size, 3, none⟩ = some (.int .i64 l11) := (by rw [← v10]; exact box_new _ _ _ 3 _ rfl); go_wp2_with fail; clear s10 g11 h11 d11; have w11 := Lib.hid i10; replace i10 := cell_regrown i10; have z12 := Lib.hid j10; replace j10 := cell_regrown j10; have l12 := Lib.hid l10; replace l10 := cell_regrown l10; have e12 := Lib.hid b10; replace b10 := cell_regrown b10; have h12 := Lib.hid m10; replace m10 := cell_regrown m10; have x11 := Lib.hid f10; replace f10 := cell_regrown f10; have c12 := Lib.hid c10; replace c10 := cell_regrown c10; have s12 := Lib.hid g10; replace g10 := cell_regrown g10; replace H := idx_hid H; obtain ⟨z10, z14, f14, l16, h13, H⟩ := H; subst f14; have i13 := t10.out; obtain ⟨a16, w14, l15, a13, t12, h10⟩ := HelpInt.Ints.at_ (own_cells a10.out) (k := z10) (by omega); obtain rfl := Option.some.inj (h13.out.symm.trans t12); simp only [Option.some.injEq, Addr.mk.injEq] at a13; obtain ⟨rfl, rfl, _⟩ := a13; clear t12; simp only [Nat.zero_add] at h10; have m16 : (0 : Int) ≤ (z10 : Int) := (by omega); have d15 : (z10 : Int) < ((t_1.length : Nat) : Int) := (by omega); have t16 : ((z10 : Int)).toNat = z10 := (by omega); clear i13; have q12 := Lib.hid h10; replace h10 := cell_regrown h10; replace H := let_hid H; obtain ⟨t_38, g15, H⟩ := H; refine wp_region_quiet_below (by kernel_rfl) (by kernel_rfl) ?_
     repeat (go_big_quiet_step (fail))
     refine wpQuiet_nil ?_; intro Y11 hY11; replace hY11 := below_class hY11; replace i10 := w11.out; clear w11; replace j10 := z12.out; clear z12; replace l10 := l12.out; clear l12; replace b10 := e12.out; clear e12; replace m10 := h12.out; clear h12; replace f10 := x11.out; clear x11; replace c10 := c12.out; clear c12; replace g10 := s12.out; clear s12; replace h10 := q12.out; clear q12; have o12 := Lib.hid (Below.step j14.out hY11); replace i10 := cell_below hY11 i10; replace j10 := cell_below hY11 j10; replace l10 := cell_below hY11 l10; replace b10 := cell_below hY11 b10; replace m10 := cell_below hY11 m10; replace f10 := cell_below hY11 f10; replace c10 := cell_below hY11 c10; replace g10 := cell_below hY11 g10; replace h10 := cell_below hY11 h10; replace a10 := Lib.hid (own_below a10.out hY11); clear hY11
     cases t_38 with
     | false =>
      replace H := ite_f H; replace H := app_hid H; go_wp2_with fail
      go_roundg m1
      case measure => omega
      case rel => exact ⟨k1 + 1, _, by omega, by go_num, H, o12, a10, Lib.hid (t10.out)⟩
     | true =>
      replace H := ite_t H; go_wp2_with fail; obtain ⟨Z12, hZ12⟩ : ∃ x, Y11.drew = x := ⟨_, rfl⟩; have bd12 : Below Y11.heap.size Y11 Z12 := (by rw [← hZ12]; exact (Below.refl _ _).drew); have p12 := Lib.hid (Below.step o12.out bd12); replace i10 := cell_below bd12 i10; replace j10 := cell_below bd12 j10; replace l10 := cell_below bd12 l10; replace b10 := cell_below bd12 b10; replace m10 := cell_below bd12 m10; replace f10 := cell_below bd12 f10; replace c10 := cell_below bd12 c10; replace g10 := cell_below bd12 g10; replace h10 := cell_below bd12 h10; replace a10 := Lib.hid (own_below a10.out bd12); clear bd12; replace H := idx_hid H; obtain ⟨k10, a14, t13, k15, w12, H⟩ := H; subst t13; have i14 := t10.out; obtain ⟨p15, d16, s15, v11, s11, y11⟩ := HelpInt.Ints.at_ (own_cells a10.out) (k := k10) (by omega); obtain rfl := Option.some.inj (w12.out.symm.trans s11); simp only [Option.some.injEq, Addr.mk.injEq] at v11; obtain ⟨rfl, rfl, _⟩ := v11; clear s11; simp only [Nat.zero_add] at y11; have g16 : (0 : Int) ≤ (k10 : Int) := (by omega); have h16 : (k10 : Int) < ((t_1.length : Nat) : Int) := (by omega); have b16 : ((k10 : Int)).toNat = k10 := (by omega); clear i14; replace H := bind_hid H; obtain ⟨t_49, p14, H⟩ := H; replace H := idx_hid H; obtain ⟨k14, r15, k13, r14, b13, H⟩ := H; obtain rfl : k10 = k14 := (by omega); clear k13; obtain rfl := Option.some.inj (w12.out.symm.trans b13.out); clear b13 r14; refine wp_region_still_tail 12 (by kernel_rfl) (by kernel_rfl) ?_; simp only [List.take_succ_cons, List.take_zero, List.drop_succ_cons, List.drop_zero]; change wpStill _ _ Y11.drew _ _ _; rw [hZ12]
      still_step
      still_step
      still_step
      still_step
      still_step
      still_step
      still_step
      still_step
      still_step
      still_step
      still_call (GsL1Least.C0 (a14) (l11)  _    p14)
      still_step
      refine wpStill_nil ?_; change wpList _ _ _ _ _ Y11.drew; rw [hZ12]; clear hZ12; replace H := let_hid H; obtain ⟨m11, x10, H⟩ := H
      try simp only [Int.toNat_natCast] at x10
      obtain ⟨a12, z11⟩ : ∃ x, (Z12).setCell ⟨w.heap.size, k10, none⟩ (.int .i64 t_49) = x := ⟨_, rfl⟩; have j13 := a10.out.frozenAt (k10); have n11 := Lib.hid (own_stores [(k10, .int .i64 t_49)] a10.out); have o13 : Hid (m11.length = t_1.length) := Lib.hid (by rw [← x10, List.length_set]; exact t10.out); have m13 : Hid (a12.ownsRow w.heap.size 3 1 (.slice (some ⟨w.heap.size, 0, none⟩) t_1.length 10) t_1.length (HelpInt.iv m11)) := Lib.hid (by have e_ : ([(k10, .int .i64 t_49)] : List (Nat × Value)).foldl (fun xs p => xs.set p.1 p.2) (HelpInt.iv y10) = (HelpInt.iv m11) := (by rw [← x10]; first | done | simp [HelpInt.iv, List.map_set]); rw [← z11, ← e_]; exact n11.out.1); have d10 : Hid (Z12.grownBy a12 (Value.slice (some ⟨w.heap.size, 0, none⟩) t_1.length 10).ownBlock) := Lib.hid (by rw [← z11]; exact n11.out.2); have s14 := Lib.hid (p12.out.grown d10.out p12.out.size (fun q hq => (a10.out.lt q hq).1)); have j15 := Lib.hid x10; clear x10 n11; have b15 := cell_other i10 d10.out (apart_old a10.out b11); have x14 := cell_other j10 d10.out (apart_old a10.out b11); have a15 := cell_other l10 d10.out (apart_old a10.out b11); have e16 := cell_other b10 d10.out (apart_old a10.out b11); have v14 := cell_other m10 d10.out (Apart.symm f11.out); have h15 := cell_other f10 d10.out (Apart.symm f11.out); have s16 := cell_other c10 d10.out (Apart.symm f11.out); have q16 := cell_other g10 d10.out (Apart.symm f11.out); clear a10 d10; replace H := app_hid H; go_wp2_with fail; clear j13 i10 j10 l10 b10 m10 f10 c10 g10 h10 y11
      go_roundg m1
      case measure => omega
      case rel => exact ⟨k1 + 1, _, by omega, by go_num, H, s14, m13, Lib.hid (o13.out)⟩
  | succ m0 =>
   have hlt0 : k0 < t_1.length := (by omega); have hc0 : decide ((k0 : Int) < ((t_1.length : Nat) : Int)) = true := (by simp; omega); replace H := cnt_succ H; unfold l0 at H; replace H := let_hid H; obtain ⟨_, rfl, H⟩ := H; replace H := idx_hid H; obtain ⟨s13, m15, m14, i16, q14, H⟩ := H; obtain rfl : k0 = s13 := (by omega); clear m14; have o14 := c11.out; obtain ⟨i15, c16, k16, n12, b12, d12⟩ := HelpInt.Ints.at_ (own_cells e10.out) (k := k0) (by omega); obtain rfl := Option.some.inj (q14.out.symm.trans b12); simp only [Option.some.injEq, Addr.mk.injEq] at n12; obtain ⟨rfl, rfl, _⟩ := n12; clear b12; simp only [Nat.zero_add] at d12; have j16 : (0 : Int) ≤ (k0 : Int) := (by omega); have c15 : (k0 : Int) < ((t_1.length : Nat) : Int) := (by omega); have y14 : ((k0 : Int)).toNat = k0 := (by omega); clear o14; replace H := let_hid H; obtain ⟨k11, w10, H⟩ := H
   try simp only [Int.toNat_natCast] at w10
   obtain ⟨g12, r12⟩ : ∃ x, (wr0).setCell ⟨w.heap.size, k0, none⟩ (.int .i64 10000) = x := ⟨_, rfl⟩; have p13 := e10.out.frozenAt (k0); have j11 := Lib.hid (own_stores [(k0, .int .i64 10000)] e10.out); have e13 : Hid (k11.length = t_1.length) := Lib.hid (by rw [← w10, List.length_set]; exact c11.out); have z13 : Hid (g12.ownsRow w.heap.size 3 1 (.slice (some ⟨w.heap.size, 0, none⟩) t_1.length 10) t_1.length (HelpInt.iv k11)) := Lib.hid (by have e_ : ([(k0, .int .i64 10000)] : List (Nat × Value)).foldl (fun xs p => xs.set p.1 p.2) (HelpInt.iv p10) = (HelpInt.iv k11) := (by rw [← w10]; first | done | simp [HelpInt.iv, List.map_set]); rw [← r12, ← e_]; exact j11.out.1); have x12 : Hid (wr0.grownBy g12 (Value.slice (some ⟨w.heap.size, 0, none⟩) t_1.length 10).ownBlock) := Lib.hid (by rw [← r12]; exact j11.out.2); have x13 := Lib.hid (e11.out.grown x12.out e11.out.size (fun q hq => (e10.out.lt q hq).1)); have o16 := Lib.hid w10; clear w10 j11; clear e10 x12; replace H := app_hid H; go_wp2_with fail; clear p13 d12
   go_roundg m0
   case measure => omega
   case rel => exact ⟨k0 + 1, _, by omega, by go_num, H, x13, z13, Lib.hid (e13.out)⟩
end Go.Proofs.Ytgbcdmlcmnaimaa.GsL9Times

