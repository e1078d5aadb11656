/- Texts on which the proofs of several laws stand, one behind the other (8 of 18). No condition of their own. -/
import Derived.Test.YtgbcdmlcmnaimaaChecked
import Derived.Test.YtgbcdmlcmnaimaaX10P1
import Derived.Test.YtgbcdmlcmnaimaaX10P4
import Derived.Test.YtgbcdmlcmnaimaaX10P7
import Derived.WalkKit
import Derived.WalkSpells
import Derived.WalkLawsBesides
import Derived.BigQuiet
import Derived.OwnWalk
import Derived.Deep.LoopGhost
import Derived.Deep.QuietTactic
import Derived.IntWalk
import Derived.Lib.QuietBelow
import Derived.ScopeJumps
import Derived.StillTailTactics
set_option linter.unusedVariables false
set_option linter.unusedSimpArgs false
namespace Go.Proofs.Ytgbcdmlcmnaimaa.GiIsTimetable
open Go.RowKit
open Go.Proofs.Ytgbcdmlcmnaimaa.Rowed Go.Proofs.Ytgbcdmlcmnaimaa.Turn Go.Proofs.Ytgbcdmlcmnaimaa.Aid Go.Proofs.Ytgbcdmlcmnaimaa.GoP Go.Proofs.Ytgbcdmlcmnaimaa.GoM

def l0 (list : (List PMail.Mail)) (k0 : Nat) (s : Unit) (nx0 bk0 : Unit → Option (Bool)) : Option (Bool) :=
 
 Option.bind (idx list (k0 : Int)) fun (yt_10 : PMail.Mail) =>
 unMail yt_10 fun (t_10_leave : Int) (t_10_from_ : Int) (t_10_to_ : Int) (t_10_arrive : Int) =>
 Option.bind (GiIsMail.P (PMail.Mail.mk t_10_leave t_10_from_ t_10_to_ t_10_arrive)) fun (t_16 : Bool) =>
 letK (!t_16) fun (t_17 : Bool) =>
 joinK (fun (t_31 : Bool) =>
 iteK t_31
 (some false)
 (appK nx0 ())) fun jt_31 => iteK t_17 (appK jt_31 true) (letK (decide (0 < (k0 : Int))) fun (t_20 : Bool) =>
 joinK (fun (t_30 : Bool) =>
 appK jt_31 t_30) fun jt_30 => iteK t_20 (letK (IntKind.i64.wrap ((k0 : Int) - 1)) fun (t_24 : Int) =>
 Option.bind (idx list t_24) fun (yt_25 : PMail.Mail) =>
 unMail yt_25 fun (t_25_leave : Int) (t_25_from_ : Int) (t_25_to_ : Int) (t_25_arrive : Int) =>
 Option.bind (GiCompareMails.P (PMail.Mail.mk t_25_leave t_25_from_ t_25_to_ t_25_arrive) (PMail.Mail.mk t_10_leave t_10_from_ t_10_to_ t_10_arrive)) fun (t_28 : Int) =>
 letK (decide (0 ≤ t_28)) fun (t_29 : Bool) =>
 appK jt_30 t_29) (appK jt_30 false))

def e0  (s : Unit) : Option (Bool) :=
 
 some true

def P (list : (List PMail.Mail)) : Option (Bool) :=
 letK (decide (20 < (list.length : Int))) fun (t_3 : Bool) =>
 iteK t_3
 (some false)
 (cntK (l0 list) (list.length) 0 () (e0 ))

set_option maxRecDepth 100000 in
set_option maxHeartbeats 2000000 in
theorem C (list : (List PMail.Mail)) (A0 : Option Addr) (c0 : Nat)  (w : World) (M0 : Hid (Cells w 4 A0 list.length (PMail.flat list))) (N0 : Hid (list.length ≤ 9223372036854775807))  {r : Bool} (H : Hid (P list = some r)) :
  Calls Try.prog 47 #[.slice A0 list.length c0] w (Gives (.bool r) w) := by
 have HB := Lib.hid (Below.refl w.heap.size w); unfold P at H; have N0o := N0.out
 go_enter Try.func47, Try.ntmps47
 replace H := let_hid H; obtain ⟨t_3, ht_3, H⟩ := H
 cases t_3 with
 | false =>
  have h12 : ¬ (20 < list.length) := (by have := of_decide_eq_false ht_3; omega); replace H := ite_f H; go_wp2_with fail; go_loopg [10] (list.length) (fun m_ v10_ wr => ∃ (k0 : Nat) , k0 + m_ = list.length ∧ v10_ = .int .i64 (k0 : Int) ∧ Hid (cntK (l0 list) m_ k0 () (e0 ) = some r) ∧ Hid (Below w.heap.size w wr))
  case atStart => exact ⟨0, by omega, rfl, H, HB⟩
  case round =>
   obtain ⟨k0, hkm0, rfl, H, v10⟩ := hrel; rename World => wr0
   cases gk with
   | zero =>
    obtain rfl : k0 = list.length := (by omega); have hc0 : decide (((list.length : Nat) : Int) < ((list.length : Nat) : Int)) = false := (by simp); replace H := cnt_zero H; unfold e0 at H; obtain rfl := ret_hid H; go_wp2_with fail; go_ret; exact ⟨rfl, v10.out⟩
   | succ m0 =>
    have hlt0 : k0 < list.length := (by omega); have hc0 : decide ((k0 : Int) < ((list.length : Nat) : Int)) = true := (by simp; omega); replace H := cnt_succ H; unfold l0 at H; replace H := idx_hid H; obtain ⟨j12, f12, l12, b12, d12, H⟩ := H; obtain rfl : k0 = j12 := (by omega); clear l12; obtain ⟨y10, r10, q10, p10⟩ := f12; replace H := unMail_hid H; obtain ⟨c13, b13, n12, c12, l11, e11, j11, g11, i11⟩ := OMail.at_ M0.out b12; obtain rfl := Option.some.inj (d12.out.symm.trans l11); subst c12; have x12 := cell_lt e11; replace e11 := cell_below v10.out e11; replace j11 := cell_below v10.out j11; replace g11 := cell_below v10.out g11; replace i11 := cell_below v10.out i11; clear l11; have q12 : (0 : Int) ≤ (k0 : Int) := (by omega); have y12 : (k0 : Int) < ((list.length : Nat) : Int) := (by omega); have w12 : ((k0 : Int)).toNat = k0 := (by omega); obtain ⟨j10, f11⟩ : ∃ x, wr0.alloc (.cells #[.int .i64 y10, .int .i64 r10, .int .i64 q10, .int .i64 p10] 77) = x := ⟨_, rfl⟩; have a11 : Below wr0.heap.size wr0 j10 := (by rw [← f11]; exact (Below.refl _ _).alloc (Nat.le_refl _) _); have n10 := Lib.hid (Below.step v10.out a11); have d10 := cell_below a11 e11; have g10 := cell_below a11 j11; have b10 := cell_below a11 g11; have e10 := cell_below a11 i11; clear a11; have h10 : j10.cell? ⟨wr0.heap.size, 0, none⟩ = some (.int .i64 y10) := (by rw [← f11]; exact box_new _ _ _ 0 _ rfl); have c10 : j10.cell? ⟨wr0.heap.size, 1, none⟩ = some (.int .i64 r10) := (by rw [← f11]; exact box_new _ _ _ 1 _ rfl); have f10 : j10.cell? ⟨wr0.heap.size, 2, none⟩ = some (.int .i64 q10) := (by rw [← f11]; exact box_new _ _ _ 2 _ rfl); have a10 : j10.cell? ⟨wr0.heap.size, 3, none⟩ = some (.int .i64 p10) := (by rw [← f11]; exact box_new _ _ _ 3 _ rfl); go_wp2_with fail; clear e11 j11 g11 i11; have s10 := Lib.hid d10; replace d10 := cell_regrown d10; have c11 := Lib.hid g10; replace g10 := cell_regrown g10; have z10 := Lib.hid b10; replace b10 := cell_regrown b10; have d11 := Lib.hid e10; replace e10 := cell_regrown e10; have t10 := Lib.hid h10; replace h10 := cell_regrown h10; have b11 := Lib.hid c10; replace c10 := cell_regrown c10; have x10 := Lib.hid f10; replace f10 := cell_regrown f10; have o10 := Lib.hid a10; replace a10 := cell_regrown a10; replace H := bind_hid H; obtain ⟨t_16, e12, H⟩ := H; have w10 : ∀ d os, Calls Try.prog 91 #[.agg #[.int .i64 y10, .int .i64 r10, .int .i64 q10, .int .i64 p10]] (Go.Sort.grow (redrawn j10 d) os) fun e w'' => e = .returned (.bool t_16) ∧ ∃ p : Regrown, w'' = Go.Sort.grow (redrawn j10 p.d) p.os := fun d os => Calls.regrown_of (GiIsMail.C ((PMail.Mail.mk y10 r10 q10 p10))  _    e12)
    cases t_16 with
    | false =>
     replace H := let_hid H; obtain ⟨t_17, k11, H⟩ := H; obtain rfl : t_17 = true := k11.symm; replace H := join_hid H; replace H := ite_t H; replace H := app_hid H; refine wp_region_quiet_below (by kernel_rfl) (by kernel_rfl) ?_
     repeat (go_big_quiet_step (first | (go_at_call 91; exact w10 _ _)))
     refine wpQuiet_nil ?_; intro Y6 hY6; replace hY6 := below_class hY6; clear w10; replace d10 := s10.out; clear s10; replace g10 := c11.out; clear c11; replace b10 := z10.out; clear z10; replace e10 := d11.out; clear d11; replace h10 := t10.out; clear t10; replace c10 := b11.out; clear b11; replace f10 := x10.out; clear x10; replace a10 := o10.out; clear o10; have HBY6 := Lib.hid (Below.step n10.out hY6); replace d10 := cell_below hY6 d10; replace g10 := cell_below hY6 g10; replace b10 := cell_below hY6 b10; replace e10 := cell_below hY6 e10; replace h10 := cell_below hY6 h10; replace c10 := cell_below hY6 c10; replace f10 := cell_below hY6 f10; replace a10 := cell_below hY6 a10; clear hY6; replace H := ite_t H; obtain rfl := ret_hid H; go_wp2_with fail; go_ret; exact ⟨rfl, HBY6.out⟩
    | true =>
     replace H := let_hid H; obtain ⟨t_17, k11, H⟩ := H; obtain rfl : t_17 = false := k11.symm; replace H := join_hid H; replace H := ite_f H; replace H := let_hid H; obtain ⟨t_20, r11, H⟩ := H; replace H := join_hid H
     cases t_20 with
     | false =>
      have i12 : ¬ (0 < k0) := (by have := of_decide_eq_false r11; omega); replace H := ite_f H; replace H := app_hid H; replace H := app_hid H; refine wp_region_quiet_below (by kernel_rfl) (by kernel_rfl) ?_
      repeat (go_big_quiet_step (first | (go_at_call 91; exact w10 _ _)))
      refine wpQuiet_nil ?_; intro Y6 hY6; replace hY6 := below_class hY6; clear w10; replace d10 := s10.out; clear s10; replace g10 := c11.out; clear c11; replace b10 := z10.out; clear z10; replace e10 := d11.out; clear d11; replace h10 := t10.out; clear t10; replace c10 := b11.out; clear b11; replace f10 := x10.out; clear x10; replace a10 := o10.out; clear o10; have HBY6 := Lib.hid (Below.step n10.out hY6); replace d10 := cell_below hY6 d10; replace g10 := cell_below hY6 g10; replace b10 := cell_below hY6 b10; replace e10 := cell_below hY6 e10; replace h10 := cell_below hY6 h10; replace c10 := cell_below hY6 c10; replace f10 := cell_below hY6 f10; replace a10 := cell_below hY6 a10; clear hY6; replace H := ite_f H; replace H := app_hid H; go_wp2_with fail
      go_roundg m0
      case measure => omega
      case rel => exact ⟨k0 + 1, by omega, by go_num, H, HBY6⟩
     | true =>
      have i12 : 0 < k0 := (by have := of_decide_eq_true r11; omega); replace H := ite_t H; replace H := let_hid H; obtain ⟨t_24, r12, H⟩ := H; replace H := idx_hid H; obtain ⟨h11, z11, k12, m12, g12, H⟩ := H; subst k12; obtain ⟨p11, s11, x11, t11⟩ := z11; replace H := unMail_hid H; obtain ⟨t12, a13, s12, y11, w11, i10, m10, k10, l10⟩ := OMail.at_ M0.out m12; obtain rfl := Option.some.inj (g12.out.symm.trans w11); simp only [Option.some.injEq, Addr.mk.injEq] at y11; obtain ⟨rfl, rfl, _⟩ := y11; have d13 := cell_lt i10; replace i10 := cell_below n10.out i10; replace m10 := cell_below n10.out m10; replace k10 := cell_below n10.out k10; replace l10 := cell_below n10.out l10; clear w11; have z12 : (0 : Int) ≤ (h11 : Int) := (by omega); have v12 : (h11 : Int) < ((list.length : Nat) : Int) := (by omega); have o12 : ((h11 : Int)).toNat = h11 := (by omega); have n11 := Lib.hid i10; replace i10 := cell_regrown i10; have q11 := Lib.hid m10; replace m10 := cell_regrown m10; have m11 := Lib.hid k10; replace k10 := cell_regrown k10; have v11 := Lib.hid l10; replace l10 := cell_regrown l10; replace H := bind_hid H; obtain ⟨t_28, a12, H⟩ := H; have o11 : ∀ d os, Calls Try.prog 92 #[.agg #[.int .i64 p11, .int .i64 s11, .int .i64 x11, .int .i64 t11], .agg #[.int .i64 y10, .int .i64 r10, .int .i64 q10, .int .i64 p10]] (Go.Sort.grow (redrawn j10 d) os) fun e w'' => e = .returned (.int .i64 t_28) ∧ ∃ p : Regrown, w'' = Go.Sort.grow (redrawn j10 p.d) p.os := fun d os => Calls.regrown_of (GiCompareMails.C ((PMail.Mail.mk p11 s11 x11 t11)) ((PMail.Mail.mk y10 r10 q10 p10))  _    a12); replace H := let_hid H; obtain ⟨t_29, p12, H⟩ := H; replace H := app_hid H; replace H := app_hid H; refine wp_region_quiet_below (by kernel_rfl) (by kernel_rfl) ?_
      repeat (go_big_quiet_step (first | (go_at_call 91; exact w10 _ _) | (go_at_call 92; exact o11 _ _)))
      refine wpQuiet_nil ?_; intro Y6 hY6; replace hY6 := below_class hY6; clear w10 o11; replace d10 := s10.out; clear s10; replace g10 := c11.out; clear c11; replace b10 := z10.out; clear z10; replace e10 := d11.out; clear d11; replace h10 := t10.out; clear t10; replace c10 := b11.out; clear b11; replace f10 := x10.out; clear x10; replace a10 := o10.out; clear o10; replace i10 := n11.out; clear n11; replace m10 := q11.out; clear q11; replace k10 := m11.out; clear m11; replace l10 := v11.out; clear v11; have HBY6 := Lib.hid (Below.step n10.out hY6); replace d10 := cell_below hY6 d10; replace g10 := cell_below hY6 g10; replace b10 := cell_below hY6 b10; replace e10 := cell_below hY6 e10; replace h10 := cell_below hY6 h10; replace c10 := cell_below hY6 c10; replace f10 := cell_below hY6 f10; replace a10 := cell_below hY6 a10; replace i10 := cell_below hY6 i10; replace m10 := cell_below hY6 m10; replace k10 := cell_below hY6 k10; replace l10 := cell_below hY6 l10; clear hY6
      cases t_29 with
      | false =>
       replace H := ite_f H; replace H := app_hid H; go_wp2_with fail
       go_roundg m0
       case measure => omega
       case rel => exact ⟨k0 + 1, by omega, by go_num, H, HBY6⟩
      | true =>
       replace H := ite_t H; obtain rfl := ret_hid H; go_wp2_with fail; go_ret; exact ⟨rfl, HBY6.out⟩
 | true =>
  have h12 : 20 < list.length := (by have := of_decide_eq_true ht_3; omega); replace H := ite_t H; obtain rfl := ret_hid H; go_wp2_with fail; go_ret; exact ⟨rfl, HB.out⟩
end Go.Proofs.Ytgbcdmlcmnaimaa.GiIsTimetable

namespace Go.Proofs.Ytgbcdmlcmnaimaa.GiCanCheckCovers
open Go.RowKit
open Go.Proofs.Ytgbcdmlcmnaimaa.Rowed Go.Proofs.Ytgbcdmlcmnaimaa.Turn Go.Proofs.Ytgbcdmlcmnaimaa.Aid Go.Proofs.Ytgbcdmlcmnaimaa.GoP Go.Proofs.Ytgbcdmlcmnaimaa.GoM

def P (rates : (List PRate.Rate)) (mails : (List PMail.Mail)) : Option (Bool) :=
 Option.bind (GiAreRates.P rates) fun (t_2 : Bool) =>
 joinK (fun (t_6 : Bool) =>
 some t_6) fun jt_6 => iteK t_2 (Option.bind (GiIsTimetable.P mails) fun (t_5 : Bool) =>
 appK jt_6 t_5) (appK jt_6 false)

set_option maxRecDepth 100000 in
set_option maxHeartbeats 2000000 in
theorem C (rates : (List PRate.Rate)) (mails : (List PMail.Mail)) (A0 : Option Addr) (c0 : Nat) (A1 : Option Addr) (c1 : Nat)  (w : World) (M0 : Hid (Cells w 5 A0 rates.length (PRate.flat rates))) (N0 : Hid (rates.length ≤ 9223372036854775807)) (M1 : Hid (Cells w 4 A1 mails.length (PMail.flat mails))) (N1 : Hid (mails.length ≤ 9223372036854775807))  {r : Bool} (H : Hid (P rates mails = some r)) :
  Calls Try.prog 37 #[.slice A0 rates.length c0, .slice A1 mails.length c1] w (Gives (.bool r) w) := by
 have HB := Lib.hid (Below.refl w.heap.size w); unfold P at H; have N0o := N0.out; have N1o := N1.out
 go_enter Try.func37, Try.ntmps37
 replace H := bind_hid H; obtain ⟨t_2, qt_2, H⟩ := H; go_wp2_with fail; go_at_call 43; refine (GiAreRates.C (rates) A0 c0 _   (Lib.hid (Cells.below M0.out HB.out)) N0 qt_2).mono ?_; rintro d10 wt_2 ⟨rfl, bt_2⟩; have a10 := Lib.hid (Below.step HB.out bt_2); clear bt_2; replace H := join_hid H
 cases t_2 with
 | false =>
  replace H := ite_f H; replace H := app_hid H; obtain rfl := ret_hid H; go_wp2_with fail; go_ret; exact ⟨rfl, a10.out⟩
 | true =>
  replace H := ite_t H; replace H := bind_hid H; obtain ⟨t_5, qt_5, H⟩ := H; go_wp2_with fail; go_at_call 47; refine (GiIsTimetable.C (mails) A1 c1 _   (Lib.hid (Cells.below M1.out a10.out)) N1 qt_5).mono ?_; rintro c10 wt_5 ⟨rfl, bt_5⟩; have b10 := Lib.hid (Below.step a10.out bt_5); clear bt_5; replace H := app_hid H; obtain rfl := ret_hid H; go_wp2_with fail; go_ret; exact ⟨rfl, b10.out⟩
end Go.Proofs.Ytgbcdmlcmnaimaa.GiCanCheckCovers

namespace Go.Proofs.Ytgbcdmlcmnaimaa.GiIsCover
open Go.RowKit
open Go.Proofs.Ytgbcdmlcmnaimaa.Rowed Go.Proofs.Ytgbcdmlcmnaimaa.Turn Go.Proofs.Ytgbcdmlcmnaimaa.Aid Go.Proofs.Ytgbcdmlcmnaimaa.GoP Go.Proofs.Ytgbcdmlcmnaimaa.GoM

def P (x : PCover.Cover) : Option (Bool) :=
 unCover x fun (x_id : Int) (x_day : Int) (x_zone : Int) (x_grams : Int) (x_paid : Int) (x_from_ : Int) (x_to_ : Int) (x_leave : Int) (x_arrive : Int) =>
 Option.bind (GiWithin.P x_id 1 999) fun (t_4 : Bool) =>
 joinK (fun (t_9 : Bool) =>
 joinK (fun (t_14 : Bool) =>
 joinK (fun (t_19 : Bool) =>
 joinK (fun (t_24 : Bool) =>
 joinK (fun (t_29 : Bool) =>
 joinK (fun (t_34 : Bool) =>
 joinK (fun (t_41 : Bool) =>
 joinK (fun (t_46 : Bool) =>
 joinK (fun (t_51 : Bool) =>
 joinK (fun (t_58 : Bool) =>
 some t_58) fun jt_58 => iteK t_51 (letK (decide (x_leave ≤ x_arrive)) fun (t_57 : Bool) =>
 appK jt_58 t_57) (appK jt_58 false)) fun jt_51 => iteK t_46 (Option.bind (GiIsMinute.P x_arrive) fun (t_50 : Bool) =>
 appK jt_51 t_50) (appK jt_51 false)) fun jt_46 => iteK t_41 (Option.bind (GiIsMinute.P x_leave) fun (t_45 : Bool) =>
 appK jt_46 t_45) (appK jt_46 false)) fun jt_41 => iteK t_34 (letK (x_from_ != x_to_) fun (t_40 : Bool) =>
 appK jt_41 t_40) (appK jt_41 false)) fun jt_34 => iteK t_29 (Option.bind (GiIsPostOffice.P x_to_) fun (t_33 : Bool) =>
 appK jt_34 t_33) (appK jt_34 false)) fun jt_29 => iteK t_24 (Option.bind (GiIsPostOffice.P x_from_) fun (t_28 : Bool) =>
 appK jt_29 t_28) (appK jt_29 false)) fun jt_24 => iteK t_19 (Option.bind (GiIsRateCents.P x_paid) fun (t_23 : Bool) =>
 appK jt_24 t_23) (appK jt_24 false)) fun jt_19 => iteK t_14 (Option.bind (GiIsWeight.P x_grams) fun (t_18 : Bool) =>
 appK jt_19 t_18) (appK jt_19 false)) fun jt_14 => iteK t_9 (Option.bind (GiIsZone.P x_zone) fun (t_13 : Bool) =>
 appK jt_14 t_13) (appK jt_14 false)) fun jt_9 => iteK t_4 (Option.bind (GiIsDay.P x_day) fun (t_8 : Bool) =>
 appK jt_9 t_8) (appK jt_9 false)

set_option maxRecDepth 100000 in
set_option maxHeartbeats 2000000 in
theorem C (x : PCover.Cover)   (w : World)   {r : Bool} (H : Hid (P x = some r)) :
  Calls Try.prog 18 #[x.val] w (Gives (.bool r) w) := by
 have HB := Lib.hid (Below.refl w.heap.size w); unfold P at H; obtain ⟨x_id, x_day, x_zone, x_grams, x_paid, x_from_, x_to_, x_leave, x_arrive⟩ := x; replace H := unCover_hid H; unfold PCover.Cover.val
 go_enter Try.func18, Try.ntmps18
 obtain ⟨r10, q10⟩ : ∃ x, w.alloc (.cells #[.int .i64 x_id, .int .i64 x_day, .int .i64 x_zone, .int .i64 x_grams, .int .i64 x_paid, .int .i64 x_from_, .int .i64 x_to_, .int .i64 x_leave, .int .i64 x_arrive] 27) = x := ⟨_, rfl⟩; have v10 : Below w.heap.size w r10 := (by rw [← q10]; exact (Below.refl _ _).alloc (Nat.le_refl _) _); have j11 := Lib.hid (Below.step HB.out v10); clear v10; have h10 : r10.cell? ⟨w.heap.size, 0, none⟩ = some (.int .i64 x_id) := (by rw [← q10]; exact box_new _ _ _ 0 _ rfl); have d10 : r10.cell? ⟨w.heap.size, 1, none⟩ = some (.int .i64 x_day) := (by rw [← q10]; exact box_new _ _ _ 1 _ rfl); have c10 : r10.cell? ⟨w.heap.size, 2, none⟩ = some (.int .i64 x_zone) := (by rw [← q10]; exact box_new _ _ _ 2 _ rfl); have a10 : r10.cell? ⟨w.heap.size, 3, none⟩ = some (.int .i64 x_grams) := (by rw [← q10]; exact box_new _ _ _ 3 _ rfl); have f10 : r10.cell? ⟨w.heap.size, 4, none⟩ = some (.int .i64 x_paid) := (by rw [← q10]; exact box_new _ _ _ 4 _ rfl); have e10 : r10.cell? ⟨w.heap.size, 5, none⟩ = some (.int .i64 x_from_) := (by rw [← q10]; exact box_new _ _ _ 5 _ rfl); have i10 : r10.cell? ⟨w.heap.size, 6, none⟩ = some (.int .i64 x_to_) := (by rw [← q10]; exact box_new _ _ _ 6 _ rfl); have g10 : r10.cell? ⟨w.heap.size, 7, none⟩ = some (.int .i64 x_leave) := (by rw [← q10]; exact box_new _ _ _ 7 _ rfl); have b10 : r10.cell? ⟨w.heap.size, 8, none⟩ = some (.int .i64 x_arrive) := (by rw [← q10]; exact box_new _ _ _ 8 _ rfl); replace H := bind_hid H; obtain ⟨t_4, qt_4, H⟩ := H; go_wp2_with fail; go_at_call 52; refine (GiWithin.C (x_id) (1) (999)  _    qt_4).mono ?_; rintro q11 wt_4 ⟨rfl, bt_4⟩; have y10 := Lib.hid (Below.step j11.out bt_4); replace h10 := cell_below bt_4 h10; replace d10 := cell_below bt_4 d10; replace c10 := cell_below bt_4 c10; replace a10 := cell_below bt_4 a10; replace f10 := cell_below bt_4 f10; replace e10 := cell_below bt_4 e10; replace i10 := cell_below bt_4 i10; replace g10 := cell_below bt_4 g10; replace b10 := cell_below bt_4 b10; clear bt_4; replace H := join_hid H
 cases t_4 with
 | false =>
  replace H := ite_f H; replace H := app_hid H; replace H := join_hid H; replace H := ite_f H; replace H := app_hid H; replace H := join_hid H; replace H := ite_f H; replace H := app_hid H; replace H := join_hid H; replace H := ite_f H; replace H := app_hid H; replace H := join_hid H; replace H := ite_f H; replace H := app_hid H; replace H := join_hid H; replace H := ite_f H; replace H := app_hid H; replace H := join_hid H; replace H := ite_f H; replace H := app_hid H; replace H := join_hid H; replace H := ite_f H; replace H := app_hid H; replace H := join_hid H; replace H := ite_f H; replace H := app_hid H; replace H := join_hid H; replace H := ite_f H; replace H := app_hid H; obtain rfl := ret_hid H; go_wp2_with fail; go_ret; exact ⟨rfl, y10.out⟩
 | true =>
  replace H := ite_t H; replace H := bind_hid H; obtain ⟨t_8, qt_8, H⟩ := H; go_wp2_with fail; go_at_call 57; refine (GiIsDay.C (x_day)  _    qt_8).mono ?_; rintro r11 wt_8 ⟨rfl, bt_8⟩; have t10 := Lib.hid (Below.step y10.out bt_8); replace h10 := cell_below bt_8 h10; replace d10 := cell_below bt_8 d10; replace c10 := cell_below bt_8 c10; replace a10 := cell_below bt_8 a10; replace f10 := cell_below bt_8 f10; replace e10 := cell_below bt_8 e10; replace i10 := cell_below bt_8 i10; replace g10 := cell_below bt_8 g10; replace b10 := cell_below bt_8 b10; clear bt_8; replace H := app_hid H; replace H := join_hid H
  cases t_8 with
  | false =>
   replace H := ite_f H; replace H := app_hid H; replace H := join_hid H; replace H := ite_f H; replace H := app_hid H; replace H := join_hid H; replace H := ite_f H; replace H := app_hid H; replace H := join_hid H; replace H := ite_f H; replace H := app_hid H; replace H := join_hid H; replace H := ite_f H; replace H := app_hid H; replace H := join_hid H; replace H := ite_f H; replace H := app_hid H; replace H := join_hid H; replace H := ite_f H; replace H := app_hid H; replace H := join_hid H; replace H := ite_f H; replace H := app_hid H; replace H := join_hid H; replace H := ite_f H; replace H := app_hid H; obtain rfl := ret_hid H; go_wp2_with fail; go_ret; exact ⟨rfl, t10.out⟩
  | true =>
   replace H := ite_t H; replace H := bind_hid H; obtain ⟨t_13, k11, H⟩ := H; go_wp2_with fail; go_at_call 58; refine (GiIsZone.C (x_zone)  _    k11).mono ?_; rintro x11 n11 ⟨rfl, k10⟩; have c11 := Lib.hid (Below.step t10.out k10); replace h10 := cell_below k10 h10; replace d10 := cell_below k10 d10; replace c10 := cell_below k10 c10; replace a10 := cell_below k10 a10; replace f10 := cell_below k10 f10; replace e10 := cell_below k10 e10; replace i10 := cell_below k10 i10; replace g10 := cell_below k10 g10; replace b10 := cell_below k10 b10; clear k10; replace H := app_hid H; replace H := join_hid H
   cases t_13 with
   | false =>
    replace H := ite_f H; replace H := app_hid H; replace H := join_hid H; replace H := ite_f H; replace H := app_hid H; replace H := join_hid H; replace H := ite_f H; replace H := app_hid H; replace H := join_hid H; replace H := ite_f H; replace H := app_hid H; replace H := join_hid H; replace H := ite_f H; replace H := app_hid H; replace H := join_hid H; replace H := ite_f H; replace H := app_hid H; replace H := join_hid H; replace H := ite_f H; replace H := app_hid H; replace H := join_hid H; replace H := ite_f H; replace H := app_hid H; obtain rfl := ret_hid H; go_wp2_with fail; go_ret; exact ⟨rfl, c11.out⟩
   | true =>
    replace H := ite_t H; replace H := bind_hid H; obtain ⟨t_18, e11, H⟩ := H; go_wp2_with fail; go_at_call 59; refine (GiIsWeight.C (x_grams)  _    e11).mono ?_; rintro l11 v11 ⟨rfl, m10⟩; have b11 := Lib.hid (Below.step c11.out m10); replace h10 := cell_below m10 h10; replace d10 := cell_below m10 d10; replace c10 := cell_below m10 c10; replace a10 := cell_below m10 a10; replace f10 := cell_below m10 f10; replace e10 := cell_below m10 e10; replace i10 := cell_below m10 i10; replace g10 := cell_below m10 g10; replace b10 := cell_below m10 b10; clear m10; replace H := app_hid H; replace H := join_hid H
    cases t_18 with
    | false =>
     replace H := ite_f H; replace H := app_hid H; replace H := join_hid H; replace H := ite_f H; replace H := app_hid H; replace H := join_hid H; replace H := ite_f H; replace H := app_hid H; replace H := join_hid H; replace H := ite_f H; replace H := app_hid H; replace H := join_hid H; replace H := ite_f H; replace H := app_hid H; replace H := join_hid H; replace H := ite_f H; replace H := app_hid H; replace H := join_hid H; replace H := ite_f H; replace H := app_hid H; obtain rfl := ret_hid H; go_wp2_with fail; go_ret; exact ⟨rfl, b11.out⟩
    | true =>
     replace H := ite_t H; replace H := bind_hid H; obtain ⟨t_23, i11, H⟩ := H; go_wp2_with fail; go_at_call 60; refine (GiIsRateCents.C (x_paid)  _    i11).mono ?_; rintro t11 c12 ⟨rfl, l10⟩; have x10 := Lib.hid (Below.step b11.out l10); replace h10 := cell_below l10 h10; replace d10 := cell_below l10 d10; replace c10 := cell_below l10 c10; replace a10 := cell_below l10 a10; replace f10 := cell_below l10 f10; replace e10 := cell_below l10 e10; replace i10 := cell_below l10 i10; replace g10 := cell_below l10 g10; replace b10 := cell_below l10 b10; clear l10; replace H := app_hid H; replace H := join_hid H
     cases t_23 with
     | false =>
      replace H := ite_f H; replace H := app_hid H; replace H := join_hid H; replace H := ite_f H; replace H := app_hid H; replace H := join_hid H; replace H := ite_f H; replace H := app_hid H; replace H := join_hid H; replace H := ite_f H; replace H := app_hid H; replace H := join_hid H; replace H := ite_f H; replace H := app_hid H; replace H := join_hid H; replace H := ite_f H; replace H := app_hid H; obtain rfl := ret_hid H; go_wp2_with fail; go_ret; exact ⟨rfl, x10.out⟩
     | true =>
      replace H := ite_t H; replace H := bind_hid H; obtain ⟨t_28, g11, H⟩ := H; go_wp2_with fail; go_at_call 61; refine (GiIsPostOffice.C (x_from_)  _    g11).mono ?_; rintro p11 y11 ⟨rfl, p10⟩; have w10 := Lib.hid (Below.step x10.out p10); replace h10 := cell_below p10 h10; replace d10 := cell_below p10 d10; replace c10 := cell_below p10 c10; replace a10 := cell_below p10 a10; replace f10 := cell_below p10 f10; replace e10 := cell_below p10 e10; replace i10 := cell_below p10 i10; replace g10 := cell_below p10 g10; replace b10 := cell_below p10 b10; clear p10; replace H := app_hid H; replace H := join_hid H
      cases t_28 with
      | false =>
       replace H := ite_f H; replace H := app_hid H; replace H := join_hid H; replace H := ite_f H; replace H := app_hid H; replace H := join_hid H; replace H := ite_f H; replace H := app_hid H; replace H := join_hid H; replace H := ite_f H; replace H := app_hid H; replace H := join_hid H; replace H := ite_f H; replace H := app_hid H; obtain rfl := ret_hid H; go_wp2_with fail; go_ret; exact ⟨rfl, w10.out⟩
      | true =>
       replace H := ite_t H; replace H := bind_hid H; obtain ⟨t_33, d11, H⟩ := H; go_wp2_with fail; go_at_call 61; refine (GiIsPostOffice.C (x_to_)  _    d11).mono ?_; rintro b12 w11 ⟨rfl, j10⟩; have s10 := Lib.hid (Below.step w10.out j10); replace h10 := cell_below j10 h10; replace d10 := cell_below j10 d10; replace c10 := cell_below j10 c10; replace a10 := cell_below j10 a10; replace f10 := cell_below j10 f10; replace e10 := cell_below j10 e10; replace i10 := cell_below j10 i10; replace g10 := cell_below j10 g10; replace b10 := cell_below j10 b10; clear j10; replace H := app_hid H; replace H := join_hid H
       cases t_33 with
       | false =>
        replace H := ite_f H; replace H := app_hid H; replace H := join_hid H; replace H := ite_f H; replace H := app_hid H; replace H := join_hid H; replace H := ite_f H; replace H := app_hid H; replace H := join_hid H; replace H := ite_f H; replace H := app_hid H; obtain rfl := ret_hid H; go_wp2_with fail; go_ret; exact ⟨rfl, s10.out⟩
       | true =>
        replace H := ite_t H; replace H := let_hid H; obtain ⟨t_40, z11, H⟩ := H; replace H := app_hid H; replace H := join_hid H
        cases t_40 with
        | false =>
         replace H := ite_f H; replace H := app_hid H; replace H := join_hid H; replace H := ite_f H; replace H := app_hid H; replace H := join_hid H; replace H := ite_f H; replace H := app_hid H; obtain rfl := ret_hid H; go_wp2_with fail; go_ret; exact ⟨rfl, s10.out⟩
        | true =>
         replace H := ite_t H; replace H := bind_hid H; obtain ⟨t_45, h11, H⟩ := H; go_wp2_with fail; go_at_call 62; refine (GiIsMinute.C (x_leave)  _    h11).mono ?_; rintro m11 o11 ⟨rfl, n10⟩; have a11 := Lib.hid (Below.step s10.out n10); replace h10 := cell_below n10 h10; replace d10 := cell_below n10 d10; replace c10 := cell_below n10 c10; replace a10 := cell_below n10 a10; replace f10 := cell_below n10 f10; replace e10 := cell_below n10 e10; replace i10 := cell_below n10 i10; replace g10 := cell_below n10 g10; replace b10 := cell_below n10 b10; clear n10; replace H := app_hid H; replace H := join_hid H
         cases t_45 with
         | false =>
          replace H := ite_f H; replace H := app_hid H; replace H := join_hid H; replace H := ite_f H; replace H := app_hid H; obtain rfl := ret_hid H; go_wp2_with fail; go_ret; exact ⟨rfl, a11.out⟩
         | true =>
          replace H := ite_t H; replace H := bind_hid H; obtain ⟨t_50, f11, H⟩ := H; go_wp2_with fail; go_at_call 62; refine (GiIsMinute.C (x_arrive)  _    f11).mono ?_; rintro d12 s11 ⟨rfl, o10⟩; have z10 := Lib.hid (Below.step a11.out o10); replace h10 := cell_below o10 h10; replace d10 := cell_below o10 d10; replace c10 := cell_below o10 c10; replace a10 := cell_below o10 a10; replace f10 := cell_below o10 f10; replace e10 := cell_below o10 e10; replace i10 := cell_below o10 i10; replace g10 := cell_below o10 g10; replace b10 := cell_below o10 b10; clear o10; replace H := app_hid H; replace H := join_hid H
          cases t_50 with
          | false =>
           replace H := ite_f H; replace H := app_hid H; obtain rfl := ret_hid H; go_wp2_with fail; go_ret; exact ⟨rfl, z10.out⟩
          | true =>
           replace H := ite_t H; replace H := let_hid H; obtain ⟨t_57, a12, H⟩ := H; replace H := app_hid H; obtain rfl := ret_hid H; go_wp2_with fail; go_ret; exact ⟨rfl, z10.out⟩
end Go.Proofs.Ytgbcdmlcmnaimaa.GiIsCover

namespace Go.Proofs.Ytgbcdmlcmnaimaa.GiRateOn
open Go.RowKit
open Go.Proofs.Ytgbcdmlcmnaimaa.Rowed Go.Proofs.Ytgbcdmlcmnaimaa.Turn Go.Proofs.Ytgbcdmlcmnaimaa.Aid Go.Proofs.Ytgbcdmlcmnaimaa.GoP Go.Proofs.Ytgbcdmlcmnaimaa.GoM

def l0 (list : (List PRate.Rate)) (day : Int) (zone : Int) (grams : Int) (k0 : Nat) (s : Unit) (nx0 bk0 : Unit → Option (Int)) : Option (Int) :=
 
 Option.bind (idx list (k0 : Int)) fun (yt_5 : PRate.Rate) =>
 unRate yt_5 fun (t_5_zone : Int) (t_5_grams : Int) (t_5_from_ : Int) (t_5_until_ : Int) (t_5_cents : Int) =>
 letK (t_5_zone == zone) fun (t_12 : Bool) =>
 joinK (fun (t_18 : Bool) =>
 joinK (fun (t_26 : Bool) =>
 iteK t_26
 (some t_5_cents)
 (appK nx0 ())) fun jt_26 => iteK t_18 (Option.bind (GiWithin.P day t_5_from_ t_5_until_) fun (t_25 : Bool) =>
 appK jt_26 t_25) (appK jt_26 false)) fun jt_18 => iteK t_12 (letK (decide (grams ≤ t_5_grams)) fun (t_17 : Bool) =>
 appK jt_18 t_17) (appK jt_18 false)

def e0  (s : Unit) : Option (Int) :=
 
 some 0

def P (list : (List PRate.Rate)) (day : Int) (zone : Int) (grams : Int) : Option (Int) :=
 cntK (l0 list day zone grams) (list.length) 0 () (e0 )

set_option maxRecDepth 100000 in
set_option maxHeartbeats 2000000 in
theorem C (list : (List PRate.Rate)) (day : Int) (zone : Int) (grams : Int) (A0 : Option Addr) (c0 : Nat)  (w : World) (M0 : Hid (Cells w 5 A0 list.length (PRate.flat list))) (N0 : Hid (list.length ≤ 9223372036854775807))  {r : Int} (H : Hid (P list day zone grams = some r)) :
  Calls Try.prog 90 #[.slice A0 list.length c0, .int .i64 day, .int .i64 zone, .int .i64 grams] w (Gives (.int .i64 r) w) := by
 have HB := Lib.hid (Below.refl w.heap.size w); unfold P at H; have N0o := N0.out
 go_enter Try.func90, Try.ntmps90
 go_wp2_with fail; go_loopg [13] (list.length) (fun m_ v13_ wr => ∃ (k0 : Nat) , k0 + m_ = list.length ∧ v13_ = .int .i64 (k0 : Int) ∧ Hid (cntK (l0 list day zone grams) m_ k0 () (e0 ) = some r) ∧ Hid (Below w.heap.size w wr))
 case atStart => exact ⟨0, by omega, rfl, H, HB⟩
 case round =>
  obtain ⟨k0, hkm0, rfl, H, c10⟩ := hrel; rename World => wr0
  cases gk with
  | zero =>
   obtain rfl : k0 = list.length := (by omega); have hc0 : decide (((list.length : Nat) : Int) < ((list.length : Nat) : Int)) = false := (by simp); replace H := cnt_zero H; unfold e0 at H; obtain rfl := ret_hid H; go_wp2_with fail; go_ret; exact ⟨rfl, c10.out⟩
  | succ m0 =>
   have hlt0 : k0 < list.length := (by omega); have hc0 : decide ((k0 : Int) < ((list.length : Nat) : Int)) = true := (by simp; omega); replace H := cnt_succ H; unfold l0 at H; replace H := idx_hid H; obtain ⟨nt_5, yt_5, et_5, lt_5, gt_5, H⟩ := H; obtain rfl : k0 = nt_5 := (by omega); clear et_5; obtain ⟨r10, q10, l10, k10, a11⟩ := yt_5; replace H := unRate_hid H; obtain ⟨l11, h11, zt_5, At_5, s10, b10, j10, e10, h10, f10⟩ := ORate.at_ M0.out lt_5; obtain rfl := Option.some.inj (gt_5.out.symm.trans s10); subst At_5; have n11 := cell_lt b10; replace b10 := cell_below c10.out b10; replace j10 := cell_below c10.out j10; replace e10 := cell_below c10.out e10; replace h10 := cell_below c10.out h10; replace f10 := cell_below c10.out f10; clear s10; have f11 : (0 : Int) ≤ (k0 : Int) := (by omega); have e11 : (k0 : Int) < ((list.length : Nat) : Int) := (by omega); have k11 : ((k0 : Int)).toNat = k0 := (by omega); obtain ⟨g10, i10⟩ : ∃ x, wr0.alloc (.cells #[.int .i64 r10, .int .i64 q10, .int .i64 l10, .int .i64 k10, .int .i64 a11] 92) = x := ⟨_, rfl⟩; have d10 : Below wr0.heap.size wr0 g10 := (by rw [← i10]; exact (Below.refl _ _).alloc (Nat.le_refl _) _); have m10 := Lib.hid (Below.step c10.out d10); have t10 := cell_below d10 b10; have o10 := cell_below d10 j10; have x10 := cell_below d10 e10; have v10 := cell_below d10 h10; have z10 := cell_below d10 f10; clear d10; have c11 : g10.cell? ⟨wr0.heap.size, 0, none⟩ = some (.int .i64 r10) := (by rw [← i10]; exact box_new _ _ _ 0 _ rfl); have b11 : g10.cell? ⟨wr0.heap.size, 1, none⟩ = some (.int .i64 q10) := (by rw [← i10]; exact box_new _ _ _ 1 _ rfl); have y10 : g10.cell? ⟨wr0.heap.size, 2, none⟩ = some (.int .i64 l10) := (by rw [← i10]; exact box_new _ _ _ 2 _ rfl); have n10 : g10.cell? ⟨wr0.heap.size, 3, none⟩ = some (.int .i64 k10) := (by rw [← i10]; exact box_new _ _ _ 3 _ rfl); have w10 : g10.cell? ⟨wr0.heap.size, 4, none⟩ = some (.int .i64 a11) := (by rw [← i10]; exact box_new _ _ _ 4 _ rfl); replace H := let_hid H; obtain ⟨t_12, i11, H⟩ := H; replace H := join_hid H
   cases t_12 with
   | false =>
    replace H := ite_f H; replace H := app_hid H; replace H := join_hid H; replace H := ite_f H; replace H := app_hid H; replace H := ite_f H; replace H := app_hid H; go_wp2_with fail; clear b10 j10 e10 h10 f10
    go_roundg m0
    case measure => omega
    case rel => exact ⟨k0 + 1, by omega, by go_num, H, m10⟩
   | true =>
    replace H := ite_t H; replace H := let_hid H; obtain ⟨t_17, j11, H⟩ := H; replace H := app_hid H; replace H := join_hid H
    cases t_17 with
    | false =>
     replace H := ite_f H; replace H := app_hid H; replace H := ite_f H; replace H := app_hid H; go_wp2_with fail; clear b10 j10 e10 h10 f10
     go_roundg m0
     case measure => omega
     case rel => exact ⟨k0 + 1, by omega, by go_num, H, m10⟩
    | true =>
     replace H := ite_t H; replace H := bind_hid H; obtain ⟨t_25, d11, H⟩ := H; go_wp2_with fail; clear b10 j10 e10 h10 f10; go_at_call 52; refine (GiWithin.C (day) (l10) (k10)  _    d11).mono ?_; rintro g11 m11 ⟨rfl, a10⟩; have p10 := Lib.hid (Below.step m10.out a10); replace t10 := cell_below a10 t10; replace o10 := cell_below a10 o10; replace x10 := cell_below a10 x10; replace v10 := cell_below a10 v10; replace z10 := cell_below a10 z10; replace c11 := cell_below a10 c11; replace b11 := cell_below a10 b11; replace y10 := cell_below a10 y10; replace n10 := cell_below a10 n10; replace w10 := cell_below a10 w10; clear a10; replace H := app_hid H
     cases t_25 with
     | false =>
      replace H := ite_f H; replace H := app_hid H; go_wp2_with fail
      go_roundg m0
      case measure => omega
      case rel => exact ⟨k0 + 1, by omega, by go_num, H, p10⟩
     | true =>
      replace H := ite_t H; obtain rfl := ret_hid H; go_wp2_with fail; go_ret; exact ⟨rfl, p10.out⟩
end Go.Proofs.Ytgbcdmlcmnaimaa.GiRateOn

namespace Go.Proofs.Ytgbcdmlcmnaimaa.GiRateOfCover
open Go.RowKit
open Go.Proofs.Ytgbcdmlcmnaimaa.Rowed Go.Proofs.Ytgbcdmlcmnaimaa.Turn Go.Proofs.Ytgbcdmlcmnaimaa.Aid Go.Proofs.Ytgbcdmlcmnaimaa.GoP Go.Proofs.Ytgbcdmlcmnaimaa.GoM

def P (rates : (List PRate.Rate)) (x : PCover.Cover) : Option (Int) :=
 unCover x fun (x_id : Int) (x_day : Int) (x_zone : Int) (x_grams : Int) (x_paid : Int) (x_from_ : Int) (x_to_ : Int) (x_leave : Int) (x_arrive : Int) =>
 Option.bind (GiRateOn.P rates x_day x_zone x_grams) fun (t_9 : Int) =>
 some t_9

set_option maxRecDepth 100000 in
set_option maxHeartbeats 2000000 in
theorem C (rates : (List PRate.Rate)) (x : PCover.Cover) (A0 : Option Addr) (c0 : Nat)  (w : World) (M0 : Hid (Cells w 5 A0 rates.length (PRate.flat rates))) (N0 : Hid (rates.length ≤ 9223372036854775807))  {r : Int} (H : Hid (P rates x = some r)) :
  Calls Try.prog 44 #[.slice A0 rates.length c0, x.val] w (Gives (.int .i64 r) w) := by
 have HB := Lib.hid (Below.refl w.heap.size w); unfold P at H; obtain ⟨x_id, x_day, x_zone, x_grams, x_paid, x_from_, x_to_, x_leave, x_arrive⟩ := x; replace H := unCover_hid H; unfold PCover.Cover.val; have N0o := N0.out
 go_enter Try.func44, Try.ntmps44
 obtain ⟨a10, b10⟩ : ∃ x, w.alloc (.cells #[.int .i64 x_id, .int .i64 x_day, .int .i64 x_zone, .int .i64 x_grams, .int .i64 x_paid, .int .i64 x_from_, .int .i64 x_to_, .int .i64 x_leave, .int .i64 x_arrive] 27) = x := ⟨_, rfl⟩; have k10 : Below w.heap.size w a10 := (by rw [← b10]; exact (Below.refl _ _).alloc (Nat.le_refl _) _); have f10 := Lib.hid (Below.step HB.out k10); clear k10; have m10 : a10.cell? ⟨w.heap.size, 0, none⟩ = some (.int .i64 x_id) := (by rw [← b10]; exact box_new _ _ _ 0 _ rfl); have c10 : a10.cell? ⟨w.heap.size, 1, none⟩ = some (.int .i64 x_day) := (by rw [← b10]; exact box_new _ _ _ 1 _ rfl); have h10 : a10.cell? ⟨w.heap.size, 2, none⟩ = some (.int .i64 x_zone) := (by rw [← b10]; exact box_new _ _ _ 2 _ rfl); have g10 : a10.cell? ⟨w.heap.size, 3, none⟩ = some (.int .i64 x_grams) := (by rw [← b10]; exact box_new _ _ _ 3 _ rfl); have l10 : a10.cell? ⟨w.heap.size, 4, none⟩ = some (.int .i64 x_paid) := (by rw [← b10]; exact box_new _ _ _ 4 _ rfl); have i10 : a10.cell? ⟨w.heap.size, 5, none⟩ = some (.int .i64 x_from_) := (by rw [← b10]; exact box_new _ _ _ 5 _ rfl); have e10 : a10.cell? ⟨w.heap.size, 6, none⟩ = some (.int .i64 x_to_) := (by rw [← b10]; exact box_new _ _ _ 6 _ rfl); have j10 : a10.cell? ⟨w.heap.size, 7, none⟩ = some (.int .i64 x_leave) := (by rw [← b10]; exact box_new _ _ _ 7 _ rfl); have d10 : a10.cell? ⟨w.heap.size, 8, none⟩ = some (.int .i64 x_arrive) := (by rw [← b10]; exact box_new _ _ _ 8 _ rfl); replace H := bind_hid H; obtain ⟨t_9, qt_9, H⟩ := H; go_wp2_with fail; go_at_call 90; refine (GiRateOn.C (rates) (x_day) (x_zone) (x_grams) A0 c0 _   (Lib.hid (Cells.below M0.out f10.out)) N0 qt_9).mono ?_; rintro o10 wt_9 ⟨rfl, bt_9⟩; have n10 := Lib.hid (Below.step f10.out bt_9); replace m10 := cell_below bt_9 m10; replace c10 := cell_below bt_9 c10; replace h10 := cell_below bt_9 h10; replace g10 := cell_below bt_9 g10; replace l10 := cell_below bt_9 l10; replace i10 := cell_below bt_9 i10; replace e10 := cell_below bt_9 e10; replace j10 := cell_below bt_9 j10; replace d10 := cell_below bt_9 d10; clear bt_9; obtain rfl := ret_hid H; go_wp2_with fail; go_ret; exact ⟨rfl, n10.out⟩
end Go.Proofs.Ytgbcdmlcmnaimaa.GiRateOfCover

namespace Go.Proofs.Ytgbcdmlcmnaimaa.PIntA10
set_option maxRecDepth 100000

structure IntA10 where
  x0 : Int
  x1 : Int
  x2 : Int
  x3 : Int
  x4 : Int
  x5 : Int
  x6 : Int
  x7 : Int
  x8 : Int
  x9 : Int
def IntA10.cells (s : IntA10) : List Value := [.int .i64 s.x0, .int .i64 s.x1, .int .i64 s.x2, .int .i64 s.x3, .int .i64 s.x4, .int .i64 s.x5, .int .i64 s.x6, .int .i64 s.x7, .int .i64 s.x8, .int .i64 s.x9]
def IntA10.val (s : IntA10) : Value := .agg #[.int .i64 s.x0, .int .i64 s.x1, .int .i64 s.x2, .int .i64 s.x3, .int .i64 s.x4, .int .i64 s.x5, .int .i64 s.x6, .int .i64 s.x7, .int .i64 s.x8, .int .i64 s.x9]
def IntA10.list (s : IntA10) : List Int := [s.x0, s.x1, s.x2, s.x3, s.x4, s.x5, s.x6, s.x7, s.x8, s.x9]
/-- the array with v at j -/
def IntA10.put (s : IntA10) (j v : Int) : IntA10 := if j = 0 then ⟨v, s.x1, s.x2, s.x3, s.x4, s.x5, s.x6, s.x7, s.x8, s.x9⟩ else if j = 1 then ⟨s.x0, v, s.x2, s.x3, s.x4, s.x5, s.x6, s.x7, s.x8, s.x9⟩ else if j = 2 then ⟨s.x0, s.x1, v, s.x3, s.x4, s.x5, s.x6, s.x7, s.x8, s.x9⟩ else if j = 3 then ⟨s.x0, s.x1, s.x2, v, s.x4, s.x5, s.x6, s.x7, s.x8, s.x9⟩ else if j = 4 then ⟨s.x0, s.x1, s.x2, s.x3, v, s.x5, s.x6, s.x7, s.x8, s.x9⟩ else if j = 5 then ⟨s.x0, s.x1, s.x2, s.x3, s.x4, v, s.x6, s.x7, s.x8, s.x9⟩ else if j = 6 then ⟨s.x0, s.x1, s.x2, s.x3, s.x4, s.x5, v, s.x7, s.x8, s.x9⟩ else if j = 7 then ⟨s.x0, s.x1, s.x2, s.x3, s.x4, s.x5, s.x6, v, s.x8, s.x9⟩ else if j = 8 then ⟨s.x0, s.x1, s.x2, s.x3, s.x4, s.x5, s.x6, s.x7, v, s.x9⟩ else ⟨s.x0, s.x1, s.x2, s.x3, s.x4, s.x5, s.x6, s.x7, s.x8, v⟩
theorem cells_put (s : IntA10) {n : Nat} (h : n < 10) (v : Int) : s.cells.set n (.int .i64 v) = (s.put (n : Int) v).cells := by
  rcases n with _ | _ | _ | _ | _ | _ | _ | _ | _ | _ | n
  · rfl
  · rfl
  · rfl
  · rfl
  · rfl
  · rfl
  · rfl
  · rfl
  · rfl
  · rfl
  · omega
theorem cell_at {w : World} {b q : Nat} {x0 x1 x2 x3 x4 x5 x6 x7 x8 x9 y : Int} {n : Nat} (h0 : w.cell? ⟨b, q, none⟩ = some (.int .i64 x0)) (h1 : w.cell? ⟨b, q + 1, none⟩ = some (.int .i64 x1)) (h2 : w.cell? ⟨b, q + 2, none⟩ = some (.int .i64 x2)) (h3 : w.cell? ⟨b, q + 3, none⟩ = some (.int .i64 x3)) (h4 : w.cell? ⟨b, q + 4, none⟩ = some (.int .i64 x4)) (h5 : w.cell? ⟨b, q + 5, none⟩ = some (.int .i64 x5)) (h6 : w.cell? ⟨b, q + 6, none⟩ = some (.int .i64 x6)) (h7 : w.cell? ⟨b, q + 7, none⟩ = some (.int .i64 x7)) (h8 : w.cell? ⟨b, q + 8, none⟩ = some (.int .i64 x8)) (h9 : w.cell? ⟨b, q + 9, none⟩ = some (.int .i64 x9)) (g : [x0, x1, x2, x3, x4, x5, x6, x7, x8, x9][n]? = some y) : w.cell? ⟨b, q + n, none⟩ = some (.int .i64 y) := by
  rcases n with _ | _ | _ | _ | _ | _ | _ | _ | _ | _ | n
  · obtain rfl := Option.some.inj g; exact h0
  · obtain rfl := Option.some.inj g; exact h1
  · obtain rfl := Option.some.inj g; exact h2
  · obtain rfl := Option.some.inj g; exact h3
  · obtain rfl := Option.some.inj g; exact h4
  · obtain rfl := Option.some.inj g; exact h5
  · obtain rfl := Option.some.inj g; exact h6
  · obtain rfl := Option.some.inj g; exact h7
  · obtain rfl := Option.some.inj g; exact h8
  · obtain rfl := Option.some.inj g; exact h9
  · simp at g
/-- the cells of a list of arrays, one after the other -/
def flat (l : List IntA10) : List Value := l.flatMap IntA10.cells
theorem flat_nil : flat [] = [] := rfl
theorem flat_cons (s : IntA10) (l : List IntA10) : flat (s :: l) = s.cells ++ flat l := by simp [flat]
theorem flat_snoc (l : List IntA10) (s : IntA10) : flat (l ++ [s]) = flat l ++ s.cells := by simp [flat]
theorem flat_len (l : List IntA10) : (flat l).length = l.length * 10 := by
  induction l with
  | nil => rfl
  | cons s l ih => rw [flat_cons, List.length_append, ih]; simp [IntA10.cells]; omega
theorem flat_at : ∀ (l : List IntA10) (k : Nat) (s : IntA10), l[k]? = some s → ∀ j, j < 10 → (flat l)[k * 10 + j]? = s.cells[j]?
  | [], k, s, h, _, _ => by simp at h
  | r :: l, 0, s, h, j, hj => by
    obtain rfl : r = s := by simpa using h
    rw [flat_cons, List.getElem?_append_left (by simp [IntA10.cells]; omega)]; simp
  | r :: l, k + 1, s, h, j, hj => by
    rw [flat_cons, List.getElem?_append_right (by simp [IntA10.cells]; omega), show (k + 1) * 10 + j - r.cells.length = k * 10 + j by simp [IntA10.cells]; omega]
    exact flat_at l k s (by simpa using h) j hj
end Go.Proofs.Ytgbcdmlcmnaimaa.PIntA10

namespace Go.Proofs.Ytgbcdmlcmnaimaa.GoP
open Go.RowKit
def unIntA10 {ρ : Type} (s : Go.Proofs.Ytgbcdmlcmnaimaa.PIntA10.IntA10) (f : Int → Int → Int → Int → Int → Int → Int → Int → Int → Int → Option ρ) : Option ρ := f s.x0 s.x1 s.x2 s.x3 s.x4 s.x5 s.x6 s.x7 s.x8 s.x9
theorem unIntA10_hid {ρ : Type} {x0 : Int} {x1 : Int} {x2 : Int} {x3 : Int} {x4 : Int} {x5 : Int} {x6 : Int} {x7 : Int} {x8 : Int} {x9 : Int} {f : Int → Int → Int → Int → Int → Int → Int → Int → Int → Int → Option ρ} {r : ρ} (H : Hid (unIntA10 ⟨x0, x1, x2, x3, x4, x5, x6, x7, x8, x9⟩ f = some r)) : Hid (f x0 x1 x2 x3 x4 x5 x6 x7 x8 x9 = some r) := H
end Go.Proofs.Ytgbcdmlcmnaimaa.GoP

namespace Go.Proofs.Ytgbcdmlcmnaimaa.GoA
open Go.RowKit
open Go.Proofs.Ytgbcdmlcmnaimaa.HelpInt

/-- the number at a place of an array's list -/
def nth (l : List Int) (j : Nat) : Int := l.getD j 0
theorem row_at {w : World} {b T n c g : Nat} {l : List Int} (h : w.ownsRow b T 1 (.slice (some ⟨g, 0, none⟩) n c) n (iv l)) (hl : l.length = n) (j : Nat) (hj : j < n) : w.cell? ⟨g, j, none⟩ = some (.int .i64 (nth l j)) := by
  unfold nth
  have hc := h.cells rfl j (.int .i64 (l.getD j 0)) (by
    rw [iv_at, List.getD_eq_getElem?_getD, List.getElem?_eq_getElem (show j < l.length by omega)]; rfl)
  rw [add_none] at hc
  simpa using hc

/-- what holds at a jump to a label: a relation that bears a number, which each pass from the label to the next jump lowers -/
def Jumps (P : Program) (rest : Code) (l : Nat) (Q : Exit → Act → World → Prop) (a : Act) (w : World) (m : Nat) : Prop :=
  ∃ J : Nat → Act → World → Prop, J m a w ∧ ∀ m a w, J m a w → rest.wp P (Exit.jump l (Handed J m) Q) a w

theorem jump_mono {l : Nat} {J J' : Act → World → Prop} {Q : Exit → Act → World → Prop} (h : ∀ a w, J a w → J' a w) : ∀ e a w, Exit.jump l J Q e a w → Exit.jump l J' Q e a w := by
  intro e a w he
  cases e with
  | goto l' => exact ⟨he.1, h _ _ he.2⟩
  | _ => exact he

theorem wp_scope_goto {P : Program} {A rest : Code} {l : Nat} {Q : Exit → Act → World → Prop} {a : Act} {w : World} (hf : findLabel (Code.seq A (Code.seq (Code.label l) rest)) l = some (Code.seq Code.skip rest))
    (first : ∀ K : Act → World → Prop, (∀ a w, (∃ m, Jumps P rest l Q a w m) → K a w) → A.wp P (Exit.then K (fun _ _ _ => False)) a w) :
    (Code.scope (Code.seq A (Code.seq (Code.label l) rest))).wp P Q a w := by
  have pass : ∀ m a w, Jumps P rest l Q a w m → rest.wp P (Exit.jump l (fun a' w' => ∃ m', m' < m ∧ Jumps P rest l Q a' w' m') Q) a w := by
    rintro m a w ⟨J, hJ, hp⟩
    refine wp_mono (hp m a w hJ) (jump_mono ?_)
    rintro a' w' ⟨m', hlt, hJ'⟩
    exact ⟨m', hlt, J, hJ', hp⟩
  refine wp_scope_jumps l (fun a w => ∃ m, Jumps P rest l Q a w m) (fun a w => leastOf (Jumps P rest l Q a w)) hf ?_ ?_
  · refine wp_seq (wp_mono (first _ fun _ _ h => h) ?_)
    intro e a1 w1 he
    cases e with
    | normal =>
      obtain ⟨m, hm⟩ := he
      refine wp_seq (wp_label ?_)
      refine wp_mono (pass m a1 w1 hm) (jump_mono ?_)
      rintro a' w' ⟨m', _, h'⟩
      exact ⟨m', h'⟩
    | _ => exact he.elim
  · intro a1 w1 h1
    refine wp_seq (wp_skip ?_)
    have hl := (leastOf_spec h1).1
    refine wp_mono (pass _ a1 w1 hl) (jump_mono ?_)
    rintro a' w' ⟨m', hlt, h'⟩
    exact ⟨⟨m', h'⟩, Nat.lt_of_le_of_lt ((leastOf_spec ⟨m', h'⟩).2 m' h') hlt⟩

/-- the frame with the slots that are marked put to new values -/
def over (u : Nat → Value) : List Bool → Nat → List Value → List Value
  | true :: bs, i, _ :: l => u i :: over u bs (i + 1) l
  | false :: bs, i, v :: l => v :: over u bs (i + 1) l
  | [], _, l => l
  | _ :: _, _, [] => []
theorem over_self (bs : List Bool) : ∀ (i : Nat) (l : List Value) (u : Nat → Value), (∀ j, j < l.length → u (i + j) = l.getD j undef) → over u bs i l = l := by
  induction bs with
  | nil => intro i l u h; cases l <;> rfl
  | cons b bs ih =>
    intro i l u h
    cases l with
    | nil => cases b <;> rfl
    | cons v l =>
      have h0 := h 0 (by simp)
      have ht := ih (i + 1) l u (fun j hj => by
        have := h (j + 1) (by simp; omega)
        rw [show i + 1 + j = i + (j + 1) by omega, this]; rfl)
      cases b
      · show v :: over u bs (i + 1) l = _; rw [ht]
      · show u i :: over u bs (i + 1) l = _; rw [ht]
        have : u i = v := h0
        rw [this]
/-- the pass from the label, as the walk wants it: the frame stands at the label the first time; the marked slots change -/
theorem jumps_intro {P : Program} {rest : Code} {l : Nat} {Q : Exit → Act → World → Prop} {ts : List Value} {de : List Deferred} {w : World} (bs : List Bool) (m : Nat) (R : Nat → (Nat → Value) → World → Prop)
    (start : R m (fun i => ts.getD i undef) w)
    (pass : ∀ m u w, R m u w → ∀ J : Nat → Act → World → Prop, (∀ m u w a, a = ⟨(over u bs 0 ts).toArray, de⟩ → R m u w → J m a w) → rest.wp P (Exit.jump l (Handed J m) Q) ⟨(over u bs 0 ts).toArray, de⟩ w) :
    ∃ m, Jumps P rest l Q ⟨ts.toArray, de⟩ w m := by
  refine ⟨m, fun m a w => ∃ u, a = ⟨(over u bs 0 ts).toArray, de⟩ ∧ R m u w, ⟨fun i => ts.getD i undef, ?_, start⟩, ?_⟩
  · rw [over_self bs 0 ts _ (fun j _ => by rw [Nat.zero_add])]
  · rintro m a w ⟨u, rfl, hR⟩
    exact pass m u w hR _ fun m u w a e h => ⟨u, e, h⟩
theorem handed_goto {J : Nat → Act → World → Prop} {R : Nat → (Nat → Value) → World → Prop} {bs : List Bool} {ts ts' : List Value} {de : List Deferred} {w : World} {m : Nat}
    (hJ : ∀ m u w a, a = ⟨(over u bs 0 ts).toArray, de⟩ → R m u w → J m a w) (m' : Nat) (hlt : m' < m) (he : ts' = over (fun i => ts'.getD i undef) bs 0 ts) (hR : R m' (fun i => ts'.getD i undef) w) : Handed J m ⟨ts'.toArray, de⟩ w :=
  Handed.intro m' hlt (hJ m' _ w _ (congrArg (fun z => (⟨z.toArray, de⟩ : Act)) he) hR)
end Go.Proofs.Ytgbcdmlcmnaimaa.GoA

namespace Go.Proofs.Ytgbcdmlcmnaimaa.GiFilledWith
open Go.RowKit
open Go.Proofs.Ytgbcdmlcmnaimaa.Rowed Go.Proofs.Ytgbcdmlcmnaimaa.Turn Go.Proofs.Ytgbcdmlcmnaimaa.Aid Go.Proofs.Ytgbcdmlcmnaimaa.GoP Go.Proofs.Ytgbcdmlcmnaimaa.GoM

def l0 (minute : Int) (k0 : Nat) (s : (List Int)) (nx0 bk0 : (List Int) → Option (PIntA10.IntA10)) : Option (PIntA10.IntA10) :=
 letK s fun minutes_3l0 =>
 Option.bind (idx minutes_3l0 (k0 : Int)) fun (yt_8 : Int) =>
 letK (minutes_3l0.set k0 minute) fun (l9_9 : (List Int)) =>
 appK nx0 (l9_9)

def e0  (s : (List Int)) : Option (PIntA10.IntA10) :=
 letK s fun minutes_3l0 =>
 some (PIntA10.IntA10.mk (GoA.nth minutes_3l0 0) (GoA.nth minutes_3l0 1) (GoA.nth minutes_3l0 2) (GoA.nth minutes_3l0 3) (GoA.nth minutes_3l0 4) (GoA.nth minutes_3l0 5) (GoA.nth minutes_3l0 6) (GoA.nth minutes_3l0 7) (GoA.nth minutes_3l0 8) (GoA.nth minutes_3l0 9))

def P (minute : Int) : Option (PIntA10.IntA10) :=
 letK ([0, 0, 0, 0, 0, 0, 0, 0, 0, 0]) fun (vminutes_1 : (List Int)) =>
 cntK (l0 minute) (10) 0 (vminutes_1) (e0 )

set_option maxRecDepth 100000 in
set_option maxHeartbeats 2000000 in
theorem C (minute : Int)   (w : World)   {r : PIntA10.IntA10} (H : Hid (P minute = some r)) :
  Calls Try.prog 98 #[.int .i64 minute] w (Gives ((PIntA10.IntA10.val r)) w) := by
 have HB := Lib.hid (Below.refl w.heap.size w); unfold P at H
 go_enter Try.func98, Try.ntmps98
 obtain ⟨b10, i10⟩ : ∃ x, w.alloc (.cells #[.int .i64 0, .int .i64 0, .int .i64 0, .int .i64 0, .int .i64 0, .int .i64 0, .int .i64 0, .int .i64 0, .int .i64 0, .int .i64 0] 78) = x := ⟨_, rfl⟩; have g11 : Below w.heap.size w b10 := (by rw [← i10]; exact (Below.refl _ _).alloc (Nat.le_refl _) _); have f11 := Lib.hid (Below.step HB.out g11); clear g11; have a11 : b10.cell? ⟨w.heap.size, 0, none⟩ = some (.int .i64 0) := (by rw [← i10]; exact box_new _ _ _ 0 _ rfl); have h11 : b10.cell? ⟨w.heap.size, 1, none⟩ = some (.int .i64 0) := (by rw [← i10]; exact box_new _ _ _ 1 _ rfl); have r11 : b10.cell? ⟨w.heap.size, 2, none⟩ = some (.int .i64 0) := (by rw [← i10]; exact box_new _ _ _ 2 _ rfl); have t11 : b10.cell? ⟨w.heap.size, 3, none⟩ = some (.int .i64 0) := (by rw [← i10]; exact box_new _ _ _ 3 _ rfl); have x11 : b10.cell? ⟨w.heap.size, 4, none⟩ = some (.int .i64 0) := (by rw [← i10]; exact box_new _ _ _ 4 _ rfl); have d11 : b10.cell? ⟨w.heap.size, 5, none⟩ = some (.int .i64 0) := (by rw [← i10]; exact box_new _ _ _ 5 _ rfl); have o11 : b10.cell? ⟨w.heap.size, 6, none⟩ = some (.int .i64 0) := (by rw [← i10]; exact box_new _ _ _ 6 _ rfl); have m11 : b10.cell? ⟨w.heap.size, 7, none⟩ = some (.int .i64 0) := (by rw [← i10]; exact box_new _ _ _ 7 _ rfl); have w11 : b10.cell? ⟨w.heap.size, 8, none⟩ = some (.int .i64 0) := (by rw [← i10]; exact box_new _ _ _ 8 _ rfl); have i11 : b10.cell? ⟨w.heap.size, 9, none⟩ = some (.int .i64 0) := (by rw [← i10]; exact box_new _ _ _ 9 _ rfl); have Ot_0 : Hid (b10.ownsRow w.heap.size 78 10 (.slice (some ⟨w.heap.size, 0, none⟩) 1 1) 1 [.int .i64 0, .int .i64 0, .int .i64 0, .int .i64 0, .int .i64 0, .int .i64 0, .int .i64 0, .int .i64 0, .int .i64 0, .int .i64 0]) := Lib.hid (by rw [← i10]; exact own_laid (n := 1) HB.out.size rfl rfl (by unfold maxLen; omega)); replace H := let_hid H; obtain ⟨j11, w10, H⟩ := H; obtain ⟨p11, l11⟩ : ∃ x, b10.alloc (.cells #[.int .i64 0, .int .i64 0, .int .i64 0, .int .i64 0, .int .i64 0, .int .i64 0, .int .i64 0, .int .i64 0, .int .i64 0, .int .i64 0] 78) = x := ⟨_, rfl⟩; have f10 : Below b10.heap.size b10 p11 := (by rw [← l11]; exact (Below.refl _ _).alloc (Nat.le_refl _) _); have k11 := f11.out.size; have b11 : j11.length = 10 := (by rw [← w10]; rfl)
 have p12 : Hid (p11.ownsRow w.heap.size 78 1 (.slice (some ⟨b10.heap.size, 0, none⟩) 10 10) 10 (HelpInt.iv j11)) := by
  rw [← l11, ← w10]; have e_ : ([.int .i64 0, .int .i64 0, .int .i64 0, .int .i64 0, .int .i64 0, .int .i64 0, .int .i64 0, .int .i64 0, .int .i64 0, .int .i64 0] : List Value) = HelpInt.iv [0, 0, 0, 0, 0, 0, 0, 0, 0, 0] := rfl; exact Lib.hid (own_laid (n := 10) k11 e_ rfl (by unfold maxLen; omega))
 clear k11; have y13 := Lib.hid w10; clear w10; replace b11 := Lib.hid b11; have a13 := Lib.hid (apart_box a11); have s12 := Lib.hid (Below.step f11.out f10); have m10 := cell_below f10 a11; have q10 := cell_below f10 h11; have r10 := cell_below f10 r11; have t10 := cell_below f10 t11; have v10 := cell_below f10 x11; have n10 := cell_below f10 d11; have x10 := cell_below f10 o11; have l10 := cell_below f10 m11; have s10 := cell_below f10 w11; have p10 := cell_below f10 i11; replace Ot_0 := Lib.hid (own_below Ot_0.out f10); clear f10; go_wp2_with fail; clear a11 h11 r11 t11 x11 d11 o11 m11 w11 i11; go_wp2_with fail; go_loopg [5] (10) (fun m_ v5_ wr => ∃ (k0 : Nat) (a10 : (List Int)), k0 + m_ = 10 ∧ v5_ = .int .i64 (k0 : Int) ∧ Hid (cntK (l0 minute) m_ k0 (a10) (e0 ) = some r) ∧ Hid (Below w.heap.size w wr) ∧ wr.cell? ⟨w.heap.size, 0, none⟩ = some (.int .i64 0) ∧ wr.cell? ⟨w.heap.size, 1, none⟩ = some (.int .i64 0) ∧ wr.cell? ⟨w.heap.size, 2, none⟩ = some (.int .i64 0) ∧ wr.cell? ⟨w.heap.size, 3, none⟩ = some (.int .i64 0) ∧ wr.cell? ⟨w.heap.size, 4, none⟩ = some (.int .i64 0) ∧ wr.cell? ⟨w.heap.size, 5, none⟩ = some (.int .i64 0) ∧ wr.cell? ⟨w.heap.size, 6, none⟩ = some (.int .i64 0) ∧ wr.cell? ⟨w.heap.size, 7, none⟩ = some (.int .i64 0) ∧ wr.cell? ⟨w.heap.size, 8, none⟩ = some (.int .i64 0) ∧ wr.cell? ⟨w.heap.size, 9, none⟩ = some (.int .i64 0) ∧ Hid (wr.ownsRow w.heap.size 78 10 (.slice (some ⟨w.heap.size, 0, none⟩) 1 1) 1 [.int .i64 0, .int .i64 0, .int .i64 0, .int .i64 0, .int .i64 0, .int .i64 0, .int .i64 0, .int .i64 0, .int .i64 0, .int .i64 0]) ∧ Hid (wr.ownsRow w.heap.size 78 1 (.slice (some ⟨b10.heap.size, 0, none⟩) 10 10) 10 (HelpInt.iv a10)) ∧ Hid (a10.length = 10) ∧ Hid (Apart (some ⟨b10.heap.size, 0, none⟩) (some ⟨w.heap.size, 0, none⟩)))
 case atStart => exact ⟨0, _, by omega, rfl, H, s12, m10, q10, r10, t10, v10, n10, x10, l10, s10, p10, Ot_0, p12, Lib.hid (b11.out), Lib.hid a13.out⟩
 case round =>
  obtain ⟨k0, a10, hkm0, rfl, H, o10, m10, q10, r10, t10, v10, n10, x10, l10, s10, p10, Ot_0, c10, g10, e10⟩ := hrel; rename World => wr0
  cases gk with
  | zero =>
   obtain rfl : k0 = 10 := (by omega); have hc0 : decide (((10 : Nat) : Int) < ((10 : Nat) : Int)) = false := (by simp); replace H := cnt_zero H; unfold e0 at H; replace H := let_hid H; obtain ⟨_, rfl, H⟩ := H; have w13 : wr0.cell? ⟨b10.heap.size, 0, none⟩ = some (.int .i64 (GoA.nth a10 0)) := GoA.row_at c10.out g10.out 0 (by omega); have g13 : wr0.cell? ⟨b10.heap.size, 1, none⟩ = some (.int .i64 (GoA.nth a10 1)) := GoA.row_at c10.out g10.out 1 (by omega); have n13 : wr0.cell? ⟨b10.heap.size, 2, none⟩ = some (.int .i64 (GoA.nth a10 2)) := GoA.row_at c10.out g10.out 2 (by omega); have f13 : wr0.cell? ⟨b10.heap.size, 3, none⟩ = some (.int .i64 (GoA.nth a10 3)) := GoA.row_at c10.out g10.out 3 (by omega); have a14 : wr0.cell? ⟨b10.heap.size, 4, none⟩ = some (.int .i64 (GoA.nth a10 4)) := GoA.row_at c10.out g10.out 4 (by omega); have c14 : wr0.cell? ⟨b10.heap.size, 5, none⟩ = some (.int .i64 (GoA.nth a10 5)) := GoA.row_at c10.out g10.out 5 (by omega); have v13 : wr0.cell? ⟨b10.heap.size, 6, none⟩ = some (.int .i64 (GoA.nth a10 6)) := GoA.row_at c10.out g10.out 6 (by omega); have r13 : wr0.cell? ⟨b10.heap.size, 7, none⟩ = some (.int .i64 (GoA.nth a10 7)) := GoA.row_at c10.out g10.out 7 (by omega); have t13 : wr0.cell? ⟨b10.heap.size, 8, none⟩ = some (.int .i64 (GoA.nth a10 8)) := GoA.row_at c10.out g10.out 8 (by omega); have b14 : wr0.cell? ⟨b10.heap.size, 9, none⟩ = some (.int .i64 (GoA.nth a10 9)) := GoA.row_at c10.out g10.out 9 (by omega); obtain ⟨h10, v11⟩ : ∃ x, ((((((((((wr0).setCell ⟨w.heap.size, 0, none⟩ (.int .i64 (GoA.nth a10 0))).setCell ⟨w.heap.size, 1, none⟩ (.int .i64 (GoA.nth a10 1))).setCell ⟨w.heap.size, 2, none⟩ (.int .i64 (GoA.nth a10 2))).setCell ⟨w.heap.size, 3, none⟩ (.int .i64 (GoA.nth a10 3))).setCell ⟨w.heap.size, 4, none⟩ (.int .i64 (GoA.nth a10 4))).setCell ⟨w.heap.size, 5, none⟩ (.int .i64 (GoA.nth a10 5))).setCell ⟨w.heap.size, 6, none⟩ (.int .i64 (GoA.nth a10 6))).setCell ⟨w.heap.size, 7, none⟩ (.int .i64 (GoA.nth a10 7))).setCell ⟨w.heap.size, 8, none⟩ (.int .i64 (GoA.nth a10 8))).setCell ⟨w.heap.size, 9, none⟩ (.int .i64 (GoA.nth a10 9)) = x := ⟨_, rfl⟩; have f14 := Ot_0.out.frozenAt 0; have o13 := Ot_0.out.frozenAt 1; have j13 := Ot_0.out.frozenAt 2; have l13 := Ot_0.out.frozenAt 3; have d14 := Ot_0.out.frozenAt 4; have i13 := Ot_0.out.frozenAt 5; have q13 := Ot_0.out.frozenAt 6; have k13 := Ot_0.out.frozenAt 7; have m13 := Ot_0.out.frozenAt 8; have z13 := Ot_0.out.frozenAt 9; have c11 := Lib.hid (own_stores [(0, .int .i64 (GoA.nth a10 0)), (1, .int .i64 (GoA.nth a10 1)), (2, .int .i64 (GoA.nth a10 2)), (3, .int .i64 (GoA.nth a10 3)), (4, .int .i64 (GoA.nth a10 4)), (5, .int .i64 (GoA.nth a10 5)), (6, .int .i64 (GoA.nth a10 6)), (7, .int .i64 (GoA.nth a10 7)), (8, .int .i64 (GoA.nth a10 8)), (9, .int .i64 (GoA.nth a10 9))] Ot_0.out); have j10 : Hid (h10.ownsRow w.heap.size 78 10 (.slice (some ⟨w.heap.size, 0, none⟩) 1 1) 1 [.int .i64 (GoA.nth a10 0), .int .i64 (GoA.nth a10 1), .int .i64 (GoA.nth a10 2), .int .i64 (GoA.nth a10 3), .int .i64 (GoA.nth a10 4), .int .i64 (GoA.nth a10 5), .int .i64 (GoA.nth a10 6), .int .i64 (GoA.nth a10 7), .int .i64 (GoA.nth a10 8), .int .i64 (GoA.nth a10 9)]) := Lib.hid (by rw [← v11]; exact c11.out.1); have z10 : Hid (wr0.grownBy h10 (Value.slice (some ⟨w.heap.size, 0, none⟩) 1 1).ownBlock) := Lib.hid (by rw [← v11]; exact c11.out.2); have m12 := Lib.hid (o10.out.grown z10.out o10.out.size (fun q hq => (Ot_0.out.lt q hq).1)); clear c11; replace c10 := Lib.hid (own_other c10.out z10.out (Apart.symm e10.out)); clear Ot_0 z10; have j12 : h10.cell? ⟨w.heap.size, 0, none⟩ = some (.int .i64 (GoA.nth a10 0)) := j10.out.cells rfl 0 _ rfl; have b13 : h10.cell? ⟨w.heap.size, 1, none⟩ = some (.int .i64 (GoA.nth a10 1)) := j10.out.cells rfl 1 _ rfl; have r12 : h10.cell? ⟨w.heap.size, 2, none⟩ = some (.int .i64 (GoA.nth a10 2)) := j10.out.cells rfl 2 _ rfl; have h12 : h10.cell? ⟨w.heap.size, 3, none⟩ = some (.int .i64 (GoA.nth a10 3)) := j10.out.cells rfl 3 _ rfl
   have a12 : h10.cell? ⟨w.heap.size, 4, none⟩ = some (.int .i64 (GoA.nth a10 4)) := j10.out.cells rfl 4 _ rfl; have v12 : h10.cell? ⟨w.heap.size, 5, none⟩ = some (.int .i64 (GoA.nth a10 5)) := j10.out.cells rfl 5 _ rfl; have g12 : h10.cell? ⟨w.heap.size, 6, none⟩ = some (.int .i64 (GoA.nth a10 6)) := j10.out.cells rfl 6 _ rfl; have k12 : h10.cell? ⟨w.heap.size, 7, none⟩ = some (.int .i64 (GoA.nth a10 7)) := j10.out.cells rfl 7 _ rfl; have q12 : h10.cell? ⟨w.heap.size, 8, none⟩ = some (.int .i64 (GoA.nth a10 8)) := j10.out.cells rfl 8 _ rfl; have w12 : h10.cell? ⟨w.heap.size, 9, none⟩ = some (.int .i64 (GoA.nth a10 9)) := j10.out.cells rfl 9 _ rfl; cases ret_hid H; go_wp2_with fail
   (try simp only [Exit.inBlock, Exit.then])
   refine bodyPost_ret (v := .agg #[.int .i64 (GoA.nth a10 0), .int .i64 (GoA.nth a10 1), .int .i64 (GoA.nth a10 2), .int .i64 (GoA.nth a10 3), .int .i64 (GoA.nth a10 4), .int .i64 (GoA.nth a10 5), .int .i64 (GoA.nth a10 6), .int .i64 (GoA.nth a10 7), .int .i64 (GoA.nth a10 8), .int .i64 (GoA.nth a10 9)]) ?hr_ ?hd_ ?_
   case hd_ => rfl
   case hr_ => simp [results, Try.results98, j12, b13, r12, h12, a12, v12, g12, k12, q12, w12, go_sem]
   exact ⟨rfl, m12.out⟩
  | succ m0 =>
   have hlt0 : k0 < 10 := (by omega); have hc0 : decide ((k0 : Int) < ((10 : Nat) : Int)) = true := (by simp; omega); replace H := cnt_succ H; have hd0 : decide ((k0 : Int) < 10) = true := (by simp; omega); unfold l0 at H; replace H := let_hid H; obtain ⟨_, rfl, H⟩ := H; replace H := idx_hid H; obtain ⟨nt_8, yt_8, et_8, lt_8, gt_8, H⟩ := H; obtain rfl : k0 = nt_8 := (by omega); clear et_8; have z11 := g10.out; obtain ⟨p13, e13, zt_8, At_8, n11, q11⟩ := HelpInt.Ints.at_ (own_cells c10.out) (k := k0) (by omega); obtain rfl := Option.some.inj (gt_8.out.symm.trans n11); simp only [Option.some.injEq, Addr.mk.injEq] at At_8; obtain ⟨rfl, rfl, _⟩ := At_8; clear n11; simp only [Nat.zero_add] at q11; have s13 : (0 : Int) ≤ (k0 : Int) := (by omega); have c13 : (k0 : Int) < ((10 : Nat) : Int) := (by omega); have e14 : ((k0 : Int)).toNat = k0 := (by omega); clear z11; have d13 : k0 < 10 := (by have h_ := lt_8; have hn_ := g10.out; omega); have x13 : (k0 : Int) < (10 : Int) := (by omega); replace H := let_hid H; obtain ⟨l9_9, k10, H⟩ := H
   try simp only [Int.toNat_natCast] at k10
   obtain ⟨e11, s11⟩ : ∃ x, (wr0).setCell ⟨b10.heap.size, k0, none⟩ (.int .i64 minute) = x := ⟨_, rfl⟩; have z12 := c10.out.frozenAt (k0); have y10 := Lib.hid (own_stores [(k0, .int .i64 minute)] c10.out); have y12 : Hid (l9_9.length = 10) := Lib.hid (by rw [← k10, List.length_set]; exact g10.out); have l12 : Hid (e11.ownsRow w.heap.size 78 1 (.slice (some ⟨b10.heap.size, 0, none⟩) 10 10) 10 (HelpInt.iv l9_9)) := Lib.hid (by have e_ : ([(k0, .int .i64 minute)] : List (Nat × Value)).foldl (fun xs p => xs.set p.1 p.2) (HelpInt.iv a10) = (HelpInt.iv l9_9) := (by rw [← k10]; first | done | simp [HelpInt.iv, List.map_set]); rw [← s11, ← e_]; exact y10.out.1); have d10 : Hid (wr0.grownBy e11 (Value.slice (some ⟨b10.heap.size, 0, none⟩) 10 10).ownBlock) := Lib.hid (by rw [← s11]; exact y10.out.2); have o12 := Lib.hid (o10.out.grown d10.out o10.out.size (fun q hq => (c10.out.lt q hq).1)); have h13 := Lib.hid k10; clear k10 y10; have y11 := cell_other m10 d10.out e10.out; have i12 := cell_other q10 d10.out e10.out; have t12 := cell_other r10 d10.out e10.out; have e12 := cell_other t10 d10.out e10.out; have b12 := cell_other v10 d10.out e10.out; have n12 := cell_other n10 d10.out e10.out; have f12 := cell_other x10 d10.out e10.out; have x12 := cell_other l10 d10.out e10.out; have c12 := cell_other s10 d10.out e10.out; have d12 := cell_other p10 d10.out e10.out; replace Ot_0 := Lib.hid (own_other Ot_0.out d10.out e10.out); clear c10 d10; replace H := app_hid H; go_wp2_with fail; clear z12 m10 q10 r10 t10 v10 n10 x10 l10 s10 p10 q11
   go_roundg m0
   case measure => omega
   case rel => exact ⟨k0 + 1, _, by omega, by go_num, H, o12, y11, i12, t12, e12, b12, n12, f12, x12, c12, d12, Ot_0, l12, Lib.hid (y12.out), Lib.hid e10.out⟩
end Go.Proofs.Ytgbcdmlcmnaimaa.GiFilledWith

namespace Go.Proofs.Ytgbcdmlcmnaimaa.GiEarliestMinutes
open Go.RowKit
open Go.Proofs.Ytgbcdmlcmnaimaa.Rowed Go.Proofs.Ytgbcdmlcmnaimaa.Turn Go.Proofs.Ytgbcdmlcmnaimaa.Aid Go.Proofs.Ytgbcdmlcmnaimaa.GoP Go.Proofs.Ytgbcdmlcmnaimaa.GoM

def l0 (list : (List PMail.Mail)) (k0 : Nat) (s : (List Int)) (nx0 bk0 : (List Int) → Option (PIntA10.IntA10)) : Option (PIntA10.IntA10) :=
 letK s fun earliest_7l0 =>
 Option.bind (idx list (k0 : Int)) fun (yt_12 : PMail.Mail) =>
 unMail yt_12 fun (t_12_leave : Int) (t_12_from_ : Int) (t_12_to_ : Int) (t_12_arrive : Int) =>
 Option.bind (idx earliest_7l0 t_12_from_) fun (yt_18 : Int) =>
 letK (decide (yt_18 ≤ t_12_leave)) fun (t_22 : Bool) =>
 iteK t_22
 (Option.bind (idx earliest_7l0 t_12_to_) fun (yt_27 : Int) =>
 letK (min yt_27 t_12_arrive) fun (t_31 : Int) =>
 Option.bind (idx earliest_7l0 t_12_to_) fun (yt_32 : Int) =>
 letK (earliest_7l0.set (t_12_to_).toNat t_31) fun (l33_33 : (List Int)) =>
 appK nx0 (l33_33))
 (appK nx0 (earliest_7l0))

def e0  (s : (List Int)) : Option (PIntA10.IntA10) :=
 letK s fun earliest_7l0 =>
 some (PIntA10.IntA10.mk (GoA.nth earliest_7l0 0) (GoA.nth earliest_7l0 1) (GoA.nth earliest_7l0 2) (GoA.nth earliest_7l0 3) (GoA.nth earliest_7l0 4) (GoA.nth earliest_7l0 5) (GoA.nth earliest_7l0 6) (GoA.nth earliest_7l0 7) (GoA.nth earliest_7l0 8) (GoA.nth earliest_7l0 9))

def P (list : (List PMail.Mail)) (from_1 : Int) (minute : Int) : Option (PIntA10.IntA10) :=
 Option.bind (GiFilledWith.P 10000) fun (t_1 : PIntA10.IntA10) =>
 unIntA10 t_1 fun (t_1_x0 : Int) (t_1_x1 : Int) (t_1_x2 : Int) (t_1_x3 : Int) (t_1_x4 : Int) (t_1_x5 : Int) (t_1_x6 : Int) (t_1_x7 : Int) (t_1_x8 : Int) (t_1_x9 : Int) =>
 letK ([t_1_x0, t_1_x1, t_1_x2, t_1_x3, t_1_x4, t_1_x5, t_1_x6, t_1_x7, t_1_x8, t_1_x9]) fun (vearliest_2 : (List Int)) =>
 Option.bind (idx vearliest_2 from_1) fun (yt_6 : Int) =>
 letK (vearliest_2.set (from_1).toNat minute) fun (l7_7 : (List Int)) =>
 cntK (l0 list) (list.length) 0 (l7_7) (e0 )

set_option maxRecDepth 100000 in
set_option maxHeartbeats 2000000 in
theorem C (list : (List PMail.Mail)) (from_1 : Int) (minute : Int) (A0 : Option Addr) (c0 : Nat)  (w : World) (M0 : Hid (Cells w 4 A0 list.length (PMail.flat list))) (N0 : Hid (list.length ≤ 9223372036854775807))  {r : PIntA10.IntA10} (H : Hid (P list from_1 minute = some r)) :
  Calls Try.prog 93 #[.slice A0 list.length c0, .int .i64 from_1, .int .i64 minute] w (Gives ((PIntA10.IntA10.val r)) w) := by
 have HB := Lib.hid (Below.refl w.heap.size w); unfold P at H; have N0o := N0.out
 go_enter Try.func93, Try.ntmps93
 obtain ⟨k10, j10⟩ : ∃ x, w.alloc (.cells #[.int .i64 0, .int .i64 0, .int .i64 0, .int .i64 0, .int .i64 0, .int .i64 0, .int .i64 0, .int .i64 0, .int .i64 0, .int .i64 0] 78) = x := ⟨_, rfl⟩; have m15 : Below w.heap.size w k10 := (by rw [← j10]; exact (Below.refl _ _).alloc (Nat.le_refl _) _); have l16 := Lib.hid (Below.step HB.out m15); clear m15; have l11 : k10.cell? ⟨w.heap.size, 0, none⟩ = some (.int .i64 0) := (by rw [← j10]; exact box_new _ _ _ 0 _ rfl); have p12 : k10.cell? ⟨w.heap.size, 1, none⟩ = some (.int .i64 0) := (by rw [← j10]; exact box_new _ _ _ 1 _ rfl); have i12 : k10.cell? ⟨w.heap.size, 2, none⟩ = some (.int .i64 0) := (by rw [← j10]; exact box_new _ _ _ 2 _ rfl); have z11 : k10.cell? ⟨w.heap.size, 3, none⟩ = some (.int .i64 0) := (by rw [← j10]; exact box_new _ _ _ 3 _ rfl); have k12 : k10.cell? ⟨w.heap.size, 4, none⟩ = some (.int .i64 0) := (by rw [← j10]; exact box_new _ _ _ 4 _ rfl); have w11 : k10.cell? ⟨w.heap.size, 5, none⟩ = some (.int .i64 0) := (by rw [← j10]; exact box_new _ _ _ 5 _ rfl); have c12 : k10.cell? ⟨w.heap.size, 6, none⟩ = some (.int .i64 0) := (by rw [← j10]; exact box_new _ _ _ 6 _ rfl); have g12 : k10.cell? ⟨w.heap.size, 7, none⟩ = some (.int .i64 0) := (by rw [← j10]; exact box_new _ _ _ 7 _ rfl); have q12 : k10.cell? ⟨w.heap.size, 8, none⟩ = some (.int .i64 0) := (by rw [← j10]; exact box_new _ _ _ 8 _ rfl); have h12 : k10.cell? ⟨w.heap.size, 9, none⟩ = some (.int .i64 0) := (by rw [← j10]; exact box_new _ _ _ 9 _ rfl); have Ot_0 : Hid (k10.ownsRow w.heap.size 78 10 (.slice (some ⟨w.heap.size, 0, none⟩) 1 1) 1 [.int .i64 0, .int .i64 0, .int .i64 0, .int .i64 0, .int .i64 0, .int .i64 0, .int .i64 0, .int .i64 0, .int .i64 0, .int .i64 0]) := Lib.hid (by rw [← j10]; exact own_laid (n := 1) HB.out.size rfl rfl (by unfold maxLen; omega)); replace H := bind_hid H; obtain ⟨t_1, qt_1, H⟩ := H; obtain ⟨t12, j13, b13, g13, x12, a13, y12, z12, d13, c13⟩ := t_1; replace H := unIntA10_hid H; go_wp2_with fail; go_at_call 98; refine (GiFilledWith.C (10000)  _    qt_1).mono ?_; rintro x19 wt_1 ⟨rfl, bt_1⟩; unfold PIntA10.IntA10.val; have z13 := Lib.hid (Below.step l16.out bt_1); replace l11 := cell_below bt_1 l11; replace p12 := cell_below bt_1 p12; replace i12 := cell_below bt_1 i12; replace z11 := cell_below bt_1 z11; replace k12 := cell_below bt_1 k12; replace w11 := cell_below bt_1 w11; replace c12 := cell_below bt_1 c12; replace g12 := cell_below bt_1 g12; replace q12 := cell_below bt_1 q12; replace h12 := cell_below bt_1 h12; replace Ot_0 := Lib.hid (own_below Ot_0.out bt_1); clear bt_1; replace H := let_hid H; obtain ⟨f13, s12, H⟩ := H; obtain ⟨y11, b15⟩ : ∃ x, wt_1.alloc (.cells #[.int .i64 t12, .int .i64 j13, .int .i64 b13, .int .i64 g13, .int .i64 x12, .int .i64 a13, .int .i64 y12, .int .i64 z12, .int .i64 d13, .int .i64 c13] 78) = x := ⟨_, rfl⟩; have h10 : Below wt_1.heap.size wt_1 y11 := (by rw [← b15]; exact (Below.refl _ _).alloc (Nat.le_refl _) _); have h14 := z13.out.size; have s11 : f13.length = 10 := (by rw [← s12]; rfl)
 have r11 : Hid (y11.ownsRow w.heap.size 78 1 (.slice (some ⟨wt_1.heap.size, 0, none⟩) 10 10) 10 (HelpInt.iv f13)) := by
  rw [← b15, ← s12]; have e_ : ([.int .i64 t12, .int .i64 j13, .int .i64 b13, .int .i64 g13, .int .i64 x12, .int .i64 a13, .int .i64 y12, .int .i64 z12, .int .i64 d13, .int .i64 c13] : List Value) = HelpInt.iv [t12, j13, b13, g13, x12, a13, y12, z12, d13, c13] := rfl; exact Lib.hid (own_laid (n := 10) h14 e_ rfl (by unfold maxLen; omega))
 clear h14; have b19 := Lib.hid s12; clear s12; replace s11 := Lib.hid s11; have m10 := Lib.hid (apart_box l11); have l14 := Lib.hid (Below.step z13.out h10); have r13 := cell_below h10 l11; have i14 := cell_below h10 p12; have g14 := cell_below h10 i12; have y13 := cell_below h10 z11; have s13 := cell_below h10 k12; have a14 := cell_below h10 w11; have m14 := cell_below h10 c12; have q14 := cell_below h10 g12; have f15 := cell_below h10 q12; have k13 := cell_below h10 h12; replace Ot_0 := Lib.hid (own_below Ot_0.out h10); clear h10; replace H := idx_hid H; obtain ⟨nt_6, yt_6, et_6, lt_6, gt_6, H⟩ := H; subst et_6; have i16 := s11.out; obtain ⟨g19, m17, zt_6, At_6, t13, c15⟩ := HelpInt.Ints.at_ (own_cells r11.out) (k := nt_6) (by omega); obtain rfl := Option.some.inj (gt_6.out.symm.trans t13); simp only [Option.some.injEq, Addr.mk.injEq] at At_6; obtain ⟨rfl, rfl, _⟩ := At_6; clear t13; simp only [Nat.zero_add] at c15; have z17 : (0 : Int) ≤ (nt_6 : Int) := (by omega); have r18 : (nt_6 : Int) < ((10 : Nat) : Int) := (by omega); have i18 : ((nt_6 : Int)).toNat = nt_6 := (by omega); clear i16; have a19 : nt_6 < 10 := (by have h_ := lt_6; have hn_ := s11.out; omega); have s19 : (nt_6 : Int) < (10 : Int) := (by omega); replace H := let_hid H; obtain ⟨l7_7, n11, H⟩ := H
 try simp only [Int.toNat_natCast] at n11
 obtain ⟨b14, m13⟩ : ∃ x, (y11).setCell ⟨wt_1.heap.size, nt_6, none⟩ (.int .i64 minute) = x := ⟨_, rfl⟩; have x15 := r11.out.frozenAt (nt_6); have i13 := Lib.hid (own_stores [(nt_6, .int .i64 minute)] r11.out); have e16 : Hid (l7_7.length = 10) := Lib.hid (by rw [← n11, List.length_set]; exact s11.out); have y15 : Hid (b14.ownsRow w.heap.size 78 1 (.slice (some ⟨wt_1.heap.size, 0, none⟩) 10 10) 10 (HelpInt.iv l7_7)) := Lib.hid (by have e_ : ([(nt_6, .int .i64 minute)] : List (Nat × Value)).foldl (fun xs p => xs.set p.1 p.2) (HelpInt.iv f13) = (HelpInt.iv l7_7) := (by rw [← n11]; first | done | simp [HelpInt.iv, List.map_set]); rw [← m13, ← e_]; exact i13.out.1); have i10 : Hid (y11.grownBy b14 (Value.slice (some ⟨wt_1.heap.size, 0, none⟩) 10 10).ownBlock) := Lib.hid (by rw [← m13]; exact i13.out.2); have s16 := Lib.hid (l14.out.grown i10.out l14.out.size (fun q hq => (r11.out.lt q hq).1)); have n19 := Lib.hid n11; clear n11 i13; have q11 := cell_other r13 i10.out m10.out; have m12 := cell_other i14 i10.out m10.out; have e12 := cell_other g14 i10.out m10.out; have r12 := cell_other y13 i10.out m10.out; have b12 := cell_other s13 i10.out m10.out; have x11 := cell_other a14 i10.out m10.out; have l12 := cell_other m14 i10.out m10.out; have n12 := cell_other q14 i10.out m10.out; have f12 := cell_other f15 i10.out m10.out; have v11 := cell_other k13 i10.out m10.out; replace Ot_0 := Lib.hid (own_other Ot_0.out i10.out m10.out); clear r11 i10; go_wp2_with fail; clear l11 p12 i12 z11 k12 w11 c12 g12 q12 h12 x15 r13 i14 g14 y13 s13 a14 m14 q14 f15 k13 c15; go_wp2_with fail; go_loopg [16] (list.length) (fun m_ v16_ wr => ∃ (k0 : Nat) (a10 : (List Int)), k0 + m_ = list.length ∧ v16_ = .int .i64 (k0 : Int) ∧ Hid (cntK (l0 list) m_ k0 (a10) (e0 ) = some r) ∧ Hid (Below w.heap.size w wr) ∧ wr.cell? ⟨w.heap.size, 0, none⟩ = some (.int .i64 0) ∧ wr.cell? ⟨w.heap.size, 1, none⟩ = some (.int .i64 0) ∧ wr.cell? ⟨w.heap.size, 2, none⟩ = some (.int .i64 0) ∧ wr.cell? ⟨w.heap.size, 3, none⟩ = some (.int .i64 0) ∧ wr.cell? ⟨w.heap.size, 4, none⟩ = some (.int .i64 0) ∧ wr.cell? ⟨w.heap.size, 5, none⟩ = some (.int .i64 0) ∧ wr.cell? ⟨w.heap.size, 6, none⟩ = some (.int .i64 0) ∧ wr.cell? ⟨w.heap.size, 7, none⟩ = some (.int .i64 0) ∧ wr.cell? ⟨w.heap.size, 8, none⟩ = some (.int .i64 0) ∧ wr.cell? ⟨w.heap.size, 9, none⟩ = some (.int .i64 0) ∧ Hid (wr.ownsRow w.heap.size 78 10 (.slice (some ⟨w.heap.size, 0, none⟩) 1 1) 1 [.int .i64 0, .int .i64 0, .int .i64 0, .int .i64 0, .int .i64 0, .int .i64 0, .int .i64 0, .int .i64 0, .int .i64 0, .int .i64 0]) ∧ Hid (wr.ownsRow w.heap.size 78 1 (.slice (some ⟨wt_1.heap.size, 0, none⟩) 10 10) 10 (HelpInt.iv a10)) ∧ Hid (a10.length = 10) ∧ Hid (Apart (some ⟨wt_1.heap.size, 0, none⟩) (some ⟨w.heap.size, 0, none⟩)))
 case atStart => exact ⟨0, _, by omega, rfl, H, s16, q11, m12, e12, r12, b12, x11, l12, n12, f12, v11, Ot_0, y15, Lib.hid (e16.out), Lib.hid m10.out⟩
 case round =>
  obtain ⟨k0, a10, hkm0, rfl, H, j11, q11, m12, e12, r12, b12, x11, l12, n12, f12, v11, Ot_0, b10, e10, f10⟩ := hrel; rename World => wr0
  cases gk with
  | zero =>
   obtain rfl : k0 = list.length := (by omega); have hc0 : decide (((list.length : Nat) : Int) < ((list.length : Nat) : Int)) = false := (by simp); replace H := cnt_zero H; unfold e0 at H; replace H := let_hid H; obtain ⟨_, rfl, H⟩ := H; have a18 : wr0.cell? ⟨wt_1.heap.size, 0, none⟩ = some (.int .i64 (GoA.nth a10 0)) := GoA.row_at b10.out e10.out 0 (by omega); have c19 : wr0.cell? ⟨wt_1.heap.size, 1, none⟩ = some (.int .i64 (GoA.nth a10 1)) := GoA.row_at b10.out e10.out 1 (by omega); have f18 : wr0.cell? ⟨wt_1.heap.size, 2, none⟩ = some (.int .i64 (GoA.nth a10 2)) := GoA.row_at b10.out e10.out 2 (by omega); have b20 : wr0.cell? ⟨wt_1.heap.size, 3, none⟩ = some (.int .i64 (GoA.nth a10 3)) := GoA.row_at b10.out e10.out 3 (by omega); have x18 : wr0.cell? ⟨wt_1.heap.size, 4, none⟩ = some (.int .i64 (GoA.nth a10 4)) := GoA.row_at b10.out e10.out 4 (by omega); have z19 : wr0.cell? ⟨wt_1.heap.size, 5, none⟩ = some (.int .i64 (GoA.nth a10 5)) := GoA.row_at b10.out e10.out 5 (by omega); have l17 : wr0.cell? ⟨wt_1.heap.size, 6, none⟩ = some (.int .i64 (GoA.nth a10 6)) := GoA.row_at b10.out e10.out 6 (by omega); have y18 : wr0.cell? ⟨wt_1.heap.size, 7, none⟩ = some (.int .i64 (GoA.nth a10 7)) := GoA.row_at b10.out e10.out 7 (by omega); have c20 : wr0.cell? ⟨wt_1.heap.size, 8, none⟩ = some (.int .i64 (GoA.nth a10 8)) := GoA.row_at b10.out e10.out 8 (by omega); have t17 : wr0.cell? ⟨wt_1.heap.size, 9, none⟩ = some (.int .i64 (GoA.nth a10 9)) := GoA.row_at b10.out e10.out 9 (by omega); obtain ⟨l10, c14⟩ : ∃ x, ((((((((((wr0).setCell ⟨w.heap.size, 0, none⟩ (.int .i64 (GoA.nth a10 0))).setCell ⟨w.heap.size, 1, none⟩ (.int .i64 (GoA.nth a10 1))).setCell ⟨w.heap.size, 2, none⟩ (.int .i64 (GoA.nth a10 2))).setCell ⟨w.heap.size, 3, none⟩ (.int .i64 (GoA.nth a10 3))).setCell ⟨w.heap.size, 4, none⟩ (.int .i64 (GoA.nth a10 4))).setCell ⟨w.heap.size, 5, none⟩ (.int .i64 (GoA.nth a10 5))).setCell ⟨w.heap.size, 6, none⟩ (.int .i64 (GoA.nth a10 6))).setCell ⟨w.heap.size, 7, none⟩ (.int .i64 (GoA.nth a10 7))).setCell ⟨w.heap.size, 8, none⟩ (.int .i64 (GoA.nth a10 8))).setCell ⟨w.heap.size, 9, none⟩ (.int .i64 (GoA.nth a10 9)) = x := ⟨_, rfl⟩; have k18 := Ot_0.out.frozenAt 0; have o19 := Ot_0.out.frozenAt 1; have v17 := Ot_0.out.frozenAt 2; have n17 := Ot_0.out.frozenAt 3; have v19 := Ot_0.out.frozenAt 4; have p19 := Ot_0.out.frozenAt 5; have x17 := Ot_0.out.frozenAt 6; have w17 := Ot_0.out.frozenAt 7; have j18 := Ot_0.out.frozenAt 8; have k19 := Ot_0.out.frozenAt 9; have v12 := Lib.hid (own_stores [(0, .int .i64 (GoA.nth a10 0)), (1, .int .i64 (GoA.nth a10 1)), (2, .int .i64 (GoA.nth a10 2)), (3, .int .i64 (GoA.nth a10 3)), (4, .int .i64 (GoA.nth a10 4)), (5, .int .i64 (GoA.nth a10 5)), (6, .int .i64 (GoA.nth a10 6)), (7, .int .i64 (GoA.nth a10 7)), (8, .int .i64 (GoA.nth a10 8)), (9, .int .i64 (GoA.nth a10 9))] Ot_0.out); have c11 : Hid (l10.ownsRow w.heap.size 78 10 (.slice (some ⟨w.heap.size, 0, none⟩) 1 1) 1 [.int .i64 (GoA.nth a10 0), .int .i64 (GoA.nth a10 1), .int .i64 (GoA.nth a10 2), .int .i64 (GoA.nth a10 3), .int .i64 (GoA.nth a10 4), .int .i64 (GoA.nth a10 5), .int .i64 (GoA.nth a10 6), .int .i64 (GoA.nth a10 7), .int .i64 (GoA.nth a10 8), .int .i64 (GoA.nth a10 9)]) := Lib.hid (by rw [← c14]; exact v12.out.1); have h13 : Hid (wr0.grownBy l10 (Value.slice (some ⟨w.heap.size, 0, none⟩) 1 1).ownBlock) := Lib.hid (by rw [← c14]; exact v12.out.2); have y16 := Lib.hid (j11.out.grown h13.out j11.out.size (fun q hq => (Ot_0.out.lt q hq).1)); clear v12; replace b10 := Lib.hid (own_other b10.out h13.out (Apart.symm f10.out)); clear Ot_0 h13; have t15 : l10.cell? ⟨w.heap.size, 0, none⟩ = some (.int .i64 (GoA.nth a10 0)) := c11.out.cells rfl 0 _ rfl; have w15 : l10.cell? ⟨w.heap.size, 1, none⟩ = some (.int .i64 (GoA.nth a10 1)) := c11.out.cells rfl 1 _ rfl; have v16 : l10.cell? ⟨w.heap.size, 2, none⟩ = some (.int .i64 (GoA.nth a10 2)) := c11.out.cells rfl 2 _ rfl
   have z15 : l10.cell? ⟨w.heap.size, 3, none⟩ = some (.int .i64 (GoA.nth a10 3)) := c11.out.cells rfl 3 _ rfl; have t16 : l10.cell? ⟨w.heap.size, 4, none⟩ = some (.int .i64 (GoA.nth a10 4)) := c11.out.cells rfl 4 _ rfl; have a17 : l10.cell? ⟨w.heap.size, 5, none⟩ = some (.int .i64 (GoA.nth a10 5)) := c11.out.cells rfl 5 _ rfl; have p16 : l10.cell? ⟨w.heap.size, 6, none⟩ = some (.int .i64 (GoA.nth a10 6)) := c11.out.cells rfl 6 _ rfl; have w16 : l10.cell? ⟨w.heap.size, 7, none⟩ = some (.int .i64 (GoA.nth a10 7)) := c11.out.cells rfl 7 _ rfl; have s15 : l10.cell? ⟨w.heap.size, 8, none⟩ = some (.int .i64 (GoA.nth a10 8)) := c11.out.cells rfl 8 _ rfl; have q16 : l10.cell? ⟨w.heap.size, 9, none⟩ = some (.int .i64 (GoA.nth a10 9)) := c11.out.cells rfl 9 _ rfl; cases ret_hid H; go_wp2_with fail
   (try simp only [Exit.inBlock, Exit.then])
   refine bodyPost_ret (v := .agg #[.int .i64 (GoA.nth a10 0), .int .i64 (GoA.nth a10 1), .int .i64 (GoA.nth a10 2), .int .i64 (GoA.nth a10 3), .int .i64 (GoA.nth a10 4), .int .i64 (GoA.nth a10 5), .int .i64 (GoA.nth a10 6), .int .i64 (GoA.nth a10 7), .int .i64 (GoA.nth a10 8), .int .i64 (GoA.nth a10 9)]) ?hr_ ?hd_ ?_
   case hd_ => rfl
   case hr_ => simp [results, Try.results93, t15, w15, v16, z15, t16, a17, p16, w16, s15, q16, go_sem]
   exact ⟨rfl, y16.out⟩
  | succ m0 =>
   have hlt0 : k0 < list.length := (by omega); have hc0 : decide ((k0 : Int) < ((list.length : Nat) : Int)) = true := (by simp; omega); replace H := cnt_succ H; unfold l0 at H; replace H := let_hid H; obtain ⟨_, rfl, H⟩ := H; replace H := idx_hid H; obtain ⟨m16, a16, n16, o16, d17, H⟩ := H; obtain rfl : k0 = m16 := (by omega); clear n16; obtain ⟨y14, z14, r14, w13⟩ := a16; replace H := unMail_hid H; obtain ⟨o18, f19, l19, v15, t14, k11, o12, j12, t11⟩ := OMail.at_ M0.out o16; obtain rfl := Option.some.inj (d17.out.symm.trans t14); subst v15; have d12 := cell_lt k11; replace k11 := cell_below j11.out k11; replace o12 := cell_below j11.out o12; replace j12 := cell_below j11.out j12; replace t11 := cell_below j11.out t11; clear t14; have l18 : (0 : Int) ≤ (k0 : Int) := (by omega); have d20 : (k0 : Int) < ((list.length : Nat) : Int) := (by omega); have m18 : ((k0 : Int)).toNat = k0 := (by omega); obtain ⟨p11, m11⟩ : ∃ x, wr0.alloc (.cells #[.int .i64 y14, .int .i64 z14, .int .i64 r14, .int .i64 w13] 77) = x := ⟨_, rfl⟩; have d10 : Below wr0.heap.size wr0 p11 := (by rw [← m11]; exact (Below.refl _ _).alloc (Nat.le_refl _) _); have a12 := Lib.hid (apart_fresh b10.out); have y17 := Lib.hid (apart_box q11); have k16 := Lib.hid (Below.step j11.out d10); have p10 := cell_below d10 q11; have r10 := cell_below d10 m12; have s10 := cell_below d10 e12; have o10 := cell_below d10 r12; have q10 := cell_below d10 b12; have t10 := cell_below d10 x11; have w10 := cell_below d10 l12; have v10 := cell_below d10 n12; have x10 := cell_below d10 f12; have n10 := cell_below d10 v11; have f11 := cell_below d10 k11; have z10 := cell_below d10 o12; have y10 := cell_below d10 j12; have a11 := cell_below d10 t11; replace b10 := Lib.hid (own_below b10.out d10); replace Ot_0 := Lib.hid (own_below Ot_0.out d10); clear d10; have b11 : p11.cell? ⟨wr0.heap.size, 0, none⟩ = some (.int .i64 y14) := (by rw [← m11]; exact box_new _ _ _ 0 _ rfl); have g11 : p11.cell? ⟨wr0.heap.size, 1, none⟩ = some (.int .i64 z14) := (by rw [← m11]; exact box_new _ _ _ 1 _ rfl); have h11 : p11.cell? ⟨wr0.heap.size, 2, none⟩ = some (.int .i64 r14) := (by rw [← m11]; exact box_new _ _ _ 2 _ rfl); have d11 : p11.cell? ⟨wr0.heap.size, 3, none⟩ = some (.int .i64 w13) := (by rw [← m11]; exact box_new _ _ _ 3 _ rfl); go_wp2_with fail; clear q11 m12 e12 r12 b12 x11 l12 n12 f12 v11 k11 o12 j12 t11; have v14 := Lib.hid p10; replace p10 := cell_regrown p10; have n14 := Lib.hid r10; replace r10 := cell_regrown r10; have p13 := Lib.hid s10; replace s10 := cell_regrown s10; have w14 := Lib.hid o10; replace o10 := cell_regrown o10; have a15 := Lib.hid q10; replace q10 := cell_regrown q10; have e14 := Lib.hid t10; replace t10 := cell_regrown t10; have j14 := Lib.hid w10; replace w10 := cell_regrown w10; have e15 := Lib.hid v10; replace v10 := cell_regrown v10; have j15 := Lib.hid x10; replace x10 := cell_regrown x10; have f14 := Lib.hid n10; replace n10 := cell_regrown n10; have x14 := Lib.hid f11; replace f11 := cell_regrown f11; have g15 := Lib.hid z10; replace z10 := cell_regrown z10; have k15 := Lib.hid y10; replace y10 := cell_regrown y10; have n13 := Lib.hid a11; replace a11 := cell_regrown a11; have i15 := Lib.hid b11; replace b11 := cell_regrown b11; have o13 := Lib.hid g11; replace g11 := cell_regrown g11; have h15 := Lib.hid h11; replace h11 := cell_regrown h11; have p14 := Lib.hid d11; replace d11 := cell_regrown d11; replace H := idx_hid H; obtain ⟨i11, b18, g16, j16, g17, H⟩ := H; subst g16; have j17 := e10.out; obtain ⟨a20, c18, r19, d14, s14, e11⟩ := HelpInt.Ints.at_ (own_cells b10.out) (k := i11) (by omega); obtain rfl := Option.some.inj (g17.out.symm.trans s14); simp only [Option.some.injEq, Addr.mk.injEq] at d14; obtain ⟨rfl, rfl, _⟩ := d14; clear s14; simp only [Nat.zero_add] at e11; have t19 : (0 : Int) ≤ (i11 : Int) := (by omega); have y19 : (i11 : Int) < ((10 : Nat) : Int) := (by omega); have h18 : ((i11 : Int)).toNat = i11 := (by omega)
   clear j17; have l13 := Lib.hid e11; replace e11 := cell_regrown e11; have n18 : i11 < 10 := (by have h_ := j16; have hn_ := e10.out; omega); have p18 : (i11 : Int) < (10 : Int) := (by omega); replace H := let_hid H; obtain ⟨t_22, r17, H⟩ := H; refine wp_region_quiet_below (by kernel_rfl) (by kernel_rfl) ?_
   repeat (go_big_quiet_step (fail))
   refine wpQuiet_nil ?_; intro Y6 hY6; replace hY6 := below_class hY6; replace p10 := v14.out; clear v14; replace r10 := n14.out; clear n14; replace s10 := p13.out; clear p13; replace o10 := w14.out; clear w14; replace q10 := a15.out; clear a15; replace t10 := e14.out; clear e14; replace w10 := j14.out; clear j14; replace v10 := e15.out; clear e15; replace x10 := j15.out; clear j15; replace n10 := f14.out; clear f14; replace f11 := x14.out; clear x14; replace z10 := g15.out; clear g15; replace y10 := k15.out; clear k15; replace a11 := n13.out; clear n13; replace b11 := i15.out; clear i15; replace g11 := o13.out; clear o13; replace h11 := h15.out; clear h15; replace d11 := p14.out; clear p14; replace e11 := l13.out; clear l13; have HBY6 := Lib.hid (Below.step k16.out hY6); replace p10 := cell_below hY6 p10; replace r10 := cell_below hY6 r10; replace s10 := cell_below hY6 s10; replace o10 := cell_below hY6 o10; replace q10 := cell_below hY6 q10; replace t10 := cell_below hY6 t10; replace w10 := cell_below hY6 w10; replace v10 := cell_below hY6 v10; replace x10 := cell_below hY6 x10; replace n10 := cell_below hY6 n10; replace f11 := cell_below hY6 f11; replace z10 := cell_below hY6 z10; replace y10 := cell_below hY6 y10; replace a11 := cell_below hY6 a11; replace b11 := cell_below hY6 b11; replace g11 := cell_below hY6 g11; replace h11 := cell_below hY6 h11; replace d11 := cell_below hY6 d11; replace e11 := cell_below hY6 e11; replace b10 := Lib.hid (own_below b10.out hY6); replace Ot_0 := Lib.hid (own_below Ot_0.out hY6); clear hY6
   cases t_22 with
   | false =>
    replace H := ite_f H; replace H := app_hid H; go_wp2_with fail
    go_roundg m0
    case measure => omega
    case rel => exact ⟨k0 + 1, _, by omega, by go_num, H, HBY6, p10, r10, s10, o10, q10, t10, w10, v10, x10, n10, Ot_0, b10, Lib.hid (e10.out), Lib.hid f10.out⟩
   | true =>
    replace H := ite_t H; go_wp2_with fail; obtain ⟨Z7, hZ7⟩ : ∃ x, Y6.drew = x := ⟨_, rfl⟩; have bd7 : Below Y6.heap.size Y6 Z7 := (by rw [← hZ7]; exact (Below.refl _ _).drew); have HBZ7 := Lib.hid (Below.step HBY6.out bd7); replace p10 := cell_below bd7 p10; replace r10 := cell_below bd7 r10; replace s10 := cell_below bd7 s10; replace o10 := cell_below bd7 o10; replace q10 := cell_below bd7 q10; replace t10 := cell_below bd7 t10; replace w10 := cell_below bd7 w10; replace v10 := cell_below bd7 v10; replace x10 := cell_below bd7 x10; replace n10 := cell_below bd7 n10; replace f11 := cell_below bd7 f11; replace z10 := cell_below bd7 z10; replace y10 := cell_below bd7 y10; replace a11 := cell_below bd7 a11; replace b11 := cell_below bd7 b11; replace g11 := cell_below bd7 g11; replace h11 := cell_below bd7 h11; replace d11 := cell_below bd7 d11; replace e11 := cell_below bd7 e11; replace b10 := Lib.hid (own_below b10.out bd7); replace Ot_0 := Lib.hid (own_below Ot_0.out bd7); clear bd7; replace H := idx_hid H; obtain ⟨g10, e20, f17, n15, k14, H⟩ := H; subst f17; have h16 := e10.out; obtain ⟨o17, e19, s18, x13, v13, q13⟩ := HelpInt.Ints.at_ (own_cells b10.out) (k := g10) (by omega); obtain rfl := Option.some.inj (k14.out.symm.trans v13); simp only [Option.some.injEq, Addr.mk.injEq] at x13; obtain ⟨rfl, rfl, _⟩ := x13; clear v13; simp only [Nat.zero_add] at q13; have w19 : (0 : Int) ≤ (g10 : Int) := (by omega); have w18 : (g10 : Int) < ((10 : Nat) : Int) := (by omega); have h19 : ((g10 : Int)).toNat = g10 := (by omega); clear h16; have d18 : g10 < 10 := (by have h_ := n15; have hn_ := e10.out; omega); have d19 : (g10 : Int) < (10 : Int) := (by omega); replace H := let_hid H; obtain ⟨t_31, e18, H⟩ := H; replace H := idx_hid H; obtain ⟨p15, z18, b16, f16, l15, H⟩ := H; obtain rfl : g10 = p15 := (by omega); clear b16; obtain rfl := Option.some.inj (k14.out.symm.trans l15.out); clear l15 f16; have q17 : g10 < 10 := (by have h_ := n15; have hn_ := e10.out; omega); have v18 : (g10 : Int) < (10 : Int) := (by omega); refine wp_region_still_tail 10 (by kernel_rfl) (by kernel_rfl) ?_; simp only [List.take_succ_cons, List.take_zero, List.drop_succ_cons, List.drop_zero]; change wpStill _ _ Y6.drew _ _ _; rw [hZ7]
    repeat still_step
    refine wpStill_nil ?_; change wpList _ _ _ _ _ Y6.drew; rw [hZ7]; clear hZ7; replace H := let_hid H; obtain ⟨w12, o11, H⟩ := H
    try simp only [Int.toNat_natCast] at o11
    obtain ⟨d15, o14⟩ : ∃ x, (Z7).setCell ⟨wt_1.heap.size, g10, none⟩ (.int .i64 t_31) = x := ⟨_, rfl⟩; have x16 := b10.out.frozenAt (g10); have e13 := Lib.hid (own_stores [(g10, .int .i64 t_31)] b10.out); have k17 : Hid (w12.length = 10) := Lib.hid (by rw [← o11, List.length_set]; exact e10.out); have o15 : Hid (d15.ownsRow w.heap.size 78 1 (.slice (some ⟨wt_1.heap.size, 0, none⟩) 10 10) 10 (HelpInt.iv w12)) := Lib.hid (by have e_ : ([(g10, .int .i64 t_31)] : List (Nat × Value)).foldl (fun xs p => xs.set p.1 p.2) (HelpInt.iv a10) = (HelpInt.iv w12) := (by rw [← o11]; first | done | simp [HelpInt.iv, List.map_set]); rw [← o14, ← e_]; exact e13.out.1); have c10 : Hid (Z7.grownBy d15 (Value.slice (some ⟨wt_1.heap.size, 0, none⟩) 10 10).ownBlock) := Lib.hid (by rw [← o14]; exact e13.out.2); have b17 := Lib.hid (HBZ7.out.grown c10.out HBZ7.out.size (fun q hq => (b10.out.lt q hq).1)); have j19 := Lib.hid o11; clear o11 e13; have e17 := cell_other p10 c10.out f10.out; have c16 := cell_other r10 c10.out f10.out; have r16 := cell_other s10 c10.out f10.out; have h17 := cell_other o10 c10.out f10.out; have c17 := cell_other q10 c10.out f10.out; have d16 := cell_other t10 c10.out f10.out; have z16 := cell_other w10 c10.out f10.out; have r15 := cell_other v10 c10.out f10.out; have i17 := cell_other x10 c10.out f10.out; have q15 := cell_other n10 c10.out f10.out; have s17 := cell_other f11 c10.out (apart_old b10.out d12); have q19 := cell_other z10 c10.out (apart_old b10.out d12); have q18 := cell_other y10 c10.out (apart_old b10.out d12); have i19 := cell_other a11 c10.out (apart_old b10.out d12); have m19 := cell_other b11 c10.out (Apart.symm a12.out); have p17 := cell_other g11 c10.out (Apart.symm a12.out); have t18 := cell_other h11 c10.out (Apart.symm a12.out); have g18 := cell_other d11 c10.out (Apart.symm a12.out); replace Ot_0 := Lib.hid (own_other Ot_0.out c10.out f10.out); clear b10 c10; replace H := app_hid H; go_wp2_with fail; clear x16 p10 r10 s10 o10 q10 t10 w10 v10 x10 n10 f11 z10 y10 a11 b11 g11 h11 d11 e11 q13
    go_roundg m0
    case measure => omega
    case rel => exact ⟨k0 + 1, _, by omega, by go_num, H, b17, e17, c16, r16, h17, c17, d16, z16, r15, i17, q15, Ot_0, o15, Lib.hid (k17.out), Lib.hid f10.out⟩
end Go.Proofs.Ytgbcdmlcmnaimaa.GiEarliestMinutes

namespace Go.Proofs.Ytgbcdmlcmnaimaa.GiEarliestEnd
open Go.RowKit
open Go.Proofs.Ytgbcdmlcmnaimaa.Rowed Go.Proofs.Ytgbcdmlcmnaimaa.Turn Go.Proofs.Ytgbcdmlcmnaimaa.Aid Go.Proofs.Ytgbcdmlcmnaimaa.GoP Go.Proofs.Ytgbcdmlcmnaimaa.GoM

def P (mails : (List PMail.Mail)) (x : PCover.Cover) : Option (Int) :=
 unCover x fun (x_id : Int) (x_day : Int) (x_zone : Int) (x_grams : Int) (x_paid : Int) (x_from_ : Int) (x_to_ : Int) (x_leave : Int) (x_arrive : Int) =>
 Option.bind (GiEarliestMinutes.P mails x_from_ x_leave) fun (t_7 : PIntA10.IntA10) =>
 unIntA10 t_7 fun (t_7_x0 : Int) (t_7_x1 : Int) (t_7_x2 : Int) (t_7_x3 : Int) (t_7_x4 : Int) (t_7_x5 : Int) (t_7_x6 : Int) (t_7_x7 : Int) (t_7_x8 : Int) (t_7_x9 : Int) =>
 Option.bind (idx [t_7_x0, t_7_x1, t_7_x2, t_7_x3, t_7_x4, t_7_x5, t_7_x6, t_7_x7, t_7_x8, t_7_x9] x_to_) fun (yt_10 : Int) =>
 some yt_10

set_option maxRecDepth 100000 in
set_option maxHeartbeats 2000000 in
theorem C (mails : (List PMail.Mail)) (x : PCover.Cover) (A0 : Option Addr) (c0 : Nat)  (w : World) (M0 : Hid (Cells w 4 A0 mails.length (PMail.flat mails))) (N0 : Hid (mails.length ≤ 9223372036854775807))  {r : Int} (H : Hid (P mails x = some r)) :
  Calls Try.prog 48 #[.slice A0 mails.length c0, x.val] w (Gives (.int .i64 r) w) := by
 have HB := Lib.hid (Below.refl w.heap.size w); unfold P at H; obtain ⟨x_id, x_day, x_zone, x_grams, x_paid, x_from_, x_to_, x_leave, x_arrive⟩ := x; replace H := unCover_hid H; unfold PCover.Cover.val; have N0o := N0.out
 go_enter Try.func48, Try.ntmps48
 obtain ⟨a10, b10⟩ : ∃ x, w.alloc (.cells #[.int .i64 x_id, .int .i64 x_day, .int .i64 x_zone, .int .i64 x_grams, .int .i64 x_paid, .int .i64 x_from_, .int .i64 x_to_, .int .i64 x_leave, .int .i64 x_arrive] 27) = x := ⟨_, rfl⟩; have m10 : Below w.heap.size w a10 := (by rw [← b10]; exact (Below.refl _ _).alloc (Nat.le_refl _) _); have a11 := Lib.hid (Below.step HB.out m10); clear m10; have h10 : a10.cell? ⟨w.heap.size, 0, none⟩ = some (.int .i64 x_id) := (by rw [← b10]; exact box_new _ _ _ 0 _ rfl); have f10 : a10.cell? ⟨w.heap.size, 1, none⟩ = some (.int .i64 x_day) := (by rw [← b10]; exact box_new _ _ _ 1 _ rfl); have c10 : a10.cell? ⟨w.heap.size, 2, none⟩ = some (.int .i64 x_zone) := (by rw [← b10]; exact box_new _ _ _ 2 _ rfl); have i10 : a10.cell? ⟨w.heap.size, 3, none⟩ = some (.int .i64 x_grams) := (by rw [← b10]; exact box_new _ _ _ 3 _ rfl); have d10 : a10.cell? ⟨w.heap.size, 4, none⟩ = some (.int .i64 x_paid) := (by rw [← b10]; exact box_new _ _ _ 4 _ rfl); have g10 : a10.cell? ⟨w.heap.size, 5, none⟩ = some (.int .i64 x_from_) := (by rw [← b10]; exact box_new _ _ _ 5 _ rfl); have e10 : a10.cell? ⟨w.heap.size, 6, none⟩ = some (.int .i64 x_to_) := (by rw [← b10]; exact box_new _ _ _ 6 _ rfl); have k10 : a10.cell? ⟨w.heap.size, 7, none⟩ = some (.int .i64 x_leave) := (by rw [← b10]; exact box_new _ _ _ 7 _ rfl); have j10 : a10.cell? ⟨w.heap.size, 8, none⟩ = some (.int .i64 x_arrive) := (by rw [← b10]; exact box_new _ _ _ 8 _ rfl); go_wp2_with fail; have q10 := Lib.hid h10; replace h10 := cell_regrown h10; have z10 := Lib.hid f10; replace f10 := cell_regrown f10; have s10 := Lib.hid c10; replace c10 := cell_regrown c10; have g11 := Lib.hid i10; replace i10 := cell_regrown i10; have x10 := Lib.hid d10; replace d10 := cell_regrown d10; have n10 := Lib.hid g10; replace g10 := cell_regrown g10; have o10 := Lib.hid e10; replace e10 := cell_regrown e10; have t10 := Lib.hid k10; replace k10 := cell_regrown k10; have e11 := Lib.hid j10; replace j10 := cell_regrown j10; replace H := bind_hid H; obtain ⟨t_7, qt_7, H⟩ := H; obtain ⟨r10, l10, p10, v10, w10, h11, i11, f11, d11, b11⟩ := t_7; replace H := unIntA10_hid H; have nt_7 : ∀ d os, Calls Try.prog 93 #[.slice A0 mails.length c0, .int .i64 x_from_, .int .i64 x_leave] (Go.Sort.grow (redrawn a10 d) os) fun e w'' => e = .returned (.agg #[.int .i64 r10, .int .i64 l10, .int .i64 p10, .int .i64 v10, .int .i64 w10, .int .i64 h11, .int .i64 i11, .int .i64 f11, .int .i64 d11, .int .i64 b11]) ∧ ∃ p : Regrown, w'' = Go.Sort.grow (redrawn a10 p.d) p.os := fun d os => Calls.regrown_of (GiEarliestMinutes.C (mails) (x_from_) (x_leave) A0 c0 _   (Lib.hid (Cells.below (Cells.below M0.out a11.out) (below_regrown _ _ _))) N0 qt_7); replace H := idx_hid H; obtain ⟨y10, l11, j11, k11, c11, H⟩ := H; subst j11
 have m11 : ∀ w, (Instr.index 78 (.agg #[.int .i64 r10, .int .i64 l10, .int .i64 p10, .int .i64 v10, .int .i64 w10, .int .i64 h11, .int .i64 i11, .int .i64 f11, .int .i64 d11, .int .i64 b11]) (.int .i64 (y10 : Int))).run Try.prog w = .ok (.int .i64 l11) w := by
  intro w; have hl := k11; have hg := c11.out; clear c11 H
  rcases y10 with _ | _ | _ | _ | _ | _ | _ | _ | _ | _ | _
  ·
   obtain rfl := Option.some.inj hg; rfl
  ·
   obtain rfl := Option.some.inj hg; rfl
  ·
   obtain rfl := Option.some.inj hg; rfl
  ·
   obtain rfl := Option.some.inj hg; rfl
  ·
   obtain rfl := Option.some.inj hg; rfl
  ·
   obtain rfl := Option.some.inj hg; rfl
  ·
   obtain rfl := Option.some.inj hg; rfl
  ·
   obtain rfl := Option.some.inj hg; rfl
  ·
   obtain rfl := Option.some.inj hg; rfl
  ·
   obtain rfl := Option.some.inj hg; rfl
  ·
   simp at hl; omega
 refine wp_region_quiet_below (by kernel_rfl) (by kernel_rfl) ?_
 repeat (go_big_quiet_step (first | (go_at_call 93; exact nt_7 _ _)))
 refine wpQuiet_nil ?_; intro Y1 hY1; replace hY1 := below_class hY1; clear nt_7; replace h10 := q10.out; clear q10; replace f10 := z10.out; clear z10; replace c10 := s10.out; clear s10; replace i10 := g11.out; clear g11; replace d10 := x10.out; clear x10; replace g10 := n10.out; clear n10; replace e10 := o10.out; clear o10; replace k10 := t10.out; clear t10; replace j10 := e11.out; clear e11; have HBY1 := Lib.hid (Below.step a11.out hY1); replace h10 := cell_below hY1 h10; replace f10 := cell_below hY1 f10; replace c10 := cell_below hY1 c10; replace i10 := cell_below hY1 i10; replace d10 := cell_below hY1 d10; replace g10 := cell_below hY1 g10; replace e10 := cell_below hY1 e10; replace k10 := cell_below hY1 k10; replace j10 := cell_below hY1 j10; clear hY1; obtain rfl := ret_hid H; go_wp2_with fail; go_ret; exact ⟨rfl, HBY1.out⟩
end Go.Proofs.Ytgbcdmlcmnaimaa.GiEarliestEnd

namespace Go.Proofs.Ytgbcdmlcmnaimaa.GiFaultOn
open Go.RowKit
open Go.Proofs.Ytgbcdmlcmnaimaa.Rowed Go.Proofs.Ytgbcdmlcmnaimaa.Turn Go.Proofs.Ytgbcdmlcmnaimaa.Aid Go.Proofs.Ytgbcdmlcmnaimaa.GoP Go.Proofs.Ytgbcdmlcmnaimaa.GoM

def P (rates : (List PRate.Rate)) (mails : (List PMail.Mail)) (x : PCover.Cover) : Option (Int) :=
 unCover x fun (x_id : Int) (x_day : Int) (x_zone : Int) (x_grams : Int) (x_paid : Int) (x_from_ : Int) (x_to_ : Int) (x_leave : Int) (x_arrive : Int) =>
 Option.bind (GiRateOfCover.P rates (PCover.Cover.mk x_id x_day x_zone x_grams x_paid x_from_ x_to_ x_leave x_arrive)) fun (t_4 : Int) =>
 Option.bind (GiEarliestEnd.P mails (PCover.Cover.mk x_id x_day x_zone x_grams x_paid x_from_ x_to_ x_leave x_arrive)) fun (t_7 : Int) =>
 letK (t_4 == 0) fun (t_11 : Bool) =>
 iteK t_11
 (some 1)
 (letK (decide (x_paid < t_4)) fun (t_17 : Bool) =>
 iteK t_17
 (some 2)
 (letK (IntKind.i64.wrap (2 * t_4)) fun (t_23 : Int) =>
 letK (decide (t_23 < x_paid)) fun (t_24 : Bool) =>
 iteK t_24
 (some 3)
 (letK (t_7 == 10000) fun (t_28 : Bool) =>
 iteK t_28
 (some 4)
 (letK (decide (x_arrive < t_7)) fun (t_34 : Bool) =>
 iteK t_34
 (some 5)
 (some 0)))))

set_option maxRecDepth 100000 in
set_option maxHeartbeats 2000000 in
theorem C (rates : (List PRate.Rate)) (mails : (List PMail.Mail)) (x : PCover.Cover) (A0 : Option Addr) (c0 : Nat) (A1 : Option Addr) (c1 : Nat)  (w : World) (M0 : Hid (Cells w 5 A0 rates.length (PRate.flat rates))) (N0 : Hid (rates.length ≤ 9223372036854775807)) (M1 : Hid (Cells w 4 A1 mails.length (PMail.flat mails))) (N1 : Hid (mails.length ≤ 9223372036854775807))  {r : Int} (H : Hid (P rates mails x = some r)) :
  Calls Try.prog 38 #[.slice A0 rates.length c0, .slice A1 mails.length c1, x.val] w (Gives (.int .i64 r) w) := by
 have HB := Lib.hid (Below.refl w.heap.size w); unfold P at H; obtain ⟨x_id, x_day, x_zone, x_grams, x_paid, x_from_, x_to_, x_leave, x_arrive⟩ := x; replace H := unCover_hid H; unfold PCover.Cover.val; have N0o := N0.out; have N1o := N1.out
 go_enter Try.func38, Try.ntmps38
 obtain ⟨a10, b10⟩ : ∃ x, w.alloc (.cells #[.int .i64 x_id, .int .i64 x_day, .int .i64 x_zone, .int .i64 x_grams, .int .i64 x_paid, .int .i64 x_from_, .int .i64 x_to_, .int .i64 x_leave, .int .i64 x_arrive] 27) = x := ⟨_, rfl⟩; have m10 : Below w.heap.size w a10 := (by rw [← b10]; exact (Below.refl _ _).alloc (Nat.le_refl _) _); have l10 := Lib.hid (Below.step HB.out m10); clear m10; have e10 : a10.cell? ⟨w.heap.size, 0, none⟩ = some (.int .i64 x_id) := (by rw [← b10]; exact box_new _ _ _ 0 _ rfl); have g10 : a10.cell? ⟨w.heap.size, 1, none⟩ = some (.int .i64 x_day) := (by rw [← b10]; exact box_new _ _ _ 1 _ rfl); have f10 : a10.cell? ⟨w.heap.size, 2, none⟩ = some (.int .i64 x_zone) := (by rw [← b10]; exact box_new _ _ _ 2 _ rfl); have h10 : a10.cell? ⟨w.heap.size, 3, none⟩ = some (.int .i64 x_grams) := (by rw [← b10]; exact box_new _ _ _ 3 _ rfl); have j10 : a10.cell? ⟨w.heap.size, 4, none⟩ = some (.int .i64 x_paid) := (by rw [← b10]; exact box_new _ _ _ 4 _ rfl); have d10 : a10.cell? ⟨w.heap.size, 5, none⟩ = some (.int .i64 x_from_) := (by rw [← b10]; exact box_new _ _ _ 5 _ rfl); have i10 : a10.cell? ⟨w.heap.size, 6, none⟩ = some (.int .i64 x_to_) := (by rw [← b10]; exact box_new _ _ _ 6 _ rfl); have c10 : a10.cell? ⟨w.heap.size, 7, none⟩ = some (.int .i64 x_leave) := (by rw [← b10]; exact box_new _ _ _ 7 _ rfl); have k10 : a10.cell? ⟨w.heap.size, 8, none⟩ = some (.int .i64 x_arrive) := (by rw [← b10]; exact box_new _ _ _ 8 _ rfl); go_wp2_with fail; have o10 := Lib.hid e10; replace e10 := cell_regrown e10; have r10 := Lib.hid g10; replace g10 := cell_regrown g10; have q10 := Lib.hid f10; replace f10 := cell_regrown f10; have t10 := Lib.hid h10; replace h10 := cell_regrown h10; have w10 := Lib.hid j10; replace j10 := cell_regrown j10; have v10 := Lib.hid d10; replace d10 := cell_regrown d10; have p10 := Lib.hid i10; replace i10 := cell_regrown i10; have s10 := Lib.hid c10; replace c10 := cell_regrown c10; have n10 := Lib.hid k10; replace k10 := cell_regrown k10; replace H := bind_hid H; obtain ⟨t_4, qt_4, H⟩ := H; have nt_4 : ∀ d os, Calls Try.prog 44 #[.slice A0 rates.length c0, .agg #[.int .i64 x_id, .int .i64 x_day, .int .i64 x_zone, .int .i64 x_grams, .int .i64 x_paid, .int .i64 x_from_, .int .i64 x_to_, .int .i64 x_leave, .int .i64 x_arrive]] (Go.Sort.grow (redrawn a10 d) os) fun e w'' => e = .returned (.int .i64 t_4) ∧ ∃ p : Regrown, w'' = Go.Sort.grow (redrawn a10 p.d) p.os := fun d os => Calls.regrown_of (GiRateOfCover.C (rates) ((PCover.Cover.mk x_id x_day x_zone x_grams x_paid x_from_ x_to_ x_leave x_arrive)) A0 c0 _   (Lib.hid (Cells.below (Cells.below M0.out l10.out) (below_regrown _ _ _))) N0 qt_4); replace H := bind_hid H; obtain ⟨t_7, qt_7, H⟩ := H; have nt_7 : ∀ d os, Calls Try.prog 48 #[.slice A1 mails.length c1, .agg #[.int .i64 x_id, .int .i64 x_day, .int .i64 x_zone, .int .i64 x_grams, .int .i64 x_paid, .int .i64 x_from_, .int .i64 x_to_, .int .i64 x_leave, .int .i64 x_arrive]] (Go.Sort.grow (redrawn a10 d) os) fun e w'' => e = .returned (.int .i64 t_7) ∧ ∃ p : Regrown, w'' = Go.Sort.grow (redrawn a10 p.d) p.os := fun d os => Calls.regrown_of (GiEarliestEnd.C (mails) ((PCover.Cover.mk x_id x_day x_zone x_grams x_paid x_from_ x_to_ x_leave x_arrive)) A1 c1 _   (Lib.hid (Cells.below (Cells.below M1.out l10.out) (below_regrown _ _ _))) N1 qt_7); refine wp_region_quiet_below (by kernel_rfl) (by kernel_rfl) ?_
 repeat (go_big_quiet_step (first | (go_at_call 44; exact nt_4 _ _) | (go_at_call 48; exact nt_7 _ _)))
 refine wpQuiet_nil ?_; intro Y1 hY1; replace hY1 := below_class hY1; clear nt_4 nt_7; replace e10 := o10.out; clear o10; replace g10 := r10.out; clear r10; replace f10 := q10.out; clear q10; replace h10 := t10.out; clear t10; replace j10 := w10.out; clear w10; replace d10 := v10.out; clear v10; replace i10 := p10.out; clear p10; replace c10 := s10.out; clear s10; replace k10 := n10.out; clear n10; have HBY1 := Lib.hid (Below.step l10.out hY1); replace e10 := cell_below hY1 e10; replace g10 := cell_below hY1 g10; replace f10 := cell_below hY1 f10; replace h10 := cell_below hY1 h10; replace j10 := cell_below hY1 j10; replace d10 := cell_below hY1 d10; replace i10 := cell_below hY1 i10; replace c10 := cell_below hY1 c10; replace k10 := cell_below hY1 k10; clear hY1; replace H := let_hid H; obtain ⟨t_11, b11, H⟩ := H
 cases t_11 with
 | false =>
  replace H := ite_f H; replace H := let_hid H; obtain ⟨t_17, x10, H⟩ := H
  cases t_17 with
  | false =>
   replace H := ite_f H; replace H := let_hid H; obtain ⟨t_23, a11, H⟩ := H; replace H := let_hid H; obtain ⟨t_24, c11, H⟩ := H
   cases t_24 with
   | false =>
    replace H := ite_f H; replace H := let_hid H; obtain ⟨t_28, y10, H⟩ := H
    cases t_28 with
    | false =>
     replace H := ite_f H; replace H := let_hid H; obtain ⟨t_34, z10, H⟩ := H
     cases t_34 with
     | false =>
      replace H := ite_f H; obtain rfl := ret_hid H; go_wp2_with fail; go_ret; exact ⟨rfl, HBY1.out⟩
     | true =>
      replace H := ite_t H; obtain rfl := ret_hid H; go_wp2_with fail; go_ret; exact ⟨rfl, HBY1.out⟩
    | true =>
     replace H := ite_t H; obtain rfl := ret_hid H; go_wp2_with fail; go_ret; exact ⟨rfl, HBY1.out⟩
   | true =>
    replace H := ite_t H; obtain rfl := ret_hid H; go_wp2_with fail; go_ret; exact ⟨rfl, HBY1.out⟩
  | true =>
   replace H := ite_t H; obtain rfl := ret_hid H; go_wp2_with fail; go_ret; exact ⟨rfl, HBY1.out⟩
 | true =>
  replace H := ite_t H; obtain rfl := ret_hid H; go_wp2_with fail; go_ret; exact ⟨rfl, HBY1.out⟩
end Go.Proofs.Ytgbcdmlcmnaimaa.GiFaultOn

