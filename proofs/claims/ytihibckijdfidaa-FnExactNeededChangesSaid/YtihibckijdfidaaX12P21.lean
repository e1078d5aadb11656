/- Texts on which the proofs of several laws stand, one behind the other (21 of 24). No condition of their own. -/
import Derived.Test.YtihibckijdfidaaChecked
import Derived.Test.YtihibckijdfidaaX12P1
import Derived.Test.YtihibckijdfidaaX12P2
import Derived.Test.YtihibckijdfidaaX12P13
import Derived.Test.YtihibckijdfidaaX12P4
import Derived.WalkKit
import Derived.WalkSpells
import Derived.WalkLawsBesides
import Derived.BigQuiet
import Derived.OwnWalk
import Derived.Deep.LoopGhost
import Derived.Deep.QuietTactic
import Derived.IntWalk
import Derived.Lib.QuietBelow
import Derived.Deep.RegionHeld3
import Derived.Test.YtihibckijdfidaaX12P11
set_option linter.unusedVariables false
set_option linter.unusedSimpArgs false
namespace Go.Proofs.Ytihibckijdfidaa.GlFnExactNeededChanges
open Go.RowKit
open Go.Proofs.Ytihibckijdfidaa.Rowed Go.Proofs.Ytihibckijdfidaa.Turn Go.Proofs.Ytihibckijdfidaa.Aid Go.Proofs.Ytihibckijdfidaa.GoP Go.Proofs.Ytihibckijdfidaa.GoM

def P (fuel : Nat) (aRates : (List Go.Proofs.Ytihibckijdfidaa.PRate.Rate)) (aX : Go.Proofs.Ytihibckijdfidaa.PCover.Cover) : Option (Bool) :=
  unCover aX fun (aX_id : Int) (aX_day : Int) (aX_zone : Int) (aX_grams : Int) (aX_paid : Int) (aX_from_ : Int) (aX_to_ : Int) (aX_leave : Int) (aX_arrive : Int) =>
  Option.bind (Go.Proofs.Ytihibckijdfidaa.GlSzRateS.P aRates 1048576) fun (t_5 : Int) =>
  letK (decide (t_5 < 0)) fun (t_8 : Bool) =>
  iteK t_8
  (some true)
  (Option.bind (Go.Proofs.Ytihibckijdfidaa.GlToRateS.P aRates) fun (t_11 : (List Go.Proofs.Ytihibckijdfidaa.PRate.Rate)) =>
  Option.bind (Go.Proofs.Ytihibckijdfidaa.GlToCover.P (Go.Proofs.Ytihibckijdfidaa.PCover.Cover.mk aX_id aX_day aX_zone aX_grams aX_paid aX_from_ aX_to_ aX_leave aX_arrive)) fun (t_13 : Go.Proofs.Ytihibckijdfidaa.PCover.Cover) =>
  unCover t_13 fun (t_13_id : Int) (t_13_day : Int) (t_13_zone : Int) (t_13_grams : Int) (t_13_paid : Int) (t_13_from_ : Int) (t_13_to_ : Int) (t_13_leave : Int) (t_13_arrive : Int) =>
  bind2 (Go.Proofs.Ytihibckijdfidaa.GsNeededChanges.P fuel t_11 (Go.Proofs.Ytihibckijdfidaa.PCover.Cover.mk t_13_id t_13_day t_13_zone t_13_grams t_13_paid t_13_from_ t_13_to_ t_13_leave t_13_arrive)) fun (t_14a : Int) (t_14b : Bool) =>
  Option.bind (Go.Proofs.Ytihibckijdfidaa.GlToRateS.P aRates) fun (t_21 : (List Go.Proofs.Ytihibckijdfidaa.PRate.Rate)) =>
  Option.bind (Go.Proofs.Ytihibckijdfidaa.GlToCover.P (Go.Proofs.Ytihibckijdfidaa.PCover.Cover.mk aX_id aX_day aX_zone aX_grams aX_paid aX_from_ aX_to_ aX_leave aX_arrive)) fun (t_25 : Go.Proofs.Ytihibckijdfidaa.PCover.Cover) =>
  unCover t_25 fun (t_25_id : Int) (t_25_day : Int) (t_25_zone : Int) (t_25_grams : Int) (t_25_paid : Int) (t_25_from_ : Int) (t_25_to_ : Int) (t_25_leave : Int) (t_25_arrive : Int) =>
  bind2 (Go.Proofs.Ytihibckijdfidaa.GiNeededChanges.P t_21 (Go.Proofs.Ytihibckijdfidaa.PCover.Cover.mk t_25_id t_25_day t_25_zone t_25_grams t_25_paid t_25_from_ t_25_to_ t_25_leave t_25_arrive)) fun (t_26a : Int) (t_26b : Bool) =>
  letK (t_26a != t_14a) fun (t_34 : Bool) =>
  joinK (fun (t_39 : Bool) =>
  iteK t_39
  (some false)
  (Option.bind (Go.Proofs.Ytihibckijdfidaa.GlToRateS.P aRates) fun (t_43 : (List Go.Proofs.Ytihibckijdfidaa.PRate.Rate)) =>
  Option.bind (Go.Proofs.Ytihibckijdfidaa.GlEqRateS.P t_21 t_43) fun (t_44 : Bool) =>
  letK (!t_44) fun (t_45 : Bool) =>
  iteK t_45
  (some false)
  (some true))) fun jt_39 => iteK t_34 (appK jt_39 true) (letK (!(t_26b == t_14b)) fun (t_38 : Bool) =>
  appK jt_39 t_38))

set_option maxRecDepth 100000 in
set_option maxHeartbeats 2000000 in
theorem C (fuel : Nat) (aRates : (List Go.Proofs.Ytihibckijdfidaa.PRate.Rate)) (aX : Go.Proofs.Ytihibckijdfidaa.PCover.Cover) (A0 : Option Addr) (c0 : Nat)  (w : World) (M0 : Hid (Cells w 5 A0 aRates.length (Go.Proofs.Ytihibckijdfidaa.PRate.flat aRates))) (N0 : Hid (aRates.length ≤ 9223372036854775807))  {r : Bool} (H : Hid (P fuel aRates aX = some r)) :
    Calls Try.prog 8 #[.slice A0 aRates.length c0, aX.val] w (Gives (.bool r) w) := by
  have HB := Lib.hid (Below.refl w.heap.size w); unfold P at H; obtain ⟨aX_id, aX_day, aX_zone, aX_grams, aX_paid, aX_from_, aX_to_, aX_leave, aX_arrive⟩ := aX; replace H := unCover_hid H; unfold Go.Proofs.Ytihibckijdfidaa.PCover.Cover.val; have N0o := N0.out
  go_enter Try.func8, Try.ntmps8
  obtain ⟨w_aX_0, hw_aX_0⟩ : ∃ x, w.alloc (.cells #[.int .i64 aX_id, .int .i64 aX_day, .int .i64 aX_zone, .int .i64 aX_grams, .int .i64 aX_paid, .int .i64 aX_from_, .int .i64 aX_to_, .int .i64 aX_leave, .int .i64 aX_arrive] 24) = x := ⟨_, rfl⟩; have bw_aX_0 : Below w.heap.size w w_aX_0 := (by rw [← hw_aX_0]; exact (Below.refl _ _).alloc (Nat.le_refl _) _); have HBw_aX_0 := Lib.hid (Below.step HB.out bw_aX_0); clear bw_aX_0; have kaX_0_0 : w_aX_0.cell? ⟨w.heap.size, 0, none⟩ = some (.int .i64 aX_id) := (by rw [← hw_aX_0]; exact box_new _ _ _ 0 _ rfl); have kaX_0_1 : w_aX_0.cell? ⟨w.heap.size, 1, none⟩ = some (.int .i64 aX_day) := (by rw [← hw_aX_0]; exact box_new _ _ _ 1 _ rfl); have kaX_0_2 : w_aX_0.cell? ⟨w.heap.size, 2, none⟩ = some (.int .i64 aX_zone) := (by rw [← hw_aX_0]; exact box_new _ _ _ 2 _ rfl); have kaX_0_3 : w_aX_0.cell? ⟨w.heap.size, 3, none⟩ = some (.int .i64 aX_grams) := (by rw [← hw_aX_0]; exact box_new _ _ _ 3 _ rfl); have kaX_0_4 : w_aX_0.cell? ⟨w.heap.size, 4, none⟩ = some (.int .i64 aX_paid) := (by rw [← hw_aX_0]; exact box_new _ _ _ 4 _ rfl); have kaX_0_5 : w_aX_0.cell? ⟨w.heap.size, 5, none⟩ = some (.int .i64 aX_from_) := (by rw [← hw_aX_0]; exact box_new _ _ _ 5 _ rfl); have kaX_0_6 : w_aX_0.cell? ⟨w.heap.size, 6, none⟩ = some (.int .i64 aX_to_) := (by rw [← hw_aX_0]; exact box_new _ _ _ 6 _ rfl); have kaX_0_7 : w_aX_0.cell? ⟨w.heap.size, 7, none⟩ = some (.int .i64 aX_leave) := (by rw [← hw_aX_0]; exact box_new _ _ _ 7 _ rfl); have kaX_0_8 : w_aX_0.cell? ⟨w.heap.size, 8, none⟩ = some (.int .i64 aX_arrive) := (by rw [← hw_aX_0]; exact box_new _ _ _ 8 _ rfl); replace H := bind_hid H; obtain ⟨t_5, qt_5, H⟩ := H; go_wp2_with fail; go_at_call 15; refine (Go.Proofs.Ytihibckijdfidaa.GlSzRateS.C (aRates) (1048576) A0 c0 _   (Lib.hid (Cells.below M0.out HBw_aX_0.out)) N0 qt_5).mono ?_; rintro e_t_5 wt_5 ⟨rfl, bt_5⟩; have HBwt_5 := Lib.hid (Below.step HBw_aX_0.out bt_5); replace kaX_0_0 := cell_below bt_5 kaX_0_0; replace kaX_0_1 := cell_below bt_5 kaX_0_1; replace kaX_0_2 := cell_below bt_5 kaX_0_2; replace kaX_0_3 := cell_below bt_5 kaX_0_3; replace kaX_0_4 := cell_below bt_5 kaX_0_4; replace kaX_0_5 := cell_below bt_5 kaX_0_5; replace kaX_0_6 := cell_below bt_5 kaX_0_6; replace kaX_0_7 := cell_below bt_5 kaX_0_7; replace kaX_0_8 := cell_below bt_5 kaX_0_8; clear bt_5; replace H := let_hid H; obtain ⟨t_8, ht_8, H⟩ := H
  cases t_8 with
  | false =>
    replace H := ite_f H; go_wp2_with fail; have bd5 : Below wt_5.heap.size wt_5 wt_5.drew := (Below.refl _ _).drew; have HBwt_5.drew := Lib.hid (Below.step HBwt_5.out bd5); replace kaX_0_0 := cell_below bd5 kaX_0_0; replace kaX_0_1 := cell_below bd5 kaX_0_1; replace kaX_0_2 := cell_below bd5 kaX_0_2; replace kaX_0_3 := cell_below bd5 kaX_0_3; replace kaX_0_4 := cell_below bd5 kaX_0_4; replace kaX_0_5 := cell_below bd5 kaX_0_5; replace kaX_0_6 := cell_below bd5 kaX_0_6; replace kaX_0_7 := cell_below bd5 kaX_0_7; replace kaX_0_8 := cell_below bd5 kaX_0_8; clear bd5; replace H := bind_hid H; obtain ⟨t_11, qt_11, H⟩ := H; replace H := bind_hid H; obtain ⟨t_13, qt_13, H⟩ := H; obtain ⟨t_13_id, t_13_day, t_13_zone, t_13_grams, t_13_paid, t_13_from_, t_13_to_, t_13_leave, t_13_arrive⟩ := t_13; replace H := unCover_hid H; replace H := bind2_hid H; obtain ⟨t_14a, t_14b, qt_14, H⟩ := H
    go_region_held3 (fun w' => w'.cell? ⟨w.heap.size, 0, none⟩ = some (.int .i64 aX_id) ∧ w'.cell? ⟨w.heap.size, 1, none⟩ = some (.int .i64 aX_day) ∧ w'.cell? ⟨w.heap.size, 2, none⟩ = some (.int .i64 aX_zone) ∧ w'.cell? ⟨w.heap.size, 3, none⟩ = some (.int .i64 aX_grams) ∧ w'.cell? ⟨w.heap.size, 4, none⟩ = some (.int .i64 aX_paid) ∧ w'.cell? ⟨w.heap.size, 5, none⟩ = some (.int .i64 aX_from_) ∧ w'.cell? ⟨w.heap.size, 6, none⟩ = some (.int .i64 aX_to_) ∧ w'.cell? ⟨w.heap.size, 7, none⟩ = some (.int .i64 aX_leave) ∧ w'.cell? ⟨w.heap.size, 8, none⟩ = some (.int .i64 aX_arrive)) (first | exact ⟨kaX_0_0, kaX_0_1, kaX_0_2, kaX_0_3, kaX_0_4, kaX_0_5, kaX_0_6, kaX_0_7, kaX_0_8⟩)
        (first
          | (go_at_call 17
             refine (Go.Proofs.Ytihibckijdfidaa.GlToRateS.C (aRates) A0 c0 _   (Lib.hid (Cells.below M0.out HBwt_5.drew.out)) N0 qt_11).mono ?_; rintro e_t_11 wt_11 ⟨At_11, ct_11, rfl, ot_11, bt_11⟩; have Dt_11_aX_0 := Lib.hid (apart_callbox ot_11 kaX_0_0); have Ot_11 := Lib.hid (own_lower ot_11 HBwt_5.drew.out.size); clear ot_11; have HBwt_11 := Lib.hid (Below.step HBwt_5.drew.out bt_11); replace kaX_0_0 := cell_below bt_11 kaX_0_0; replace kaX_0_1 := cell_below bt_11 kaX_0_1; replace kaX_0_2 := cell_below bt_11 kaX_0_2; replace kaX_0_3 := cell_below bt_11 kaX_0_3; replace kaX_0_4 := cell_below bt_11 kaX_0_4; replace kaX_0_5 := cell_below bt_11 kaX_0_5; replace kaX_0_6 := cell_below bt_11 kaX_0_6; replace kaX_0_7 := cell_below bt_11 kaX_0_7; replace kaX_0_8 := cell_below bt_11 kaX_0_8; clear bt_11
             clear qt_11)
          | (go_at_call 18
             refine (Go.Proofs.Ytihibckijdfidaa.GlToCover.C ((Go.Proofs.Ytihibckijdfidaa.PCover.Cover.mk aX_id aX_day aX_zone aX_grams aX_paid aX_from_ aX_to_ aX_leave aX_arrive))  _    qt_13).mono ?_; rintro e_t_13 wt_13 ⟨rfl, bt_13⟩; unfold Go.Proofs.Ytihibckijdfidaa.PCover.Cover.val; have HBwt_13 := Lib.hid (Below.step HBwt_11.out bt_13); replace kaX_0_0 := cell_below bt_13 kaX_0_0; replace kaX_0_1 := cell_below bt_13 kaX_0_1; replace kaX_0_2 := cell_below bt_13 kaX_0_2; replace kaX_0_3 := cell_below bt_13 kaX_0_3; replace kaX_0_4 := cell_below bt_13 kaX_0_4; replace kaX_0_5 := cell_below bt_13 kaX_0_5; replace kaX_0_6 := cell_below bt_13 kaX_0_6; replace kaX_0_7 := cell_below bt_13 kaX_0_7; replace kaX_0_8 := cell_below bt_13 kaX_0_8; replace Ot_11 := Lib.hid (own_below Ot_11.out bt_13); clear bt_13
             clear qt_13)
          | (go_at_call 35
             refine (Go.Proofs.Ytihibckijdfidaa.GsNeededChanges.C fuel (t_11) ((Go.Proofs.Ytihibckijdfidaa.PCover.Cover.mk t_13_id t_13_day t_13_zone t_13_grams t_13_paid t_13_from_ t_13_to_ t_13_leave t_13_arrive)) At_11 ct_11 _   (Lib.hid (own_cells Ot_11.out)) (Lib.hid (own_max Ot_11.out)) qt_14).mono ?_; rintro e_t_14 wt_14 ⟨rfl, bt_14⟩; have HBwt_14 := Lib.hid (Below.step HBwt_13.out bt_14); replace kaX_0_0 := cell_below bt_14 kaX_0_0; replace kaX_0_1 := cell_below bt_14 kaX_0_1; replace kaX_0_2 := cell_below bt_14 kaX_0_2; replace kaX_0_3 := cell_below bt_14 kaX_0_3; replace kaX_0_4 := cell_below bt_14 kaX_0_4; replace kaX_0_5 := cell_below bt_14 kaX_0_5; replace kaX_0_6 := cell_below bt_14 kaX_0_6; replace kaX_0_7 := cell_below bt_14 kaX_0_7; replace kaX_0_8 := cell_below bt_14 kaX_0_8; replace Ot_11 := Lib.hid (own_below Ot_11.out bt_14); clear bt_14
             clear qt_14))
    replace H := bind_hid H; obtain ⟨t_21, qt_21, H⟩ := H; go_wp2_with fail; go_at_call 17; refine (Go.Proofs.Ytihibckijdfidaa.GlToRateS.C (aRates) A0 c0 _   (Lib.hid (Cells.below M0.out HBwt_14.out)) N0 qt_21).mono ?_; rintro e_t_21 wt_21 ⟨At_21, ct_21, rfl, ot_21, bt_21⟩; have Dt_21_t_11 := Lib.hid (apart_call ot_21 Ot_11.out); have Dt_21_aX_0 := Lib.hid (apart_callbox ot_21 kaX_0_0); have Ot_21 := Lib.hid (own_lower ot_21 HBwt_14.out.size); clear ot_21; have HBwt_21 := Lib.hid (Below.step HBwt_14.out bt_21); replace kaX_0_0 := cell_below bt_21 kaX_0_0; replace kaX_0_1 := cell_below bt_21 kaX_0_1; replace kaX_0_2 := cell_below bt_21 kaX_0_2; replace kaX_0_3 := cell_below bt_21 kaX_0_3; replace kaX_0_4 := cell_below bt_21 kaX_0_4; replace kaX_0_5 := cell_below bt_21 kaX_0_5; replace kaX_0_6 := cell_below bt_21 kaX_0_6; replace kaX_0_7 := cell_below bt_21 kaX_0_7; replace kaX_0_8 := cell_below bt_21 kaX_0_8; replace Ot_11 := Lib.hid (own_below Ot_11.out bt_21); clear bt_21; replace H := bind_hid H; obtain ⟨t_25, qt_25, H⟩ := H; obtain ⟨t_25_id, t_25_day, t_25_zone, t_25_grams, t_25_paid, t_25_from_, t_25_to_, t_25_leave, t_25_arrive⟩ := t_25; replace H := unCover_hid H; go_wp2_with fail; go_at_call 18; refine (Go.Proofs.Ytihibckijdfidaa.GlToCover.C ((Go.Proofs.Ytihibckijdfidaa.PCover.Cover.mk aX_id aX_day aX_zone aX_grams aX_paid aX_from_ aX_to_ aX_leave aX_arrive))  _    qt_25).mono ?_; rintro e_t_25 wt_25 ⟨rfl, bt_25⟩; unfold Go.Proofs.Ytihibckijdfidaa.PCover.Cover.val; have HBwt_25 := Lib.hid (Below.step HBwt_21.out bt_25); replace kaX_0_0 := cell_below bt_25 kaX_0_0; replace kaX_0_1 := cell_below bt_25 kaX_0_1; replace kaX_0_2 := cell_below bt_25 kaX_0_2; replace kaX_0_3 := cell_below bt_25 kaX_0_3; replace kaX_0_4 := cell_below bt_25 kaX_0_4; replace kaX_0_5 := cell_below bt_25 kaX_0_5; replace kaX_0_6 := cell_below bt_25 kaX_0_6; replace kaX_0_7 := cell_below bt_25 kaX_0_7; replace kaX_0_8 := cell_below bt_25 kaX_0_8; replace Ot_11 := Lib.hid (own_below Ot_11.out bt_25); replace Ot_21 := Lib.hid (own_below Ot_21.out bt_25); clear bt_25; replace H := bind2_hid H; obtain ⟨t_26a, t_26b, qt_26, H⟩ := H; go_wp2_with fail; go_at_call 36; refine (Go.Proofs.Ytihibckijdfidaa.GiNeededChanges.C (t_21) ((Go.Proofs.Ytihibckijdfidaa.PCover.Cover.mk t_25_id t_25_day t_25_zone t_25_grams t_25_paid t_25_from_ t_25_to_ t_25_leave t_25_arrive)) At_21 ct_21 _   (Lib.hid (own_cells Ot_21.out)) (Lib.hid (own_max Ot_21.out)) qt_26).mono ?_; rintro e_t_26 wt_26 ⟨rfl, bt_26⟩; have HBwt_26 := Lib.hid (Below.step HBwt_25.out bt_26); replace kaX_0_0 := cell_below bt_26 kaX_0_0; replace kaX_0_1 := cell_below bt_26 kaX_0_1; replace kaX_0_2 := cell_below bt_26 kaX_0_2; replace kaX_0_3 := cell_below bt_26 kaX_0_3; replace kaX_0_4 := cell_below bt_26 kaX_0_4; replace kaX_0_5 := cell_below bt_26 kaX_0_5; replace kaX_0_6 := cell_below bt_26 kaX_0_6; replace kaX_0_7 := cell_below bt_26 kaX_0_7; replace kaX_0_8 := cell_below bt_26 kaX_0_8; replace Ot_11 := Lib.hid (own_below Ot_11.out bt_26); replace Ot_21 := Lib.hid (own_below Ot_21.out bt_26); clear bt_26; replace H := let_hid H; obtain ⟨t_34, ht_34, H⟩ := H; replace H := join_hid H
    cases t_34 with
    | false =>
      replace H := ite_f H; replace H := let_hid H; obtain ⟨t_38, ht_38, H⟩ := H; replace H := app_hid H
      cases t_38 with
      | false =>
        replace H := ite_f H; replace H := bind_hid H; obtain ⟨t_43, qt_43, H⟩ := H; go_wp2_with fail; go_at_call 17; refine (Go.Proofs.Ytihibckijdfidaa.GlToRateS.C (aRates) A0 c0 _   (Lib.hid (Cells.below M0.out HBwt_26.out)) N0 qt_43).mono ?_; rintro e_t_43 wt_43 ⟨At_43, ct_43, rfl, ot_43, bt_43⟩; have Dt_43_t_11 := Lib.hid (apart_call ot_43 Ot_11.out); have Dt_43_t_21 := Lib.hid (apart_call ot_43 Ot_21.out); have Dt_43_aX_0 := Lib.hid (apart_callbox ot_43 kaX_0_0); have Ot_43 := Lib.hid (own_lower ot_43 HBwt_26.out.size); clear ot_43; have HBwt_43 := Lib.hid (Below.step HBwt_26.out bt_43); replace kaX_0_0 := cell_below bt_43 kaX_0_0; replace kaX_0_1 := cell_below bt_43 kaX_0_1; replace kaX_0_2 := cell_below bt_43 kaX_0_2; replace kaX_0_3 := cell_below bt_43 kaX_0_3; replace kaX_0_4 := cell_below bt_43 kaX_0_4; replace kaX_0_5 := cell_below bt_43 kaX_0_5; replace kaX_0_6 := cell_below bt_43 kaX_0_6; replace kaX_0_7 := cell_below bt_43 kaX_0_7; replace kaX_0_8 := cell_below bt_43 kaX_0_8; replace Ot_11 := Lib.hid (own_below Ot_11.out bt_43); replace Ot_21 := Lib.hid (own_below Ot_21.out bt_43); clear bt_43; replace H := bind_hid H; obtain ⟨t_44, qt_44, H⟩ := H; go_wp2_with fail; go_at_call 20; refine (Go.Proofs.Ytihibckijdfidaa.GlEqRateS.C (t_21) (t_43) At_21 ct_21 At_43 ct_43 _   (Lib.hid (own_cells Ot_21.out)) (Lib.hid (own_max Ot_21.out)) (Lib.hid (own_cells Ot_43.out)) (Lib.hid (own_max Ot_43.out)) qt_44).mono ?_; rintro e_t_44 wt_44 ⟨rfl, bt_44⟩; have HBwt_44 := Lib.hid (Below.step HBwt_43.out bt_44); replace kaX_0_0 := cell_below bt_44 kaX_0_0; replace kaX_0_1 := cell_below bt_44 kaX_0_1; replace kaX_0_2 := cell_below bt_44 kaX_0_2; replace kaX_0_3 := cell_below bt_44 kaX_0_3; replace kaX_0_4 := cell_below bt_44 kaX_0_4; replace kaX_0_5 := cell_below bt_44 kaX_0_5; replace kaX_0_6 := cell_below bt_44 kaX_0_6; replace kaX_0_7 := cell_below bt_44 kaX_0_7; replace kaX_0_8 := cell_below bt_44 kaX_0_8; replace Ot_11 := Lib.hid (own_below Ot_11.out bt_44); replace Ot_21 := Lib.hid (own_below Ot_21.out bt_44); replace Ot_43 := Lib.hid (own_below Ot_43.out bt_44); clear bt_44
        cases t_44 with
        | false =>
          replace H := let_hid H; obtain ⟨t_45, ht_45, H⟩ := H; obtain rfl : t_45 = true := ht_45.symm; replace H := ite_t H; obtain rfl := ret_hid H; go_wp2_with fail; go_ret; exact ⟨rfl, HBwt_44.out⟩
        | true =>
          replace H := let_hid H; obtain ⟨t_45, ht_45, H⟩ := H; obtain rfl : t_45 = false := ht_45.symm; replace H := ite_f H; obtain rfl := ret_hid H; go_wp2_with fail; go_ret; exact ⟨rfl, HBwt_44.out⟩
      | true =>
        replace H := ite_t H; obtain rfl := ret_hid H; go_wp2_with fail; go_ret; exact ⟨rfl, HBwt_26.out⟩
    | true =>
      replace H := ite_t H; replace H := app_hid H; replace H := ite_t H; obtain rfl := ret_hid H; go_wp2_with fail; go_ret; exact ⟨rfl, HBwt_26.out⟩
  | true =>
    replace H := ite_t H; obtain rfl := ret_hid H; go_wp2_with fail; go_ret; exact ⟨rfl, HBwt_5.out⟩
end Go.Proofs.Ytihibckijdfidaa.GlFnExactNeededChanges

namespace Go.Proofs.Ytihibckijdfidaa.QL12Need
open Go.RowKit
open Go.Proofs.Ytihibckijdfidaa.GoP Go.Proofs.Ytihibckijdfidaa.PlainStamp Go.Proofs.Ytihibckijdfidaa.QBase Go.Proofs.Ytihibckijdfidaa.Q12Least Go.Proofs.Ytihibckijdfidaa.Q12All Go.Proofs.Ytihibckijdfidaa.Q12One Go.Proofs.Ytihibckijdfidaa.QLoop Go.Proofs.Ytihibckijdfidaa.PCover Go.Proofs.Ytihibckijdfidaa.PRate Go.Proofs.Ytihibckijdfidaa.QHRateE

theorem law_need {fuel : Nat} (rs : List Rate) (x : Cover) (hr : rs.length ≤ 9223372036854775807) (hf : 100 < fuel) : GlFnExactNeededChanges.P fuel rs x = some true := by
  have ht := toC x
  obtain ⟨⟨p, q⟩, hs⟩ : ∃ y, y = needRes rs x := ⟨_, rfl⟩
  have e1 := need_impl rs x hr
  have e2 := need_spec (fuel := fuel) rs x hr hf
  rw [← hs] at e1 e2
  obtain ⟨a, b, c, d, e, f, g, h, i⟩ := x
  simp only [GlFnExactNeededChanges.P, unCover, szS rs hr, Option.bind_some, letK, iteK_if]
  by_cases h1 : rs.length ≤ 1048576
  · rw [if_neg (by rw [if_pos h1]; simp; omega)]
    simp [ht, toS rs h1, e1, e2, bind2, joinK, appK, iteK_if, eqS]
  · rw [if_pos (by rw [if_neg h1]; simp)]
end Go.Proofs.Ytihibckijdfidaa.QL12Need

