/- Texts on which the proofs of several laws stand, one behind the other (12 of 21). No condition of their own. -/
import Derived.Test.YtlljmgphgmklcaaChecked
import Derived.Test.YtlljmgphgmklcaaC10P1
import Derived.Test.YtlljmgphgmklcaaC10P2
import Derived.Test.YtlljmgphgmklcaaC10P4
import Derived.Test.YtlljmgphgmklcaaC10P5
import Derived.Test.YtlljmgphgmklcaaC10P6
import Derived.Test.YtlljmgphgmklcaaC10P7
import Derived.Test.YtlljmgphgmklcaaC10P8
import Derived.Test.YtlljmgphgmklcaaC10P9
import Derived.WalkKit
import Derived.WalkSpells
import Derived.WalkLawsBesides
import Derived.BigQuiet
import Derived.OwnWalk
import Derived.Deep.LoopGhost
import Derived.Deep.QuietTactic
import Derived.IntWalk
import Derived.Lib.QuietBelow
import Derived.Deep.RegionHeld3
/- loop.example/g01062/laws.FnExactFaultOf as a plain function, and the contract of the program's: where the plain one has an answer, the program has it. Conditions: slices read as lists. -/
namespace Go.Proofs.Ytlljmgphgmklcaa.GlFnExactFaultOf
set_option linter.unusedVariables false
set_option linter.unusedSimpArgs false
open Go.RowKit
open Go.Proofs.Ytlljmgphgmklcaa.Rowed Go.Proofs.Ytlljmgphgmklcaa.Turn Go.Proofs.Ytlljmgphgmklcaa.Aid Go.Proofs.Ytlljmgphgmklcaa.GoP Go.Proofs.Ytlljmgphgmklcaa.GoM

def P (fuel : Nat) (aRates : (List Go.Proofs.Ytlljmgphgmklcaa.PRate.Rate)) (aMails : (List Go.Proofs.Ytlljmgphgmklcaa.PMail.Mail)) (aX : Go.Proofs.Ytlljmgphgmklcaa.PCover.Cover) : Option (Bool) :=
  unCover aX fun (aX_id : Int) (aX_day : Int) (aX_zone : Int) (aX_grams : Int) (aX_paid : Int) (aX_from_ : Int) (aX_to_ : Int) (aX_leave : Int) (aX_arrive : Int) =>
  Option.bind (Go.Proofs.Ytlljmgphgmklcaa.GlSzRateS.P aRates 1048576) fun (t_5 : Int) =>
  letK (decide (t_5 < 0)) fun (t_8 : Bool) =>
  iteK t_8
  (some true)
  (Option.bind (Go.Proofs.Ytlljmgphgmklcaa.GlSzMailS.P aMails t_5) fun (t_12 : Int) =>
  letK (decide (t_12 < 0)) fun (t_15 : Bool) =>
  iteK t_15
  (some true)
  (Option.bind (Go.Proofs.Ytlljmgphgmklcaa.GlToRateS.P aRates) fun (t_18 : (List Go.Proofs.Ytlljmgphgmklcaa.PRate.Rate)) =>
  Option.bind (Go.Proofs.Ytlljmgphgmklcaa.GlToMailS.P aMails) fun (t_20 : (List Go.Proofs.Ytlljmgphgmklcaa.PMail.Mail)) =>
  Option.bind (Go.Proofs.Ytlljmgphgmklcaa.GlToCover.P (Go.Proofs.Ytlljmgphgmklcaa.PCover.Cover.mk aX_id aX_day aX_zone aX_grams aX_paid aX_from_ aX_to_ aX_leave aX_arrive)) fun (t_22 : Go.Proofs.Ytlljmgphgmklcaa.PCover.Cover) =>
  unCover t_22 fun (t_22_id : Int) (t_22_day : Int) (t_22_zone : Int) (t_22_grams : Int) (t_22_paid : Int) (t_22_from_ : Int) (t_22_to_ : Int) (t_22_leave : Int) (t_22_arrive : Int) =>
  bind2 (Go.Proofs.Ytlljmgphgmklcaa.GsFaultOf.P fuel t_18 t_20 (Go.Proofs.Ytlljmgphgmklcaa.PCover.Cover.mk t_22_id t_22_day t_22_zone t_22_grams t_22_paid t_22_from_ t_22_to_ t_22_leave t_22_arrive)) fun (t_23a : Int) (t_23b : Bool) =>
  Option.bind (Go.Proofs.Ytlljmgphgmklcaa.GlToRateS.P aRates) fun (t_30 : (List Go.Proofs.Ytlljmgphgmklcaa.PRate.Rate)) =>
  Option.bind (Go.Proofs.Ytlljmgphgmklcaa.GlToMailS.P aMails) fun (t_33 : (List Go.Proofs.Ytlljmgphgmklcaa.PMail.Mail)) =>
  Option.bind (Go.Proofs.Ytlljmgphgmklcaa.GlToCover.P (Go.Proofs.Ytlljmgphgmklcaa.PCover.Cover.mk aX_id aX_day aX_zone aX_grams aX_paid aX_from_ aX_to_ aX_leave aX_arrive)) fun (t_38 : Go.Proofs.Ytlljmgphgmklcaa.PCover.Cover) =>
  unCover t_38 fun (t_38_id : Int) (t_38_day : Int) (t_38_zone : Int) (t_38_grams : Int) (t_38_paid : Int) (t_38_from_ : Int) (t_38_to_ : Int) (t_38_leave : Int) (t_38_arrive : Int) =>
  bind2 (Go.Proofs.Ytlljmgphgmklcaa.GiFaultOf.P t_30 t_33 (Go.Proofs.Ytlljmgphgmklcaa.PCover.Cover.mk t_38_id t_38_day t_38_zone t_38_grams t_38_paid t_38_from_ t_38_to_ t_38_leave t_38_arrive)) fun (t_39a : Int) (t_39b : Bool) =>
  letK (t_39a != t_23a) fun (t_47 : Bool) =>
  joinK (fun (t_52 : Bool) =>
  iteK t_52
  (some false)
  (Option.bind (Go.Proofs.Ytlljmgphgmklcaa.GlToRateS.P aRates) fun (t_56 : (List Go.Proofs.Ytlljmgphgmklcaa.PRate.Rate)) =>
  Option.bind (Go.Proofs.Ytlljmgphgmklcaa.GlEqRateS.P t_30 t_56) fun (t_57 : Bool) =>
  letK (!t_57) fun (t_58 : Bool) =>
  iteK t_58
  (some false)
  (Option.bind (Go.Proofs.Ytlljmgphgmklcaa.GlToMailS.P aMails) fun (t_62 : (List Go.Proofs.Ytlljmgphgmklcaa.PMail.Mail)) =>
  Option.bind (Go.Proofs.Ytlljmgphgmklcaa.GlEqMailS.P t_33 t_62) fun (t_63 : Bool) =>
  letK (!t_63) fun (t_64 : Bool) =>
  iteK t_64
  (some false)
  (some true)))) fun jt_52 => iteK t_47 (appK jt_52 true) (letK (!(t_39b == t_23b)) fun (t_51 : Bool) =>
  appK jt_52 t_51)))

set_option maxRecDepth 100000 in
set_option maxHeartbeats 2000000 in
theorem C (fuel : Nat) (aRates : (List Go.Proofs.Ytlljmgphgmklcaa.PRate.Rate)) (aMails : (List Go.Proofs.Ytlljmgphgmklcaa.PMail.Mail)) (aX : Go.Proofs.Ytlljmgphgmklcaa.PCover.Cover) (A0 : Option Addr) (c0 : Nat) (A1 : Option Addr) (c1 : Nat)  (w : World) (M0 : Hid (Cells w 5 A0 aRates.length (Go.Proofs.Ytlljmgphgmklcaa.PRate.flat aRates))) (N0 : Hid (aRates.length ≤ 9223372036854775807)) (M1 : Hid (Cells w 4 A1 aMails.length (Go.Proofs.Ytlljmgphgmklcaa.PMail.flat aMails))) (N1 : Hid (aMails.length ≤ 9223372036854775807))  {r : Bool} (H : Hid (P fuel aRates aMails aX = some r)) :
    Calls Try.prog 5 #[.slice A0 aRates.length c0, .slice A1 aMails.length c1, aX.val] w (Gives (.bool r) w) := by
  have HB := Lib.hid (Below.refl w.heap.size w)
  unfold P at H
  obtain ⟨aX_id, aX_day, aX_zone, aX_grams, aX_paid, aX_from_, aX_to_, aX_leave, aX_arrive⟩ := aX
  replace H := unCover_hid H
  unfold Go.Proofs.Ytlljmgphgmklcaa.PCover.Cover.val
  have N0o := N0.out
  have N1o := N1.out
  go_enter Try.func5, Try.ntmps5
  obtain ⟨w_aX_0, hw_aX_0⟩ : ∃ x, w.alloc (.cells #[.int .i64 aX_id, .int .i64 aX_day, .int .i64 aX_zone, .int .i64 aX_grams, .int .i64 aX_paid, .int .i64 aX_from_, .int .i64 aX_to_, .int .i64 aX_leave, .int .i64 aX_arrive] 23) = x := ⟨_, rfl⟩
  have bw_aX_0 : Below w.heap.size w w_aX_0 := by rw [← hw_aX_0]; exact (Below.refl _ _).alloc (Nat.le_refl _) _
  have HBw_aX_0 := Lib.hid (Below.step HB.out bw_aX_0)
  clear bw_aX_0
  have kaX_0_0 : w_aX_0.cell? ⟨w.heap.size, 0, none⟩ = some (.int .i64 aX_id) := by rw [← hw_aX_0]; exact box_new _ _ _ 0 _ rfl
  have kaX_0_1 : w_aX_0.cell? ⟨w.heap.size, 1, none⟩ = some (.int .i64 aX_day) := by rw [← hw_aX_0]; exact box_new _ _ _ 1 _ rfl
  have kaX_0_2 : w_aX_0.cell? ⟨w.heap.size, 2, none⟩ = some (.int .i64 aX_zone) := by rw [← hw_aX_0]; exact box_new _ _ _ 2 _ rfl
  have kaX_0_3 : w_aX_0.cell? ⟨w.heap.size, 3, none⟩ = some (.int .i64 aX_grams) := by rw [← hw_aX_0]; exact box_new _ _ _ 3 _ rfl
  have kaX_0_4 : w_aX_0.cell? ⟨w.heap.size, 4, none⟩ = some (.int .i64 aX_paid) := by rw [← hw_aX_0]; exact box_new _ _ _ 4 _ rfl
  have kaX_0_5 : w_aX_0.cell? ⟨w.heap.size, 5, none⟩ = some (.int .i64 aX_from_) := by rw [← hw_aX_0]; exact box_new _ _ _ 5 _ rfl
  have kaX_0_6 : w_aX_0.cell? ⟨w.heap.size, 6, none⟩ = some (.int .i64 aX_to_) := by rw [← hw_aX_0]; exact box_new _ _ _ 6 _ rfl
  have kaX_0_7 : w_aX_0.cell? ⟨w.heap.size, 7, none⟩ = some (.int .i64 aX_leave) := by rw [← hw_aX_0]; exact box_new _ _ _ 7 _ rfl
  have kaX_0_8 : w_aX_0.cell? ⟨w.heap.size, 8, none⟩ = some (.int .i64 aX_arrive) := by rw [← hw_aX_0]; exact box_new _ _ _ 8 _ rfl
  replace H := bind_hid H
  obtain ⟨t_5, qt_5, H⟩ := H
  go_wp2_with fail
  go_at_call 24
  refine (Go.Proofs.Ytlljmgphgmklcaa.GlSzRateS.C (aRates) (1048576) A0 c0 _   (Lib.hid (Cells.below M0.out HBw_aX_0.out)) N0 qt_5).mono ?_
  rintro e_t_5 wt_5 ⟨rfl, bt_5⟩
  have HBwt_5 := Lib.hid (Below.step HBw_aX_0.out bt_5)
  replace kaX_0_0 := cell_below bt_5 kaX_0_0
  replace kaX_0_1 := cell_below bt_5 kaX_0_1
  replace kaX_0_2 := cell_below bt_5 kaX_0_2
  replace kaX_0_3 := cell_below bt_5 kaX_0_3
  replace kaX_0_4 := cell_below bt_5 kaX_0_4
  replace kaX_0_5 := cell_below bt_5 kaX_0_5
  replace kaX_0_6 := cell_below bt_5 kaX_0_6
  replace kaX_0_7 := cell_below bt_5 kaX_0_7
  replace kaX_0_8 := cell_below bt_5 kaX_0_8
  clear bt_5
  replace H := let_hid H
  obtain ⟨t_8, ht_8, H⟩ := H
  cases t_8 with
  | false =>
    replace H := ite_f H
    replace H := bind_hid H
    obtain ⟨t_12, qt_12, H⟩ := H
    go_wp2_with fail
    go_at_call 25
    refine (Go.Proofs.Ytlljmgphgmklcaa.GlSzMailS.C (aMails) (t_5) A1 c1 _   (Lib.hid (Cells.below M1.out HBwt_5.out)) N1 qt_12).mono ?_
    rintro e_t_12 wt_12 ⟨rfl, bt_12⟩
    have HBwt_12 := Lib.hid (Below.step HBwt_5.out bt_12)
    replace kaX_0_0 := cell_below bt_12 kaX_0_0
    replace kaX_0_1 := cell_below bt_12 kaX_0_1
    replace kaX_0_2 := cell_below bt_12 kaX_0_2
    replace kaX_0_3 := cell_below bt_12 kaX_0_3
    replace kaX_0_4 := cell_below bt_12 kaX_0_4
    replace kaX_0_5 := cell_below bt_12 kaX_0_5
    replace kaX_0_6 := cell_below bt_12 kaX_0_6
    replace kaX_0_7 := cell_below bt_12 kaX_0_7
    replace kaX_0_8 := cell_below bt_12 kaX_0_8
    clear bt_12
    replace H := let_hid H
    obtain ⟨t_15, ht_15, H⟩ := H
    cases t_15 with
    | false =>
      replace H := ite_f H
      go_wp2_with fail
      have bd8 : Below wt_12.heap.size wt_12 wt_12.drew := (Below.refl _ _).drew
      have HBwt_12.drew := Lib.hid (Below.step HBwt_12.out bd8)
      replace kaX_0_0 := cell_below bd8 kaX_0_0
      replace kaX_0_1 := cell_below bd8 kaX_0_1
      replace kaX_0_2 := cell_below bd8 kaX_0_2
      replace kaX_0_3 := cell_below bd8 kaX_0_3
      replace kaX_0_4 := cell_below bd8 kaX_0_4
      replace kaX_0_5 := cell_below bd8 kaX_0_5
      replace kaX_0_6 := cell_below bd8 kaX_0_6
      replace kaX_0_7 := cell_below bd8 kaX_0_7
      replace kaX_0_8 := cell_below bd8 kaX_0_8
      clear bd8
      replace H := bind_hid H
      obtain ⟨t_18, qt_18, H⟩ := H
      replace H := bind_hid H
      obtain ⟨t_20, qt_20, H⟩ := H
      replace H := bind_hid H
      obtain ⟨t_22, qt_22, H⟩ := H
      obtain ⟨t_22_id, t_22_day, t_22_zone, t_22_grams, t_22_paid, t_22_from_, t_22_to_, t_22_leave, t_22_arrive⟩ := t_22
      replace H := unCover_hid H
      replace H := bind2_hid H
      obtain ⟨t_23a, t_23b, qt_23, H⟩ := H
      go_region_held3 (fun w' => w'.cell? ⟨w.heap.size, 0, none⟩ = some (.int .i64 aX_id) ∧ w'.cell? ⟨w.heap.size, 1, none⟩ = some (.int .i64 aX_day) ∧ w'.cell? ⟨w.heap.size, 2, none⟩ = some (.int .i64 aX_zone) ∧ w'.cell? ⟨w.heap.size, 3, none⟩ = some (.int .i64 aX_grams) ∧ w'.cell? ⟨w.heap.size, 4, none⟩ = some (.int .i64 aX_paid) ∧ w'.cell? ⟨w.heap.size, 5, none⟩ = some (.int .i64 aX_from_) ∧ w'.cell? ⟨w.heap.size, 6, none⟩ = some (.int .i64 aX_to_) ∧ w'.cell? ⟨w.heap.size, 7, none⟩ = some (.int .i64 aX_leave) ∧ w'.cell? ⟨w.heap.size, 8, none⟩ = some (.int .i64 aX_arrive)) (first | exact ⟨kaX_0_0, kaX_0_1, kaX_0_2, kaX_0_3, kaX_0_4, kaX_0_5, kaX_0_6, kaX_0_7, kaX_0_8⟩)
          (first
            | (go_at_call 27
               refine (Go.Proofs.Ytlljmgphgmklcaa.GlToRateS.C (aRates) A0 c0 _   (Lib.hid (Cells.below M0.out HBwt_12.drew.out)) N0 qt_18).mono ?_
               rintro e_t_18 wt_18 ⟨At_18, ct_18, rfl, ot_18, bt_18⟩
               have Dt_18_aX_0 := Lib.hid (apart_callbox ot_18 kaX_0_0)
               have Ot_18 := Lib.hid (own_lower ot_18 HBwt_12.drew.out.size)
               clear ot_18
               have HBwt_18 := Lib.hid (Below.step HBwt_12.drew.out bt_18)
               replace kaX_0_0 := cell_below bt_18 kaX_0_0
               replace kaX_0_1 := cell_below bt_18 kaX_0_1
               replace kaX_0_2 := cell_below bt_18 kaX_0_2
               replace kaX_0_3 := cell_below bt_18 kaX_0_3
               replace kaX_0_4 := cell_below bt_18 kaX_0_4
               replace kaX_0_5 := cell_below bt_18 kaX_0_5
               replace kaX_0_6 := cell_below bt_18 kaX_0_6
               replace kaX_0_7 := cell_below bt_18 kaX_0_7
               replace kaX_0_8 := cell_below bt_18 kaX_0_8
               clear bt_18
               clear qt_18)
            | (go_at_call 28
               refine (Go.Proofs.Ytlljmgphgmklcaa.GlToMailS.C (aMails) A1 c1 _   (Lib.hid (Cells.below M1.out HBwt_18.out)) N1 qt_20).mono ?_
               rintro e_t_20 wt_20 ⟨At_20, ct_20, rfl, ot_20, bt_20⟩
               have Dt_20_t_18 := Lib.hid (apart_call ot_20 Ot_18.out)
               have Dt_20_aX_0 := Lib.hid (apart_callbox ot_20 kaX_0_0)
               have Ot_20 := Lib.hid (own_lower ot_20 HBwt_18.out.size)
               clear ot_20
               have HBwt_20 := Lib.hid (Below.step HBwt_18.out bt_20)
               replace kaX_0_0 := cell_below bt_20 kaX_0_0
               replace kaX_0_1 := cell_below bt_20 kaX_0_1
               replace kaX_0_2 := cell_below bt_20 kaX_0_2
               replace kaX_0_3 := cell_below bt_20 kaX_0_3
               replace kaX_0_4 := cell_below bt_20 kaX_0_4
               replace kaX_0_5 := cell_below bt_20 kaX_0_5
               replace kaX_0_6 := cell_below bt_20 kaX_0_6
               replace kaX_0_7 := cell_below bt_20 kaX_0_7
               replace kaX_0_8 := cell_below bt_20 kaX_0_8
               replace Ot_18 := Lib.hid (own_below Ot_18.out bt_20)
               clear bt_20
               clear qt_20)
            | (go_at_call 17
               refine (Go.Proofs.Ytlljmgphgmklcaa.GlToCover.C ((Go.Proofs.Ytlljmgphgmklcaa.PCover.Cover.mk aX_id aX_day aX_zone aX_grams aX_paid aX_from_ aX_to_ aX_leave aX_arrive))  _    qt_22).mono ?_
               rintro e_t_22 wt_22 ⟨rfl, bt_22⟩
               unfold Go.Proofs.Ytlljmgphgmklcaa.PCover.Cover.val
               have HBwt_22 := Lib.hid (Below.step HBwt_20.out bt_22)
               replace kaX_0_0 := cell_below bt_22 kaX_0_0
               replace kaX_0_1 := cell_below bt_22 kaX_0_1
               replace kaX_0_2 := cell_below bt_22 kaX_0_2
               replace kaX_0_3 := cell_below bt_22 kaX_0_3
               replace kaX_0_4 := cell_below bt_22 kaX_0_4
               replace kaX_0_5 := cell_below bt_22 kaX_0_5
               replace kaX_0_6 := cell_below bt_22 kaX_0_6
               replace kaX_0_7 := cell_below bt_22 kaX_0_7
               replace kaX_0_8 := cell_below bt_22 kaX_0_8
               replace Ot_18 := Lib.hid (own_below Ot_18.out bt_22)
               replace Ot_20 := Lib.hid (own_below Ot_20.out bt_22)
               clear bt_22
               clear qt_22)
            | (go_at_call 26
               refine (Go.Proofs.Ytlljmgphgmklcaa.GsFaultOf.C fuel (t_18) (t_20) ((Go.Proofs.Ytlljmgphgmklcaa.PCover.Cover.mk t_22_id t_22_day t_22_zone t_22_grams t_22_paid t_22_from_ t_22_to_ t_22_leave t_22_arrive)) At_18 ct_18 At_20 ct_20 _   (Lib.hid (own_cells Ot_18.out)) (Lib.hid (own_max Ot_18.out)) (Lib.hid (own_cells Ot_20.out)) (Lib.hid (own_max Ot_20.out)) qt_23).mono ?_
               rintro e_t_23 wt_23 ⟨rfl, bt_23⟩
               have HBwt_23 := Lib.hid (Below.step HBwt_22.out bt_23)
               replace kaX_0_0 := cell_below bt_23 kaX_0_0
               replace kaX_0_1 := cell_below bt_23 kaX_0_1
               replace kaX_0_2 := cell_below bt_23 kaX_0_2
               replace kaX_0_3 := cell_below bt_23 kaX_0_3
               replace kaX_0_4 := cell_below bt_23 kaX_0_4
               replace kaX_0_5 := cell_below bt_23 kaX_0_5
               replace kaX_0_6 := cell_below bt_23 kaX_0_6
               replace kaX_0_7 := cell_below bt_23 kaX_0_7
               replace kaX_0_8 := cell_below bt_23 kaX_0_8
               replace Ot_18 := Lib.hid (own_below Ot_18.out bt_23)
               replace Ot_20 := Lib.hid (own_below Ot_20.out bt_23)
               clear bt_23
               clear qt_23))
      replace H := bind_hid H
      obtain ⟨t_30, qt_30, H⟩ := H
      go_wp2_with fail
      go_at_call 27
      refine (Go.Proofs.Ytlljmgphgmklcaa.GlToRateS.C (aRates) A0 c0 _   (Lib.hid (Cells.below M0.out HBwt_23.out)) N0 qt_30).mono ?_
      rintro e_t_30 wt_30 ⟨At_30, ct_30, rfl, ot_30, bt_30⟩
      have Dt_30_t_18 := Lib.hid (apart_call ot_30 Ot_18.out)
      have Dt_30_t_20 := Lib.hid (apart_call ot_30 Ot_20.out)
      have Dt_30_aX_0 := Lib.hid (apart_callbox ot_30 kaX_0_0)
      have Ot_30 := Lib.hid (own_lower ot_30 HBwt_23.out.size)
      clear ot_30
      have HBwt_30 := Lib.hid (Below.step HBwt_23.out bt_30)
      replace kaX_0_0 := cell_below bt_30 kaX_0_0
      replace kaX_0_1 := cell_below bt_30 kaX_0_1
      replace kaX_0_2 := cell_below bt_30 kaX_0_2
      replace kaX_0_3 := cell_below bt_30 kaX_0_3
      replace kaX_0_4 := cell_below bt_30 kaX_0_4
      replace kaX_0_5 := cell_below bt_30 kaX_0_5
      replace kaX_0_6 := cell_below bt_30 kaX_0_6
      replace kaX_0_7 := cell_below bt_30 kaX_0_7
      replace kaX_0_8 := cell_below bt_30 kaX_0_8
      replace Ot_18 := Lib.hid (own_below Ot_18.out bt_30)
      replace Ot_20 := Lib.hid (own_below Ot_20.out bt_30)
      clear bt_30
      replace H := bind_hid H
      obtain ⟨t_33, qt_33, H⟩ := H
      go_wp2_with fail
      go_at_call 28
      refine (Go.Proofs.Ytlljmgphgmklcaa.GlToMailS.C (aMails) A1 c1 _   (Lib.hid (Cells.below M1.out HBwt_30.out)) N1 qt_33).mono ?_
      rintro e_t_33 wt_33 ⟨At_33, ct_33, rfl, ot_33, bt_33⟩
      have Dt_33_t_18 := Lib.hid (apart_call ot_33 Ot_18.out)
      have Dt_33_t_20 := Lib.hid (apart_call ot_33 Ot_20.out)
      have Dt_33_t_30 := Lib.hid (apart_call ot_33 Ot_30.out)
      have Dt_33_aX_0 := Lib.hid (apart_callbox ot_33 kaX_0_0)
      have Ot_33 := Lib.hid (own_lower ot_33 HBwt_30.out.size)
      clear ot_33
      have HBwt_33 := Lib.hid (Below.step HBwt_30.out bt_33)
      replace kaX_0_0 := cell_below bt_33 kaX_0_0
      replace kaX_0_1 := cell_below bt_33 kaX_0_1
      replace kaX_0_2 := cell_below bt_33 kaX_0_2
      replace kaX_0_3 := cell_below bt_33 kaX_0_3
      replace kaX_0_4 := cell_below bt_33 kaX_0_4
      replace kaX_0_5 := cell_below bt_33 kaX_0_5
      replace kaX_0_6 := cell_below bt_33 kaX_0_6
      replace kaX_0_7 := cell_below bt_33 kaX_0_7
      replace kaX_0_8 := cell_below bt_33 kaX_0_8
      replace Ot_18 := Lib.hid (own_below Ot_18.out bt_33)
      replace Ot_20 := Lib.hid (own_below Ot_20.out bt_33)
      replace Ot_30 := Lib.hid (own_below Ot_30.out bt_33)
      clear bt_33
      replace H := bind_hid H
      obtain ⟨t_38, qt_38, H⟩ := H
      obtain ⟨t_38_id, t_38_day, t_38_zone, t_38_grams, t_38_paid, t_38_from_, t_38_to_, t_38_leave, t_38_arrive⟩ := t_38
      replace H := unCover_hid H
      go_wp2_with fail
      go_at_call 17
      refine (Go.Proofs.Ytlljmgphgmklcaa.GlToCover.C ((Go.Proofs.Ytlljmgphgmklcaa.PCover.Cover.mk aX_id aX_day aX_zone aX_grams aX_paid aX_from_ aX_to_ aX_leave aX_arrive))  _    qt_38).mono ?_
      rintro e_t_38 wt_38 ⟨rfl, bt_38⟩
      unfold Go.Proofs.Ytlljmgphgmklcaa.PCover.Cover.val
      have HBwt_38 := Lib.hid (Below.step HBwt_33.out bt_38)
      replace kaX_0_0 := cell_below bt_38 kaX_0_0
      replace kaX_0_1 := cell_below bt_38 kaX_0_1
      replace kaX_0_2 := cell_below bt_38 kaX_0_2
      replace kaX_0_3 := cell_below bt_38 kaX_0_3
      replace kaX_0_4 := cell_below bt_38 kaX_0_4
      replace kaX_0_5 := cell_below bt_38 kaX_0_5
      replace kaX_0_6 := cell_below bt_38 kaX_0_6
      replace kaX_0_7 := cell_below bt_38 kaX_0_7
      replace kaX_0_8 := cell_below bt_38 kaX_0_8
      replace Ot_18 := Lib.hid (own_below Ot_18.out bt_38)
      replace Ot_20 := Lib.hid (own_below Ot_20.out bt_38)
      replace Ot_30 := Lib.hid (own_below Ot_30.out bt_38)
      replace Ot_33 := Lib.hid (own_below Ot_33.out bt_38)
      clear bt_38
      replace H := bind2_hid H
      obtain ⟨t_39a, t_39b, qt_39, H⟩ := H
      go_wp2_with fail
      go_at_call 29
      refine (Go.Proofs.Ytlljmgphgmklcaa.GiFaultOf.C (t_30) (t_33) ((Go.Proofs.Ytlljmgphgmklcaa.PCover.Cover.mk t_38_id t_38_day t_38_zone t_38_grams t_38_paid t_38_from_ t_38_to_ t_38_leave t_38_arrive)) At_30 ct_30 At_33 ct_33 _   (Lib.hid (own_cells Ot_30.out)) (Lib.hid (own_max Ot_30.out)) (Lib.hid (own_cells Ot_33.out)) (Lib.hid (own_max Ot_33.out)) qt_39).mono ?_
      rintro e_t_39 wt_39 ⟨rfl, bt_39⟩
      have HBwt_39 := Lib.hid (Below.step HBwt_38.out bt_39)
      replace kaX_0_0 := cell_below bt_39 kaX_0_0
      replace kaX_0_1 := cell_below bt_39 kaX_0_1
      replace kaX_0_2 := cell_below bt_39 kaX_0_2
      replace kaX_0_3 := cell_below bt_39 kaX_0_3
      replace kaX_0_4 := cell_below bt_39 kaX_0_4
      replace kaX_0_5 := cell_below bt_39 kaX_0_5
      replace kaX_0_6 := cell_below bt_39 kaX_0_6
      replace kaX_0_7 := cell_below bt_39 kaX_0_7
      replace kaX_0_8 := cell_below bt_39 kaX_0_8
      replace Ot_18 := Lib.hid (own_below Ot_18.out bt_39)
      replace Ot_20 := Lib.hid (own_below Ot_20.out bt_39)
      replace Ot_30 := Lib.hid (own_below Ot_30.out bt_39)
      replace Ot_33 := Lib.hid (own_below Ot_33.out bt_39)
      clear bt_39
      replace H := let_hid H
      obtain ⟨t_47, ht_47, H⟩ := H
      replace H := join_hid H
      cases t_47 with
      | false =>
        replace H := ite_f H
        replace H := let_hid H
        obtain ⟨t_51, ht_51, H⟩ := H
        replace H := app_hid H
        cases t_51 with
        | false =>
          replace H := ite_f H
          replace H := bind_hid H
          obtain ⟨t_56, qt_56, H⟩ := H
          go_wp2_with fail
          go_at_call 27
          refine (Go.Proofs.Ytlljmgphgmklcaa.GlToRateS.C (aRates) A0 c0 _   (Lib.hid (Cells.below M0.out HBwt_39.out)) N0 qt_56).mono ?_
          rintro e_t_56 wt_56 ⟨At_56, ct_56, rfl, ot_56, bt_56⟩
          have Dt_56_t_18 := Lib.hid (apart_call ot_56 Ot_18.out)
          have Dt_56_t_20 := Lib.hid (apart_call ot_56 Ot_20.out)
          have Dt_56_t_30 := Lib.hid (apart_call ot_56 Ot_30.out)
          have Dt_56_t_33 := Lib.hid (apart_call ot_56 Ot_33.out)
          have Dt_56_aX_0 := Lib.hid (apart_callbox ot_56 kaX_0_0)
          have Ot_56 := Lib.hid (own_lower ot_56 HBwt_39.out.size)
          clear ot_56
          have HBwt_56 := Lib.hid (Below.step HBwt_39.out bt_56)
          replace kaX_0_0 := cell_below bt_56 kaX_0_0
          replace kaX_0_1 := cell_below bt_56 kaX_0_1
          replace kaX_0_2 := cell_below bt_56 kaX_0_2
          replace kaX_0_3 := cell_below bt_56 kaX_0_3
          replace kaX_0_4 := cell_below bt_56 kaX_0_4
          replace kaX_0_5 := cell_below bt_56 kaX_0_5
          replace kaX_0_6 := cell_below bt_56 kaX_0_6
          replace kaX_0_7 := cell_below bt_56 kaX_0_7
          replace kaX_0_8 := cell_below bt_56 kaX_0_8
          replace Ot_18 := Lib.hid (own_below Ot_18.out bt_56)
          replace Ot_20 := Lib.hid (own_below Ot_20.out bt_56)
          replace Ot_30 := Lib.hid (own_below Ot_30.out bt_56)
          replace Ot_33 := Lib.hid (own_below Ot_33.out bt_56)
          clear bt_56
          replace H := bind_hid H
          obtain ⟨t_57, qt_57, H⟩ := H
          go_wp2_with fail
          go_at_call 30
          refine (Go.Proofs.Ytlljmgphgmklcaa.GlEqRateS.C (t_30) (t_56) At_30 ct_30 At_56 ct_56 _   (Lib.hid (own_cells Ot_30.out)) (Lib.hid (own_max Ot_30.out)) (Lib.hid (own_cells Ot_56.out)) (Lib.hid (own_max Ot_56.out)) qt_57).mono ?_
          rintro e_t_57 wt_57 ⟨rfl, bt_57⟩
          have HBwt_57 := Lib.hid (Below.step HBwt_56.out bt_57)
          replace kaX_0_0 := cell_below bt_57 kaX_0_0
          replace kaX_0_1 := cell_below bt_57 kaX_0_1
          replace kaX_0_2 := cell_below bt_57 kaX_0_2
          replace kaX_0_3 := cell_below bt_57 kaX_0_3
          replace kaX_0_4 := cell_below bt_57 kaX_0_4
          replace kaX_0_5 := cell_below bt_57 kaX_0_5
          replace kaX_0_6 := cell_below bt_57 kaX_0_6
          replace kaX_0_7 := cell_below bt_57 kaX_0_7
          replace kaX_0_8 := cell_below bt_57 kaX_0_8
          replace Ot_18 := Lib.hid (own_below Ot_18.out bt_57)
          replace Ot_20 := Lib.hid (own_below Ot_20.out bt_57)
          replace Ot_30 := Lib.hid (own_below Ot_30.out bt_57)
          replace Ot_33 := Lib.hid (own_below Ot_33.out bt_57)
          replace Ot_56 := Lib.hid (own_below Ot_56.out bt_57)
          clear bt_57
          cases t_57 with
          | false =>
            replace H := let_hid H
            obtain ⟨t_58, ht_58, H⟩ := H
            obtain rfl : t_58 = true := ht_58.symm
            replace H := ite_t H
            obtain rfl := ret_hid H
            go_wp2_with fail
            go_ret
            exact ⟨rfl, HBwt_57.out⟩
          | true =>
            replace H := let_hid H
            obtain ⟨t_58, ht_58, H⟩ := H
            obtain rfl : t_58 = false := ht_58.symm
            replace H := ite_f H
            replace H := bind_hid H
            obtain ⟨t_62, qt_62, H⟩ := H
            go_wp2_with fail
            go_at_call 28
            refine (Go.Proofs.Ytlljmgphgmklcaa.GlToMailS.C (aMails) A1 c1 _   (Lib.hid (Cells.below M1.out HBwt_57.out)) N1 qt_62).mono ?_
            rintro e_t_62 wt_62 ⟨At_62, ct_62, rfl, ot_62, bt_62⟩
            have Dt_62_t_18 := Lib.hid (apart_call ot_62 Ot_18.out)
            have Dt_62_t_20 := Lib.hid (apart_call ot_62 Ot_20.out)
            have Dt_62_t_30 := Lib.hid (apart_call ot_62 Ot_30.out)
            have Dt_62_t_33 := Lib.hid (apart_call ot_62 Ot_33.out)
            have Dt_62_t_56 := Lib.hid (apart_call ot_62 Ot_56.out)
            have Dt_62_aX_0 := Lib.hid (apart_callbox ot_62 kaX_0_0)
            have Ot_62 := Lib.hid (own_lower ot_62 HBwt_57.out.size)
            clear ot_62
            have HBwt_62 := Lib.hid (Below.step HBwt_57.out bt_62)
            replace kaX_0_0 := cell_below bt_62 kaX_0_0
            replace kaX_0_1 := cell_below bt_62 kaX_0_1
            replace kaX_0_2 := cell_below bt_62 kaX_0_2
            replace kaX_0_3 := cell_below bt_62 kaX_0_3
            replace kaX_0_4 := cell_below bt_62 kaX_0_4
            replace kaX_0_5 := cell_below bt_62 kaX_0_5
            replace kaX_0_6 := cell_below bt_62 kaX_0_6
            replace kaX_0_7 := cell_below bt_62 kaX_0_7
            replace kaX_0_8 := cell_below bt_62 kaX_0_8
            replace Ot_18 := Lib.hid (own_below Ot_18.out bt_62)
            replace Ot_20 := Lib.hid (own_below Ot_20.out bt_62)
            replace Ot_30 := Lib.hid (own_below Ot_30.out bt_62)
            replace Ot_33 := Lib.hid (own_below Ot_33.out bt_62)
            replace Ot_56 := Lib.hid (own_below Ot_56.out bt_62)
            clear bt_62
            replace H := bind_hid H
            obtain ⟨t_63, qt_63, H⟩ := H
            go_wp2_with fail
            go_at_call 31
            refine (Go.Proofs.Ytlljmgphgmklcaa.GlEqMailS.C (t_33) (t_62) At_33 ct_33 At_62 ct_62 _   (Lib.hid (own_cells Ot_33.out)) (Lib.hid (own_max Ot_33.out)) (Lib.hid (own_cells Ot_62.out)) (Lib.hid (own_max Ot_62.out)) qt_63).mono ?_
            rintro e_t_63 wt_63 ⟨rfl, bt_63⟩
            have HBwt_63 := Lib.hid (Below.step HBwt_62.out bt_63)
            replace kaX_0_0 := cell_below bt_63 kaX_0_0
            replace kaX_0_1 := cell_below bt_63 kaX_0_1
            replace kaX_0_2 := cell_below bt_63 kaX_0_2
            replace kaX_0_3 := cell_below bt_63 kaX_0_3
            replace kaX_0_4 := cell_below bt_63 kaX_0_4
            replace kaX_0_5 := cell_below bt_63 kaX_0_5
            replace kaX_0_6 := cell_below bt_63 kaX_0_6
            replace kaX_0_7 := cell_below bt_63 kaX_0_7
            replace kaX_0_8 := cell_below bt_63 kaX_0_8
            replace Ot_18 := Lib.hid (own_below Ot_18.out bt_63)
            replace Ot_20 := Lib.hid (own_below Ot_20.out bt_63)
            replace Ot_30 := Lib.hid (own_below Ot_30.out bt_63)
            replace Ot_33 := Lib.hid (own_below Ot_33.out bt_63)
            replace Ot_56 := Lib.hid (own_below Ot_56.out bt_63)
            replace Ot_62 := Lib.hid (own_below Ot_62.out bt_63)
            clear bt_63
            cases t_63 with
            | false =>
              replace H := let_hid H
              obtain ⟨t_64, ht_64, H⟩ := H
              obtain rfl : t_64 = true := ht_64.symm
              replace H := ite_t H
              obtain rfl := ret_hid H
              go_wp2_with fail
              go_ret
              exact ⟨rfl, HBwt_63.out⟩
            | true =>
              replace H := let_hid H
              obtain ⟨t_64, ht_64, H⟩ := H
              obtain rfl : t_64 = false := ht_64.symm
              replace H := ite_f H
              obtain rfl := ret_hid H
              go_wp2_with fail
              go_ret
              exact ⟨rfl, HBwt_63.out⟩
        | true =>
          replace H := ite_t H
          obtain rfl := ret_hid H
          go_wp2_with fail
          go_ret
          exact ⟨rfl, HBwt_39.out⟩
      | true =>
        replace H := ite_t H
        replace H := app_hid H
        replace H := ite_t H
        obtain rfl := ret_hid H
        go_wp2_with fail
        go_ret
        exact ⟨rfl, HBwt_39.out⟩
    | true =>
      replace H := ite_t H
      obtain rfl := ret_hid H
      go_wp2_with fail
      go_ret
      exact ⟨rfl, HBwt_12.out⟩
  | true =>
    replace H := ite_t H
    obtain rfl := ret_hid H
    go_wp2_with fail
    go_ret
    exact ⟨rfl, HBwt_5.out⟩
end Go.Proofs.Ytlljmgphgmklcaa.GlFnExactFaultOf

/- Chapter 10: covers: the plain functions of the program and of the reference agree, and the laws answer true. (Q10Two) No condition but those of each theorem. -/
namespace Go.Proofs.Ytlljmgphgmklcaa.Q10Two
set_option linter.unusedVariables false
set_option linter.unusedSimpArgs false
open Go.RowKit
open Go.Proofs.Ytlljmgphgmklcaa.GoP Go.Proofs.Ytlljmgphgmklcaa.PlainStamp Go.Proofs.Ytlljmgphgmklcaa.QBase Go.Proofs.Ytlljmgphgmklcaa.QLoop Go.Proofs.Ytlljmgphgmklcaa.PRate Go.Proofs.Ytlljmgphgmklcaa.PMail Go.Proofs.Ytlljmgphgmklcaa.QHRateE Go.Proofs.Ytlljmgphgmklcaa.QHMailE

theorem sz_two (rs : List Rate) (ms : List Mail) (hr : rs.length ≤ 9223372036854775807) (hm : ms.length ≤ 9223372036854775807) {R : Type} {no : R} {go : Int → Option R} {r : R} (hno : no = r) (hgo : ∀ v, 0 ≤ v → rs.length ≤ 1048576 → ms.length ≤ 1048576 → go v = some r) :
    ((GlSzRateS.P rs 1048576).bind fun a => if decide (a < 0) = true then some no else (GlSzMailS.P ms a).bind fun b => if decide (b < 0) = true then some no else go b) = some r := by
  subst hno
  rw [QHRateE.szF rs _ (by omega) (by omega) hr, Option.bind_some]
  by_cases h1 : (rs.length : Int) ≤ 1048576
  · rw [if_pos h1, if_neg (by simp; omega), QHMailE.szF ms _ (by omega) (by omega) hm, Option.bind_some]
    by_cases h2 : (ms.length : Int) ≤ 1048576 - (rs.length : Int)
    · rw [if_pos h2, if_neg (by simp; omega)]
      exact hgo _ (by omega) (by omega) (by omega)
    · rw [if_neg h2, if_pos (by simp)]
  · rw [if_neg h1, if_pos (by simp)]
end Go.Proofs.Ytlljmgphgmklcaa.Q10Two

/- Chapter 10: covers: the plain functions of the program and of the reference agree, and the laws answer true. (QL10FaultOf) No condition but those of each theorem. -/
namespace Go.Proofs.Ytlljmgphgmklcaa.QL10FaultOf
set_option linter.unusedVariables false
set_option linter.unusedSimpArgs false
open Go.RowKit
open Go.Proofs.Ytlljmgphgmklcaa.GoP Go.Proofs.Ytlljmgphgmklcaa.PlainStamp Go.Proofs.Ytlljmgphgmklcaa.QBase Go.Proofs.Ytlljmgphgmklcaa.Q10FaultOf Go.Proofs.Ytlljmgphgmklcaa.Q10Two Go.Proofs.Ytlljmgphgmklcaa.QLoop Go.Proofs.Ytlljmgphgmklcaa.PCover Go.Proofs.Ytlljmgphgmklcaa.PRate Go.Proofs.Ytlljmgphgmklcaa.PMail Go.Proofs.Ytlljmgphgmklcaa.QHRateE Go.Proofs.Ytlljmgphgmklcaa.QHMailE Go.Proofs.Ytlljmgphgmklcaa.QHCoverE

theorem law_faultOf {fuel : Nat} (rs : List Rate) (ms : List Mail) (x : Cover) (hr : rs.length ≤ 9223372036854775807) (hm : ms.length ≤ 9223372036854775807) (hf : 17 < fuel) : GlFnExactFaultOf.P fuel rs ms x = some true := by
  have ht := QHCoverE.toOne x
  obtain ⟨⟨p, q⟩, hs⟩ : ∃ y, y = faultRes rs ms x := ⟨_, rfl⟩
  have e1 := faultOf_impl rs ms x hr hm
  have e2 := faultOf_spec (fuel := fuel) rs ms x hr hm hf
  rw [← hs] at e1 e2
  obtain ⟨a, b, c, d, e, f, g, h, i⟩ := x
  simp only [GlFnExactFaultOf.P, unCover, letK, iteK_if]
  refine sz_two rs ms hr hm rfl ?_
  intro v hv hr2 hm2
  simp [ht, QHRateE.toS rs hr2, QHMailE.toS ms hm2, e1, e2, bind2, joinK, appK, iteK_if, QHRateE.eqS, QHMailE.eqS]
end Go.Proofs.Ytlljmgphgmklcaa.QL10FaultOf

