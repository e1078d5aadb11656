/- Texts on which the proofs of several laws stand, one behind the other (17 of 21). No condition of their own. -/
import Derived.Test.YtlljmgphgmklcaaChecked
import Derived.Test.YtlljmgphgmklcaaC10P1
import Derived.Test.YtlljmgphgmklcaaC10P2
import Derived.Test.YtlljmgphgmklcaaC10P16
import Derived.Test.YtlljmgphgmklcaaC10P4
import Derived.Test.YtlljmgphgmklcaaC10P5
import Derived.Test.YtlljmgphgmklcaaC10P6
import Derived.Test.YtlljmgphgmklcaaC10P8
import Derived.Test.YtlljmgphgmklcaaC10P9
import Derived.WalkKit
import Derived.WalkSpells
import Derived.WalkLawsBesides
import Derived.BigQuiet
import Derived.OwnWalk
import Derived.Deep.LoopGhost
import Derived.Deep.QuietTactic
import Derived.IntWalk
import Derived.Lib.QuietBelow
import Derived.Test.YtlljmgphgmklcaaC10P7
import Derived.Test.YtlljmgphgmklcaaC10P10
/- loop.example/g01062/laws.FnExactFaultCounts as a plain function, and the contract of the program's: where the plain one has an answer, the program has it. Conditions: slices read as lists. -/
namespace Go.Proofs.Ytlljmgphgmklcaa.GlFnExactFaultCounts
set_option linter.unusedVariables false
set_option linter.unusedSimpArgs false
open Go.RowKit
open Go.Proofs.Ytlljmgphgmklcaa.Rowed Go.Proofs.Ytlljmgphgmklcaa.Turn Go.Proofs.Ytlljmgphgmklcaa.Aid Go.Proofs.Ytlljmgphgmklcaa.GoP Go.Proofs.Ytlljmgphgmklcaa.GoM

def P (fuel : Nat) (aRates : (List Go.Proofs.Ytlljmgphgmklcaa.PRate.Rate)) (aMails : (List Go.Proofs.Ytlljmgphgmklcaa.PMail.Mail)) (aList : (List Go.Proofs.Ytlljmgphgmklcaa.PCover.Cover)) : Option (Bool) :=
  Option.bind (Go.Proofs.Ytlljmgphgmklcaa.GlSzRateS.P aRates 1048576) fun (t_4 : Int) =>
  letK (decide (t_4 < 0)) fun (t_7 : Bool) =>
  iteK t_7
  (some true)
  (Option.bind (Go.Proofs.Ytlljmgphgmklcaa.GlSzMailS.P aMails t_4) fun (t_11 : Int) =>
  letK (decide (t_11 < 0)) fun (t_14 : Bool) =>
  iteK t_14
  (some true)
  (Option.bind (Go.Proofs.Ytlljmgphgmklcaa.GlSzCoverS.P aList t_11) fun (t_18 : Int) =>
  letK (decide (t_18 < 0)) fun (t_21 : Bool) =>
  iteK t_21
  (some true)
  (Option.bind (Go.Proofs.Ytlljmgphgmklcaa.GlToRateS.P aRates) fun (t_24 : (List Go.Proofs.Ytlljmgphgmklcaa.PRate.Rate)) =>
  Option.bind (Go.Proofs.Ytlljmgphgmklcaa.GlToMailS.P aMails) fun (t_26 : (List Go.Proofs.Ytlljmgphgmklcaa.PMail.Mail)) =>
  Option.bind (Go.Proofs.Ytlljmgphgmklcaa.GlToCoverS.P aList) fun (t_28 : (List Go.Proofs.Ytlljmgphgmklcaa.PCover.Cover)) =>
  bind2 (Go.Proofs.Ytlljmgphgmklcaa.GsFaultCounts.P fuel t_24 t_26 t_28) fun (t_29a : Go.Proofs.Ytlljmgphgmklcaa.PIntA6.IntA6) (t_29b : Bool) =>
  unIntA6 t_29a fun (t_29a_x0 : Int) (t_29a_x1 : Int) (t_29a_x2 : Int) (t_29a_x3 : Int) (t_29a_x4 : Int) (t_29a_x5 : Int) =>
  Option.bind (Go.Proofs.Ytlljmgphgmklcaa.GlToRateS.P aRates) fun (t_37 : (List Go.Proofs.Ytlljmgphgmklcaa.PRate.Rate)) =>
  Option.bind (Go.Proofs.Ytlljmgphgmklcaa.GlToMailS.P aMails) fun (t_40 : (List Go.Proofs.Ytlljmgphgmklcaa.PMail.Mail)) =>
  Option.bind (Go.Proofs.Ytlljmgphgmklcaa.GlToCoverS.P aList) fun (t_43 : (List Go.Proofs.Ytlljmgphgmklcaa.PCover.Cover)) =>
  bind2 (Go.Proofs.Ytlljmgphgmklcaa.GiFaultCounts.P t_37 t_40 t_43) fun (t_48a : Go.Proofs.Ytlljmgphgmklcaa.PIntA6.IntA6) (t_48b : Bool) =>
  unIntA6 t_48a fun (t_48a_x0 : Int) (t_48a_x1 : Int) (t_48a_x2 : Int) (t_48a_x3 : Int) (t_48a_x4 : Int) (t_48a_x5 : Int) =>
  Option.bind (Go.Proofs.Ytlljmgphgmklcaa.GlEqIntA6.P (Go.Proofs.Ytlljmgphgmklcaa.PIntA6.IntA6.mk t_48a_x0 t_48a_x1 t_48a_x2 t_48a_x3 t_48a_x4 t_48a_x5) (Go.Proofs.Ytlljmgphgmklcaa.PIntA6.IntA6.mk t_29a_x0 t_29a_x1 t_29a_x2 t_29a_x3 t_29a_x4 t_29a_x5)) fun (t_57 : Bool) =>
  letK (!t_57) fun (t_58 : Bool) =>
  joinK (fun (t_63 : Bool) =>
  iteK t_63
  (some false)
  (Option.bind (Go.Proofs.Ytlljmgphgmklcaa.GlToRateS.P aRates) fun (t_67 : (List Go.Proofs.Ytlljmgphgmklcaa.PRate.Rate)) =>
  Option.bind (Go.Proofs.Ytlljmgphgmklcaa.GlEqRateS.P t_37 t_67) fun (t_68 : Bool) =>
  letK (!t_68) fun (t_69 : Bool) =>
  iteK t_69
  (some false)
  (Option.bind (Go.Proofs.Ytlljmgphgmklcaa.GlToMailS.P aMails) fun (t_73 : (List Go.Proofs.Ytlljmgphgmklcaa.PMail.Mail)) =>
  Option.bind (Go.Proofs.Ytlljmgphgmklcaa.GlEqMailS.P t_40 t_73) fun (t_74 : Bool) =>
  letK (!t_74) fun (t_75 : Bool) =>
  iteK t_75
  (some false)
  (Option.bind (Go.Proofs.Ytlljmgphgmklcaa.GlToCoverS.P aList) fun (t_79 : (List Go.Proofs.Ytlljmgphgmklcaa.PCover.Cover)) =>
  Option.bind (Go.Proofs.Ytlljmgphgmklcaa.GlEqCoverS.P t_43 t_79) fun (t_80 : Bool) =>
  letK (!t_80) fun (t_81 : Bool) =>
  iteK t_81
  (some false)
  (some true))))) fun jt_63 => iteK t_58 (appK jt_63 true) (letK (!(t_48b == t_29b)) fun (t_62 : Bool) =>
  appK jt_63 t_62))))

set_option maxRecDepth 100000 in
set_option maxHeartbeats 2000000 in
theorem C (fuel : Nat) (aRates : (List Go.Proofs.Ytlljmgphgmklcaa.PRate.Rate)) (aMails : (List Go.Proofs.Ytlljmgphgmklcaa.PMail.Mail)) (aList : (List Go.Proofs.Ytlljmgphgmklcaa.PCover.Cover)) (A0 : Option Addr) (c0 : Nat) (A1 : Option Addr) (c1 : Nat) (A2 : Option Addr) (c2 : Nat)  (w : World) (M0 : Hid (Cells w 5 A0 aRates.length (Go.Proofs.Ytlljmgphgmklcaa.PRate.flat aRates))) (N0 : Hid (aRates.length ≤ 9223372036854775807)) (M1 : Hid (Cells w 4 A1 aMails.length (Go.Proofs.Ytlljmgphgmklcaa.PMail.flat aMails))) (N1 : Hid (aMails.length ≤ 9223372036854775807)) (M2 : Hid (Cells w 9 A2 aList.length (Go.Proofs.Ytlljmgphgmklcaa.PCover.flat aList))) (N2 : Hid (aList.length ≤ 9223372036854775807))  {r : Bool} (H : Hid (P fuel aRates aMails aList = some r)) :
    Calls Try.prog 7 #[.slice A0 aRates.length c0, .slice A1 aMails.length c1, .slice A2 aList.length c2] w (Gives (.bool r) w) := by
  have HB := Lib.hid (Below.refl w.heap.size w)
  unfold P at H
  have N0o := N0.out
  have N1o := N1.out
  have N2o := N2.out
  go_enter Try.func7, Try.ntmps7
  replace H := bind_hid H
  obtain ⟨t_4, qt_4, H⟩ := H
  go_wp2_with fail
  go_at_call 24
  refine (Go.Proofs.Ytlljmgphgmklcaa.GlSzRateS.C (aRates) (1048576) A0 c0 _   (Lib.hid (Cells.below M0.out HB.out)) N0 qt_4).mono ?_
  rintro e_t_4 wt_4 ⟨rfl, bt_4⟩
  have HBwt_4 := Lib.hid (Below.step HB.out bt_4)
  clear bt_4
  replace H := let_hid H
  obtain ⟨t_7, ht_7, H⟩ := H
  cases t_7 with
  | false =>
    replace H := ite_f H
    replace H := bind_hid H
    obtain ⟨t_11, qt_11, H⟩ := H
    go_wp2_with fail
    go_at_call 25
    refine (Go.Proofs.Ytlljmgphgmklcaa.GlSzMailS.C (aMails) (t_4) A1 c1 _   (Lib.hid (Cells.below M1.out HBwt_4.out)) N1 qt_11).mono ?_
    rintro e_t_11 wt_11 ⟨rfl, bt_11⟩
    have HBwt_11 := Lib.hid (Below.step HBwt_4.out bt_11)
    clear bt_11
    replace H := let_hid H
    obtain ⟨t_14, ht_14, H⟩ := H
    cases t_14 with
    | false =>
      replace H := ite_f H
      replace H := bind_hid H
      obtain ⟨t_18, qt_18, H⟩ := H
      go_wp2_with fail
      go_at_call 19
      refine (Go.Proofs.Ytlljmgphgmklcaa.GlSzCoverS.C (aList) (t_11) A2 c2 _   (Lib.hid (Cells.below M2.out HBwt_11.out)) N2 qt_18).mono ?_
      rintro e_t_18 wt_18 ⟨rfl, bt_18⟩
      have HBwt_18 := Lib.hid (Below.step HBwt_11.out bt_18)
      clear bt_18
      replace H := let_hid H
      obtain ⟨t_21, ht_21, H⟩ := H
      cases t_21 with
      | false =>
        replace H := ite_f H
        replace H := bind_hid H
        obtain ⟨t_24, qt_24, H⟩ := H
        go_wp2_with fail
        go_at_call 27
        refine (Go.Proofs.Ytlljmgphgmklcaa.GlToRateS.C (aRates) A0 c0 _   (Lib.hid (Cells.below M0.out HBwt_18.out)) N0 qt_24).mono ?_
        rintro e_t_24 wt_24 ⟨At_24, ct_24, rfl, ot_24, bt_24⟩
        have Ot_24 := Lib.hid (own_lower ot_24 HBwt_18.out.size)
        clear ot_24
        have HBwt_24 := Lib.hid (Below.step HBwt_18.out bt_24)
        clear bt_24
        replace H := bind_hid H
        obtain ⟨t_26, qt_26, H⟩ := H
        go_wp2_with fail
        go_at_call 28
        refine (Go.Proofs.Ytlljmgphgmklcaa.GlToMailS.C (aMails) A1 c1 _   (Lib.hid (Cells.below M1.out HBwt_24.out)) N1 qt_26).mono ?_
        rintro e_t_26 wt_26 ⟨At_26, ct_26, rfl, ot_26, bt_26⟩
        have Dt_26_t_24 := Lib.hid (apart_call ot_26 Ot_24.out)
        have Ot_26 := Lib.hid (own_lower ot_26 HBwt_24.out.size)
        clear ot_26
        have HBwt_26 := Lib.hid (Below.step HBwt_24.out bt_26)
        replace Ot_24 := Lib.hid (own_below Ot_24.out bt_26)
        clear bt_26
        replace H := bind_hid H
        obtain ⟨t_28, qt_28, H⟩ := H
        go_wp2_with fail
        go_at_call 21
        refine (Go.Proofs.Ytlljmgphgmklcaa.GlToCoverS.C (aList) A2 c2 _   (Lib.hid (Cells.below M2.out HBwt_26.out)) N2 qt_28).mono ?_
        rintro e_t_28 wt_28 ⟨At_28, ct_28, rfl, ot_28, bt_28⟩
        have Dt_28_t_24 := Lib.hid (apart_call ot_28 Ot_24.out)
        have Dt_28_t_26 := Lib.hid (apart_call ot_28 Ot_26.out)
        have Ot_28 := Lib.hid (own_lower ot_28 HBwt_26.out.size)
        clear ot_28
        have HBwt_28 := Lib.hid (Below.step HBwt_26.out bt_28)
        replace Ot_24 := Lib.hid (own_below Ot_24.out bt_28)
        replace Ot_26 := Lib.hid (own_below Ot_26.out bt_28)
        clear bt_28
        replace H := bind2_hid H
        obtain ⟨t_29a, t_29b, qt_29, H⟩ := H
        obtain ⟨t_29a_x0, t_29a_x1, t_29a_x2, t_29a_x3, t_29a_x4, t_29a_x5⟩ := t_29a
        replace H := unIntA6_hid H
        go_wp2_with fail
        go_at_call 40
        refine (Go.Proofs.Ytlljmgphgmklcaa.GsFaultCounts.C fuel (t_24) (t_26) (t_28) At_24 ct_24 At_26 ct_26 At_28 ct_28 _   (Lib.hid (own_cells Ot_24.out)) (Lib.hid (own_max Ot_24.out)) (Lib.hid (own_cells Ot_26.out)) (Lib.hid (own_max Ot_26.out)) (Lib.hid (own_cells Ot_28.out)) (Lib.hid (own_max Ot_28.out)) qt_29).mono ?_
        rintro e_t_29 wt_29 ⟨rfl, bt_29⟩
        unfold Go.Proofs.Ytlljmgphgmklcaa.PIntA6.IntA6.val
        have HBwt_29 := Lib.hid (Below.step HBwt_28.out bt_29)
        replace Ot_24 := Lib.hid (own_below Ot_24.out bt_29)
        replace Ot_26 := Lib.hid (own_below Ot_26.out bt_29)
        replace Ot_28 := Lib.hid (own_below Ot_28.out bt_29)
        clear bt_29
        obtain ⟨w_w0_33, hw_w0_33⟩ : ∃ x, wt_29.alloc (.cells #[.int .i64 t_29a_x0, .int .i64 t_29a_x1, .int .i64 t_29a_x2, .int .i64 t_29a_x3, .int .i64 t_29a_x4, .int .i64 t_29a_x5] 57) = x := ⟨_, rfl⟩
        have bw_w0_33 : Below wt_29.heap.size wt_29 w_w0_33 := by rw [← hw_w0_33]; exact (Below.refl _ _).alloc (Nat.le_refl _) _
        have Dw0_33_t_24 := Lib.hid (apart_fresh Ot_24.out)
        have Dw0_33_t_26 := Lib.hid (apart_fresh Ot_26.out)
        have Dw0_33_t_28 := Lib.hid (apart_fresh Ot_28.out)
        have HBw_w0_33 := Lib.hid (Below.step HBwt_29.out bw_w0_33)
        replace Ot_24 := Lib.hid (own_below Ot_24.out bw_w0_33)
        replace Ot_26 := Lib.hid (own_below Ot_26.out bw_w0_33)
        replace Ot_28 := Lib.hid (own_below Ot_28.out bw_w0_33)
        clear bw_w0_33
        have kw0_33_0 : w_w0_33.cell? ⟨wt_29.heap.size, 0, none⟩ = some (.int .i64 t_29a_x0) := by rw [← hw_w0_33]; exact box_new _ _ _ 0 _ rfl
        have kw0_33_1 : w_w0_33.cell? ⟨wt_29.heap.size, 1, none⟩ = some (.int .i64 t_29a_x1) := by rw [← hw_w0_33]; exact box_new _ _ _ 1 _ rfl
        have kw0_33_2 : w_w0_33.cell? ⟨wt_29.heap.size, 2, none⟩ = some (.int .i64 t_29a_x2) := by rw [← hw_w0_33]; exact box_new _ _ _ 2 _ rfl
        have kw0_33_3 : w_w0_33.cell? ⟨wt_29.heap.size, 3, none⟩ = some (.int .i64 t_29a_x3) := by rw [← hw_w0_33]; exact box_new _ _ _ 3 _ rfl
        have kw0_33_4 : w_w0_33.cell? ⟨wt_29.heap.size, 4, none⟩ = some (.int .i64 t_29a_x4) := by rw [← hw_w0_33]; exact box_new _ _ _ 4 _ rfl
        have kw0_33_5 : w_w0_33.cell? ⟨wt_29.heap.size, 5, none⟩ = some (.int .i64 t_29a_x5) := by rw [← hw_w0_33]; exact box_new _ _ _ 5 _ rfl
        replace H := bind_hid H
        obtain ⟨t_37, qt_37, H⟩ := H
        go_wp2_with fail
        go_at_call 27
        refine (Go.Proofs.Ytlljmgphgmklcaa.GlToRateS.C (aRates) A0 c0 _   (Lib.hid (Cells.below M0.out HBw_w0_33.out)) N0 qt_37).mono ?_
        rintro e_t_37 wt_37 ⟨At_37, ct_37, rfl, ot_37, bt_37⟩
        have Dt_37_t_24 := Lib.hid (apart_call ot_37 Ot_24.out)
        have Dt_37_t_26 := Lib.hid (apart_call ot_37 Ot_26.out)
        have Dt_37_t_28 := Lib.hid (apart_call ot_37 Ot_28.out)
        have Dt_37_w0_33 := Lib.hid (apart_callbox ot_37 kw0_33_0)
        have Ot_37 := Lib.hid (own_lower ot_37 HBw_w0_33.out.size)
        clear ot_37
        have HBwt_37 := Lib.hid (Below.step HBw_w0_33.out bt_37)
        replace kw0_33_0 := cell_below bt_37 kw0_33_0
        replace kw0_33_1 := cell_below bt_37 kw0_33_1
        replace kw0_33_2 := cell_below bt_37 kw0_33_2
        replace kw0_33_3 := cell_below bt_37 kw0_33_3
        replace kw0_33_4 := cell_below bt_37 kw0_33_4
        replace kw0_33_5 := cell_below bt_37 kw0_33_5
        replace Ot_24 := Lib.hid (own_below Ot_24.out bt_37)
        replace Ot_26 := Lib.hid (own_below Ot_26.out bt_37)
        replace Ot_28 := Lib.hid (own_below Ot_28.out bt_37)
        clear bt_37
        replace H := bind_hid H
        obtain ⟨t_40, qt_40, H⟩ := H
        go_wp2_with fail
        go_at_call 28
        refine (Go.Proofs.Ytlljmgphgmklcaa.GlToMailS.C (aMails) A1 c1 _   (Lib.hid (Cells.below M1.out HBwt_37.out)) N1 qt_40).mono ?_
        rintro e_t_40 wt_40 ⟨At_40, ct_40, rfl, ot_40, bt_40⟩
        have Dt_40_t_24 := Lib.hid (apart_call ot_40 Ot_24.out)
        have Dt_40_t_26 := Lib.hid (apart_call ot_40 Ot_26.out)
        have Dt_40_t_28 := Lib.hid (apart_call ot_40 Ot_28.out)
        have Dt_40_t_37 := Lib.hid (apart_call ot_40 Ot_37.out)
        have Dt_40_w0_33 := Lib.hid (apart_callbox ot_40 kw0_33_0)
        have Ot_40 := Lib.hid (own_lower ot_40 HBwt_37.out.size)
        clear ot_40
        have HBwt_40 := Lib.hid (Below.step HBwt_37.out bt_40)
        replace kw0_33_0 := cell_below bt_40 kw0_33_0
        replace kw0_33_1 := cell_below bt_40 kw0_33_1
        replace kw0_33_2 := cell_below bt_40 kw0_33_2
        replace kw0_33_3 := cell_below bt_40 kw0_33_3
        replace kw0_33_4 := cell_below bt_40 kw0_33_4
        replace kw0_33_5 := cell_below bt_40 kw0_33_5
        replace Ot_24 := Lib.hid (own_below Ot_24.out bt_40)
        replace Ot_26 := Lib.hid (own_below Ot_26.out bt_40)
        replace Ot_28 := Lib.hid (own_below Ot_28.out bt_40)
        replace Ot_37 := Lib.hid (own_below Ot_37.out bt_40)
        clear bt_40
        replace H := bind_hid H
        obtain ⟨t_43, qt_43, H⟩ := H
        go_wp2_with fail
        go_at_call 21
        refine (Go.Proofs.Ytlljmgphgmklcaa.GlToCoverS.C (aList) A2 c2 _   (Lib.hid (Cells.below M2.out HBwt_40.out)) N2 qt_43).mono ?_
        rintro e_t_43 wt_43 ⟨At_43, ct_43, rfl, ot_43, bt_43⟩
        have Dt_43_t_24 := Lib.hid (apart_call ot_43 Ot_24.out)
        have Dt_43_t_26 := Lib.hid (apart_call ot_43 Ot_26.out)
        have Dt_43_t_28 := Lib.hid (apart_call ot_43 Ot_28.out)
        have Dt_43_t_37 := Lib.hid (apart_call ot_43 Ot_37.out)
        have Dt_43_t_40 := Lib.hid (apart_call ot_43 Ot_40.out)
        have Dt_43_w0_33 := Lib.hid (apart_callbox ot_43 kw0_33_0)
        have Ot_43 := Lib.hid (own_lower ot_43 HBwt_40.out.size)
        clear ot_43
        have HBwt_43 := Lib.hid (Below.step HBwt_40.out bt_43)
        replace kw0_33_0 := cell_below bt_43 kw0_33_0
        replace kw0_33_1 := cell_below bt_43 kw0_33_1
        replace kw0_33_2 := cell_below bt_43 kw0_33_2
        replace kw0_33_3 := cell_below bt_43 kw0_33_3
        replace kw0_33_4 := cell_below bt_43 kw0_33_4
        replace kw0_33_5 := cell_below bt_43 kw0_33_5
        replace Ot_24 := Lib.hid (own_below Ot_24.out bt_43)
        replace Ot_26 := Lib.hid (own_below Ot_26.out bt_43)
        replace Ot_28 := Lib.hid (own_below Ot_28.out bt_43)
        replace Ot_37 := Lib.hid (own_below Ot_37.out bt_43)
        replace Ot_40 := Lib.hid (own_below Ot_40.out bt_43)
        clear bt_43
        replace H := bind2_hid H
        obtain ⟨t_48a, t_48b, qt_48, H⟩ := H
        obtain ⟨t_48a_x0, t_48a_x1, t_48a_x2, t_48a_x3, t_48a_x4, t_48a_x5⟩ := t_48a
        replace H := unIntA6_hid H
        go_wp2_with fail
        go_at_call 41
        refine (Go.Proofs.Ytlljmgphgmklcaa.GiFaultCounts.C (t_37) (t_40) (t_43) At_37 ct_37 At_40 ct_40 At_43 ct_43 _   (Lib.hid (own_cells Ot_37.out)) (Lib.hid (own_max Ot_37.out)) (Lib.hid (own_cells Ot_40.out)) (Lib.hid (own_max Ot_40.out)) (Lib.hid (own_cells Ot_43.out)) (Lib.hid (own_max Ot_43.out)) qt_48).mono ?_
        rintro e_t_48 wt_48 ⟨rfl, bt_48⟩
        unfold Go.Proofs.Ytlljmgphgmklcaa.PIntA6.IntA6.val
        have HBwt_48 := Lib.hid (Below.step HBwt_43.out bt_48)
        replace kw0_33_0 := cell_below bt_48 kw0_33_0
        replace kw0_33_1 := cell_below bt_48 kw0_33_1
        replace kw0_33_2 := cell_below bt_48 kw0_33_2
        replace kw0_33_3 := cell_below bt_48 kw0_33_3
        replace kw0_33_4 := cell_below bt_48 kw0_33_4
        replace kw0_33_5 := cell_below bt_48 kw0_33_5
        replace Ot_24 := Lib.hid (own_below Ot_24.out bt_48)
        replace Ot_26 := Lib.hid (own_below Ot_26.out bt_48)
        replace Ot_28 := Lib.hid (own_below Ot_28.out bt_48)
        replace Ot_37 := Lib.hid (own_below Ot_37.out bt_48)
        replace Ot_40 := Lib.hid (own_below Ot_40.out bt_48)
        replace Ot_43 := Lib.hid (own_below Ot_43.out bt_48)
        clear bt_48
        obtain ⟨w_g0_52, hw_g0_52⟩ : ∃ x, wt_48.alloc (.cells #[.int .i64 t_48a_x0, .int .i64 t_48a_x1, .int .i64 t_48a_x2, .int .i64 t_48a_x3, .int .i64 t_48a_x4, .int .i64 t_48a_x5] 57) = x := ⟨_, rfl⟩
        have bw_g0_52 : Below wt_48.heap.size wt_48 w_g0_52 := by rw [← hw_g0_52]; exact (Below.refl _ _).alloc (Nat.le_refl _) _
        have Dg0_52_t_24 := Lib.hid (apart_fresh Ot_24.out)
        have Dg0_52_t_26 := Lib.hid (apart_fresh Ot_26.out)
        have Dg0_52_t_28 := Lib.hid (apart_fresh Ot_28.out)
        have Dg0_52_t_37 := Lib.hid (apart_fresh Ot_37.out)
        have Dg0_52_t_40 := Lib.hid (apart_fresh Ot_40.out)
        have Dg0_52_t_43 := Lib.hid (apart_fresh Ot_43.out)
        have HBw_g0_52 := Lib.hid (Below.step HBwt_48.out bw_g0_52)
        have kw0_33_0__854 := cell_below bw_g0_52 kw0_33_0
        have kw0_33_1__855 := cell_below bw_g0_52 kw0_33_1
        have kw0_33_2__856 := cell_below bw_g0_52 kw0_33_2
        have kw0_33_3__857 := cell_below bw_g0_52 kw0_33_3
        have kw0_33_4__858 := cell_below bw_g0_52 kw0_33_4
        have kw0_33_5__859 := cell_below bw_g0_52 kw0_33_5
        replace Ot_24 := Lib.hid (own_below Ot_24.out bw_g0_52)
        replace Ot_26 := Lib.hid (own_below Ot_26.out bw_g0_52)
        replace Ot_28 := Lib.hid (own_below Ot_28.out bw_g0_52)
        replace Ot_37 := Lib.hid (own_below Ot_37.out bw_g0_52)
        replace Ot_40 := Lib.hid (own_below Ot_40.out bw_g0_52)
        replace Ot_43 := Lib.hid (own_below Ot_43.out bw_g0_52)
        clear bw_g0_52
        have kg0_52_0 : w_g0_52.cell? ⟨wt_48.heap.size, 0, none⟩ = some (.int .i64 t_48a_x0) := by rw [← hw_g0_52]; exact box_new _ _ _ 0 _ rfl
        have kg0_52_1 : w_g0_52.cell? ⟨wt_48.heap.size, 1, none⟩ = some (.int .i64 t_48a_x1) := by rw [← hw_g0_52]; exact box_new _ _ _ 1 _ rfl
        have kg0_52_2 : w_g0_52.cell? ⟨wt_48.heap.size, 2, none⟩ = some (.int .i64 t_48a_x2) := by rw [← hw_g0_52]; exact box_new _ _ _ 2 _ rfl
        have kg0_52_3 : w_g0_52.cell? ⟨wt_48.heap.size, 3, none⟩ = some (.int .i64 t_48a_x3) := by rw [← hw_g0_52]; exact box_new _ _ _ 3 _ rfl
        have kg0_52_4 : w_g0_52.cell? ⟨wt_48.heap.size, 4, none⟩ = some (.int .i64 t_48a_x4) := by rw [← hw_g0_52]; exact box_new _ _ _ 4 _ rfl
        have kg0_52_5 : w_g0_52.cell? ⟨wt_48.heap.size, 5, none⟩ = some (.int .i64 t_48a_x5) := by rw [← hw_g0_52]; exact box_new _ _ _ 5 _ rfl
        replace H := bind_hid H
        obtain ⟨t_57, qt_57, H⟩ := H
        go_wp2_with fail
        clear kw0_33_0 kw0_33_1 kw0_33_2 kw0_33_3 kw0_33_4 kw0_33_5
        go_at_call 42
        refine (Go.Proofs.Ytlljmgphgmklcaa.GlEqIntA6.C ((Go.Proofs.Ytlljmgphgmklcaa.PIntA6.IntA6.mk t_48a_x0 t_48a_x1 t_48a_x2 t_48a_x3 t_48a_x4 t_48a_x5)) ((Go.Proofs.Ytlljmgphgmklcaa.PIntA6.IntA6.mk t_29a_x0 t_29a_x1 t_29a_x2 t_29a_x3 t_29a_x4 t_29a_x5))  _    qt_57).mono ?_
        rintro e_t_57 wt_57 ⟨rfl, bt_57⟩
        have HBwt_57 := Lib.hid (Below.step HBw_g0_52.out bt_57)
        replace kw0_33_0__854 := cell_below bt_57 kw0_33_0__854
        replace kw0_33_1__855 := cell_below bt_57 kw0_33_1__855
        replace kw0_33_2__856 := cell_below bt_57 kw0_33_2__856
        replace kw0_33_3__857 := cell_below bt_57 kw0_33_3__857
        replace kw0_33_4__858 := cell_below bt_57 kw0_33_4__858
        replace kw0_33_5__859 := cell_below bt_57 kw0_33_5__859
        replace kg0_52_0 := cell_below bt_57 kg0_52_0
        replace kg0_52_1 := cell_below bt_57 kg0_52_1
        replace kg0_52_2 := cell_below bt_57 kg0_52_2
        replace kg0_52_3 := cell_below bt_57 kg0_52_3
        replace kg0_52_4 := cell_below bt_57 kg0_52_4
        replace kg0_52_5 := cell_below bt_57 kg0_52_5
        replace Ot_24 := Lib.hid (own_below Ot_24.out bt_57)
        replace Ot_26 := Lib.hid (own_below Ot_26.out bt_57)
        replace Ot_28 := Lib.hid (own_below Ot_28.out bt_57)
        replace Ot_37 := Lib.hid (own_below Ot_37.out bt_57)
        replace Ot_40 := Lib.hid (own_below Ot_40.out bt_57)
        replace Ot_43 := Lib.hid (own_below Ot_43.out bt_57)
        clear bt_57
        cases t_57 with
        | false =>
          replace H := let_hid H
          obtain ⟨t_58, ht_58, H⟩ := H
          obtain rfl : t_58 = true := ht_58.symm
          replace H := join_hid H
          replace H := ite_t H
          replace H := app_hid H
          replace H := ite_t H
          obtain rfl := ret_hid H
          go_wp2_with fail
          go_ret
          exact ⟨rfl, HBwt_57.out⟩
        | true =>
          replace H := let_hid H
          obtain ⟨t_58, ht_58, H⟩ := H
          obtain rfl : t_58 = false := ht_58.symm
          replace H := join_hid H
          replace H := ite_f H
          replace H := let_hid H
          obtain ⟨t_62, ht_62, H⟩ := H
          replace H := app_hid H
          cases t_62 with
          | false =>
            replace H := ite_f H
            replace H := bind_hid H
            obtain ⟨t_67, qt_67, H⟩ := H
            go_wp2_with fail
            go_at_call 27
            refine (Go.Proofs.Ytlljmgphgmklcaa.GlToRateS.C (aRates) A0 c0 _   (Lib.hid (Cells.below M0.out HBwt_57.out)) N0 qt_67).mono ?_
            rintro e_t_67 wt_67 ⟨At_67, ct_67, rfl, ot_67, bt_67⟩
            have Dt_67_t_24 := Lib.hid (apart_call ot_67 Ot_24.out)
            have Dt_67_t_26 := Lib.hid (apart_call ot_67 Ot_26.out)
            have Dt_67_t_28 := Lib.hid (apart_call ot_67 Ot_28.out)
            have Dt_67_t_37 := Lib.hid (apart_call ot_67 Ot_37.out)
            have Dt_67_t_40 := Lib.hid (apart_call ot_67 Ot_40.out)
            have Dt_67_t_43 := Lib.hid (apart_call ot_67 Ot_43.out)
            have Dt_67_w0_33 := Lib.hid (apart_callbox ot_67 kw0_33_0__854)
            have Dt_67_g0_52 := Lib.hid (apart_callbox ot_67 kg0_52_0)
            have Ot_67 := Lib.hid (own_lower ot_67 HBwt_57.out.size)
            clear ot_67
            have HBwt_67 := Lib.hid (Below.step HBwt_57.out bt_67)
            replace kw0_33_0__854 := cell_below bt_67 kw0_33_0__854
            replace kw0_33_1__855 := cell_below bt_67 kw0_33_1__855
            replace kw0_33_2__856 := cell_below bt_67 kw0_33_2__856
            replace kw0_33_3__857 := cell_below bt_67 kw0_33_3__857
            replace kw0_33_4__858 := cell_below bt_67 kw0_33_4__858
            replace kw0_33_5__859 := cell_below bt_67 kw0_33_5__859
            replace kg0_52_0 := cell_below bt_67 kg0_52_0
            replace kg0_52_1 := cell_below bt_67 kg0_52_1
            replace kg0_52_2 := cell_below bt_67 kg0_52_2
            replace kg0_52_3 := cell_below bt_67 kg0_52_3
            replace kg0_52_4 := cell_below bt_67 kg0_52_4
            replace kg0_52_5 := cell_below bt_67 kg0_52_5
            replace Ot_24 := Lib.hid (own_below Ot_24.out bt_67)
            replace Ot_26 := Lib.hid (own_below Ot_26.out bt_67)
            replace Ot_28 := Lib.hid (own_below Ot_28.out bt_67)
            replace Ot_37 := Lib.hid (own_below Ot_37.out bt_67)
            replace Ot_40 := Lib.hid (own_below Ot_40.out bt_67)
            replace Ot_43 := Lib.hid (own_below Ot_43.out bt_67)
            clear bt_67
            replace H := bind_hid H
            obtain ⟨t_68, qt_68, H⟩ := H
            go_wp2_with fail
            go_at_call 30
            refine (Go.Proofs.Ytlljmgphgmklcaa.GlEqRateS.C (t_37) (t_67) At_37 ct_37 At_67 ct_67 _   (Lib.hid (own_cells Ot_37.out)) (Lib.hid (own_max Ot_37.out)) (Lib.hid (own_cells Ot_67.out)) (Lib.hid (own_max Ot_67.out)) qt_68).mono ?_
            rintro e_t_68 wt_68 ⟨rfl, bt_68⟩
            have HBwt_68 := Lib.hid (Below.step HBwt_67.out bt_68)
            replace kw0_33_0__854 := cell_below bt_68 kw0_33_0__854
            replace kw0_33_1__855 := cell_below bt_68 kw0_33_1__855
            replace kw0_33_2__856 := cell_below bt_68 kw0_33_2__856
            replace kw0_33_3__857 := cell_below bt_68 kw0_33_3__857
            replace kw0_33_4__858 := cell_below bt_68 kw0_33_4__858
            replace kw0_33_5__859 := cell_below bt_68 kw0_33_5__859
            replace kg0_52_0 := cell_below bt_68 kg0_52_0
            replace kg0_52_1 := cell_below bt_68 kg0_52_1
            replace kg0_52_2 := cell_below bt_68 kg0_52_2
            replace kg0_52_3 := cell_below bt_68 kg0_52_3
            replace kg0_52_4 := cell_below bt_68 kg0_52_4
            replace kg0_52_5 := cell_below bt_68 kg0_52_5
            replace Ot_24 := Lib.hid (own_below Ot_24.out bt_68)
            replace Ot_26 := Lib.hid (own_below Ot_26.out bt_68)
            replace Ot_28 := Lib.hid (own_below Ot_28.out bt_68)
            replace Ot_37 := Lib.hid (own_below Ot_37.out bt_68)
            replace Ot_40 := Lib.hid (own_below Ot_40.out bt_68)
            replace Ot_43 := Lib.hid (own_below Ot_43.out bt_68)
            replace Ot_67 := Lib.hid (own_below Ot_67.out bt_68)
            clear bt_68
            cases t_68 with
            | false =>
              replace H := let_hid H
              obtain ⟨t_69, ht_69, H⟩ := H
              obtain rfl : t_69 = true := ht_69.symm
              replace H := ite_t H
              obtain rfl := ret_hid H
              go_wp2_with fail
              go_ret
              exact ⟨rfl, HBwt_68.out⟩
            | true =>
              replace H := let_hid H
              obtain ⟨t_69, ht_69, H⟩ := H
              obtain rfl : t_69 = false := ht_69.symm
              replace H := ite_f H
              replace H := bind_hid H
              obtain ⟨t_73, qt_73, H⟩ := H
              go_wp2_with fail
              go_at_call 28
              refine (Go.Proofs.Ytlljmgphgmklcaa.GlToMailS.C (aMails) A1 c1 _   (Lib.hid (Cells.below M1.out HBwt_68.out)) N1 qt_73).mono ?_
              rintro e_t_73 wt_73 ⟨At_73, ct_73, rfl, ot_73, bt_73⟩
              have Dt_73_t_24 := Lib.hid (apart_call ot_73 Ot_24.out)
              have Dt_73_t_26 := Lib.hid (apart_call ot_73 Ot_26.out)
              have Dt_73_t_28 := Lib.hid (apart_call ot_73 Ot_28.out)
              have Dt_73_t_37 := Lib.hid (apart_call ot_73 Ot_37.out)
              have Dt_73_t_40 := Lib.hid (apart_call ot_73 Ot_40.out)
              have Dt_73_t_43 := Lib.hid (apart_call ot_73 Ot_43.out)
              have Dt_73_t_67 := Lib.hid (apart_call ot_73 Ot_67.out)
              have Dt_73_w0_33 := Lib.hid (apart_callbox ot_73 kw0_33_0__854)
              have Dt_73_g0_52 := Lib.hid (apart_callbox ot_73 kg0_52_0)
              have Ot_73 := Lib.hid (own_lower ot_73 HBwt_68.out.size)
              clear ot_73
              have HBwt_73 := Lib.hid (Below.step HBwt_68.out bt_73)
              replace kw0_33_0__854 := cell_below bt_73 kw0_33_0__854
              replace kw0_33_1__855 := cell_below bt_73 kw0_33_1__855
              replace kw0_33_2__856 := cell_below bt_73 kw0_33_2__856
              replace kw0_33_3__857 := cell_below bt_73 kw0_33_3__857
              replace kw0_33_4__858 := cell_below bt_73 kw0_33_4__858
              replace kw0_33_5__859 := cell_below bt_73 kw0_33_5__859
              replace kg0_52_0 := cell_below bt_73 kg0_52_0
              replace kg0_52_1 := cell_below bt_73 kg0_52_1
              replace kg0_52_2 := cell_below bt_73 kg0_52_2
              replace kg0_52_3 := cell_below bt_73 kg0_52_3
              replace kg0_52_4 := cell_below bt_73 kg0_52_4
              replace kg0_52_5 := cell_below bt_73 kg0_52_5
              replace Ot_24 := Lib.hid (own_below Ot_24.out bt_73)
              replace Ot_26 := Lib.hid (own_below Ot_26.out bt_73)
              replace Ot_28 := Lib.hid (own_below Ot_28.out bt_73)
              replace Ot_37 := Lib.hid (own_below Ot_37.out bt_73)
              replace Ot_40 := Lib.hid (own_below Ot_40.out bt_73)
              replace Ot_43 := Lib.hid (own_below Ot_43.out bt_73)
              replace Ot_67 := Lib.hid (own_below Ot_67.out bt_73)
              clear bt_73
              replace H := bind_hid H
              obtain ⟨t_74, qt_74, H⟩ := H
              go_wp2_with fail
              go_at_call 31
              refine (Go.Proofs.Ytlljmgphgmklcaa.GlEqMailS.C (t_40) (t_73) At_40 ct_40 At_73 ct_73 _   (Lib.hid (own_cells Ot_40.out)) (Lib.hid (own_max Ot_40.out)) (Lib.hid (own_cells Ot_73.out)) (Lib.hid (own_max Ot_73.out)) qt_74).mono ?_
              rintro e_t_74 wt_74 ⟨rfl, bt_74⟩
              have HBwt_74 := Lib.hid (Below.step HBwt_73.out bt_74)
              replace kw0_33_0__854 := cell_below bt_74 kw0_33_0__854
              replace kw0_33_1__855 := cell_below bt_74 kw0_33_1__855
              replace kw0_33_2__856 := cell_below bt_74 kw0_33_2__856
              replace kw0_33_3__857 := cell_below bt_74 kw0_33_3__857
              replace kw0_33_4__858 := cell_below bt_74 kw0_33_4__858
              replace kw0_33_5__859 := cell_below bt_74 kw0_33_5__859
              replace kg0_52_0 := cell_below bt_74 kg0_52_0
              replace kg0_52_1 := cell_below bt_74 kg0_52_1
              replace kg0_52_2 := cell_below bt_74 kg0_52_2
              replace kg0_52_3 := cell_below bt_74 kg0_52_3
              replace kg0_52_4 := cell_below bt_74 kg0_52_4
              replace kg0_52_5 := cell_below bt_74 kg0_52_5
              replace Ot_24 := Lib.hid (own_below Ot_24.out bt_74)
              replace Ot_26 := Lib.hid (own_below Ot_26.out bt_74)
              replace Ot_28 := Lib.hid (own_below Ot_28.out bt_74)
              replace Ot_37 := Lib.hid (own_below Ot_37.out bt_74)
              replace Ot_40 := Lib.hid (own_below Ot_40.out bt_74)
              replace Ot_43 := Lib.hid (own_below Ot_43.out bt_74)
              replace Ot_67 := Lib.hid (own_below Ot_67.out bt_74)
              replace Ot_73 := Lib.hid (own_below Ot_73.out bt_74)
              clear bt_74
              cases t_74 with
              | false =>
                replace H := let_hid H
                obtain ⟨t_75, ht_75, H⟩ := H
                obtain rfl : t_75 = true := ht_75.symm
                replace H := ite_t H
                obtain rfl := ret_hid H
                go_wp2_with fail
                go_ret
                exact ⟨rfl, HBwt_74.out⟩
              | true =>
                replace H := let_hid H
                obtain ⟨t_75, ht_75, H⟩ := H
                obtain rfl : t_75 = false := ht_75.symm
                replace H := ite_f H
                replace H := bind_hid H
                obtain ⟨t_79, qt_79, H⟩ := H
                go_wp2_with fail
                go_at_call 21
                refine (Go.Proofs.Ytlljmgphgmklcaa.GlToCoverS.C (aList) A2 c2 _   (Lib.hid (Cells.below M2.out HBwt_74.out)) N2 qt_79).mono ?_
                rintro e_t_79 wt_79 ⟨At_79, ct_79, rfl, ot_79, bt_79⟩
                have Dt_79_t_24 := Lib.hid (apart_call ot_79 Ot_24.out)
                have Dt_79_t_26 := Lib.hid (apart_call ot_79 Ot_26.out)
                have Dt_79_t_28 := Lib.hid (apart_call ot_79 Ot_28.out)
                have Dt_79_t_37 := Lib.hid (apart_call ot_79 Ot_37.out)
                have Dt_79_t_40 := Lib.hid (apart_call ot_79 Ot_40.out)
                have Dt_79_t_43 := Lib.hid (apart_call ot_79 Ot_43.out)
                have Dt_79_t_67 := Lib.hid (apart_call ot_79 Ot_67.out)
                have Dt_79_t_73 := Lib.hid (apart_call ot_79 Ot_73.out)
                have Dt_79_w0_33 := Lib.hid (apart_callbox ot_79 kw0_33_0__854)
                have Dt_79_g0_52 := Lib.hid (apart_callbox ot_79 kg0_52_0)
                have Ot_79 := Lib.hid (own_lower ot_79 HBwt_74.out.size)
                clear ot_79
                have HBwt_79 := Lib.hid (Below.step HBwt_74.out bt_79)
                replace kw0_33_0__854 := cell_below bt_79 kw0_33_0__854
                replace kw0_33_1__855 := cell_below bt_79 kw0_33_1__855
                replace kw0_33_2__856 := cell_below bt_79 kw0_33_2__856
                replace kw0_33_3__857 := cell_below bt_79 kw0_33_3__857
                replace kw0_33_4__858 := cell_below bt_79 kw0_33_4__858
                replace kw0_33_5__859 := cell_below bt_79 kw0_33_5__859
                replace kg0_52_0 := cell_below bt_79 kg0_52_0
                replace kg0_52_1 := cell_below bt_79 kg0_52_1
                replace kg0_52_2 := cell_below bt_79 kg0_52_2
                replace kg0_52_3 := cell_below bt_79 kg0_52_3
                replace kg0_52_4 := cell_below bt_79 kg0_52_4
                replace kg0_52_5 := cell_below bt_79 kg0_52_5
                replace Ot_24 := Lib.hid (own_below Ot_24.out bt_79)
                replace Ot_26 := Lib.hid (own_below Ot_26.out bt_79)
                replace Ot_28 := Lib.hid (own_below Ot_28.out bt_79)
                replace Ot_37 := Lib.hid (own_below Ot_37.out bt_79)
                replace Ot_40 := Lib.hid (own_below Ot_40.out bt_79)
                replace Ot_43 := Lib.hid (own_below Ot_43.out bt_79)
                replace Ot_67 := Lib.hid (own_below Ot_67.out bt_79)
                replace Ot_73 := Lib.hid (own_below Ot_73.out bt_79)
                clear bt_79
                replace H := bind_hid H
                obtain ⟨t_80, qt_80, H⟩ := H
                go_wp2_with fail
                go_at_call 23
                refine (Go.Proofs.Ytlljmgphgmklcaa.GlEqCoverS.C (t_43) (t_79) At_43 ct_43 At_79 ct_79 _   (Lib.hid (own_cells Ot_43.out)) (Lib.hid (own_max Ot_43.out)) (Lib.hid (own_cells Ot_79.out)) (Lib.hid (own_max Ot_79.out)) qt_80).mono ?_
                rintro e_t_80 wt_80 ⟨rfl, bt_80⟩
                have HBwt_80 := Lib.hid (Below.step HBwt_79.out bt_80)
                replace kw0_33_0__854 := cell_below bt_80 kw0_33_0__854
                replace kw0_33_1__855 := cell_below bt_80 kw0_33_1__855
                replace kw0_33_2__856 := cell_below bt_80 kw0_33_2__856
                replace kw0_33_3__857 := cell_below bt_80 kw0_33_3__857
                replace kw0_33_4__858 := cell_below bt_80 kw0_33_4__858
                replace kw0_33_5__859 := cell_below bt_80 kw0_33_5__859
                replace kg0_52_0 := cell_below bt_80 kg0_52_0
                replace kg0_52_1 := cell_below bt_80 kg0_52_1
                replace kg0_52_2 := cell_below bt_80 kg0_52_2
                replace kg0_52_3 := cell_below bt_80 kg0_52_3
                replace kg0_52_4 := cell_below bt_80 kg0_52_4
                replace kg0_52_5 := cell_below bt_80 kg0_52_5
                replace Ot_24 := Lib.hid (own_below Ot_24.out bt_80)
                replace Ot_26 := Lib.hid (own_below Ot_26.out bt_80)
                replace Ot_28 := Lib.hid (own_below Ot_28.out bt_80)
                replace Ot_37 := Lib.hid (own_below Ot_37.out bt_80)
                replace Ot_40 := Lib.hid (own_below Ot_40.out bt_80)
                replace Ot_43 := Lib.hid (own_below Ot_43.out bt_80)
                replace Ot_67 := Lib.hid (own_below Ot_67.out bt_80)
                replace Ot_73 := Lib.hid (own_below Ot_73.out bt_80)
                replace Ot_79 := Lib.hid (own_below Ot_79.out bt_80)
                clear bt_80
                cases t_80 with
                | false =>
                  replace H := let_hid H
                  obtain ⟨t_81, ht_81, H⟩ := H
                  obtain rfl : t_81 = true := ht_81.symm
                  replace H := ite_t H
                  obtain rfl := ret_hid H
                  go_wp2_with fail
                  go_ret
                  exact ⟨rfl, HBwt_80.out⟩
                | true =>
                  replace H := let_hid H
                  obtain ⟨t_81, ht_81, H⟩ := H
                  obtain rfl : t_81 = false := ht_81.symm
                  replace H := ite_f H
                  obtain rfl := ret_hid H
                  go_wp2_with fail
                  go_ret
                  exact ⟨rfl, HBwt_80.out⟩
          | true =>
            replace H := ite_t H
            obtain rfl := ret_hid H
            go_wp2_with fail
            go_ret
            exact ⟨rfl, HBwt_57.out⟩
      | true =>
        replace H := ite_t H
        obtain rfl := ret_hid H
        go_wp2_with fail
        go_ret
        exact ⟨rfl, HBwt_18.out⟩
    | true =>
      replace H := ite_t H
      obtain rfl := ret_hid H
      go_wp2_with fail
      go_ret
      exact ⟨rfl, HBwt_11.out⟩
  | true =>
    replace H := ite_t H
    obtain rfl := ret_hid H
    go_wp2_with fail
    go_ret
    exact ⟨rfl, HBwt_4.out⟩
end Go.Proofs.Ytlljmgphgmklcaa.GlFnExactFaultCounts

/- Chapter 10: covers: the plain functions of the program and of the reference agree, and the laws answer true. (Q10Counts) No condition but those of each theorem. -/
namespace Go.Proofs.Ytlljmgphgmklcaa.Q10Counts
set_option linter.unusedVariables false
set_option linter.unusedSimpArgs false
open Go.RowKit
open Go.Proofs.Ytlljmgphgmklcaa.GoP Go.Proofs.Ytlljmgphgmklcaa.PlainStamp Go.Proofs.Ytlljmgphgmklcaa.QBase Go.Proofs.Ytlljmgphgmklcaa.Q10FaultOf Go.Proofs.Ytlljmgphgmklcaa.Q10Fault Go.Proofs.Ytlljmgphgmklcaa.Q10Cover Go.Proofs.Ytlljmgphgmklcaa.Q8For Go.Proofs.Ytlljmgphgmklcaa.Q8List Go.Proofs.Ytlljmgphgmklcaa.Q9List Go.Proofs.Ytlljmgphgmklcaa.Q9Arr Go.Proofs.Ytlljmgphgmklcaa.QFoldS Go.Proofs.Ytlljmgphgmklcaa.QLoop Go.Proofs.Ytlljmgphgmklcaa.PCover Go.Proofs.Ytlljmgphgmklcaa.PRate Go.Proofs.Ytlljmgphgmklcaa.PMail Go.Proofs.Ytlljmgphgmklcaa.PIntA6 Go.Proofs.Ytlljmgphgmklcaa.GoA

theorem idx6 {s : List Int} {i : Int} (hs : s.length = 6) (hi : 0 ≤ i ∧ i ≤ 5) : idx s i = some (at_ s i) := by
  unfold idx at_; rw [if_pos hi.1, List.getD_eq_getElem?_getD, List.getElem?_eq_getElem (show i.toNat < s.length by omega)]; rfl
def stepC (rs : List Rate) (ms : List Mail) (s : List Int) (x : Cover) : List Int := s.set (faultV rs ms x).toNat (IntKind.i64.wrap (at_ s (faultV rs ms x) + 1))
def to6 (s : List Int) : IntA6 := IntA6.mk (nth s 0) (nth s 1) (nth s 2) (nth s 3) (nth s 4) (nth s 5)
def countRes (rs : List Rate) (ms : List Mail) (l : List Cover) : IntA6 × Bool := if (askB rs ms && okCs l) = true then (to6 (l.foldl (stepC rs ms) [0, 0, 0, 0, 0, 0]), true) else (to6 [0, 0, 0, 0, 0, 0], false)
theorem eq6 (a : IntA6) : GlEqIntA6.P a a = some true := by
  obtain ⟨x0, x1, x2, x3, x4, x5⟩ := a
  simp only [GlEqIntA6.P, unIntA6, letK]
  refine cnt_is true (fun _ _ => True) ?_ (fun s _ => rfl) () trivial
  intro k s nx hk _ hn
  obtain ⟨x, hx, hi⟩ := at_lt (l := [x0, x1, x2, x3, x4, x5]) (k := k) (by simpa using hk)
  simp only [GlEqIntA6.l0, hi, Option.bind_some, letK, appK, iteK_if, bne_self_eq_false]
  exact hn () trivial
theorem counts_impl (rs : List Rate) (ms : List Mail) (l : List Cover) (hr : rs.length ≤ 9223372036854775807) (hm : ms.length ≤ 9223372036854775807) : GiFaultCounts.P rs ms l = some (countRes rs ms l) := by
  have e3 := can_eq rs ms hr hm
  have e5 := areCovers_eq l
  cases ha : askB rs ms with
  | false => rw [ha] at e3; simp [GiFaultCounts.P, e3, letK, joinK, appK, iteK_if, countRes, ha, to6]
  | true =>
    rw [ha] at e3
    cases hc : okCs l with
    | false => rw [hc] at e5; simp [GiFaultCounts.P, e3, e5, letK, joinK, appK, iteK_if, countRes, ha, hc, to6]
    | true =>
      rw [hc] at e5
      simp only [GiFaultCounts.P, e3, e5, Option.bind_some, letK, joinK, appK, iteK_if, countRes, ha, hc, Bool.not_true, Bool.false_eq_true, if_false, Bool.and_self, if_true]
      rw [fold_cnt (g := stepC rs ms) (J := fun s => s.length = 6)]
      · rfl
      · intro k x s nx hx hs
        have hi : idx l (k : Int) = some x := by rw [idx_nat, hx]
        have hf := fault_impl (ask_of ha).1 (ask_of ha).2 (cs_mem hc (List.mem_of_getElem? hx))
        have h6 := idx6 hs (fault_range rs ms x)
        refine ⟨?_, by unfold stepC; rw [List.length_set, hs]⟩
        obtain ⟨a, b, c, d, e, f, g, h, i⟩ := x
        simp only [GiFaultCounts.l0, hi, Option.bind_some, unCover, hf, h6, letK, appK, stepC]
      · rfl
theorem counts_spec {fuel : Nat} (rs : List Rate) (ms : List Mail) (l : List Cover) (hr : rs.length ≤ 9223372036854775807) (hm : ms.length ≤ 9223372036854775807) (hl : l.length ≤ 9223372036854775807) (hf : 17 < fuel) : GsFaultCounts.P fuel rs ms l = some (countRes rs ms l) := by
  have e3 := l8Good_eq (fuel := fuel) rs hr hf
  have e4 := l9Good_eq ms hm
  have e5 := l10Good_eq l hl
  cases ha : okRs rs with
  | false => rw [ha] at e3; simp [GsFaultCounts.P, e3, letK, joinK, appK, iteK_if, countRes, askB, ha, to6]
  | true =>
    rw [ha] at e3
    cases hb : goodM ms with
    | false => rw [hb] at e4; simp [GsFaultCounts.P, e3, e4, letK, joinK, appK, iteK_if, countRes, askB, ha, hb, to6]
    | true =>
      rw [hb] at e4
      cases hc : okCs l with
      | false => rw [hc] at e5; simp [GsFaultCounts.P, e3, e4, e5, letK, joinK, appK, iteK_if, countRes, askB, ha, hb, hc, to6]
      | true =>
        rw [hc] at e5
        simp only [GsFaultCounts.P, e3, e4, e5, Option.bind_some, letK, joinK, appK, iteK_if, countRes, askB, ha, hb, hc, Bool.not_true, Bool.false_eq_true, if_false, Bool.and_self, if_true]
        rw [fold_cnt (g := stepC rs ms) (J := fun s => s.length = 6)]
        · rfl
        · intro k x s nx hx hs
          have hi : idx l (k : Int) = some x := by rw [idx_nat, hx]
          have hf := fault_spec ha hb (cs_mem hc (List.mem_of_getElem? hx))
          have h6 := idx6 hs (fault_range rs ms x)
          refine ⟨?_, by unfold stepC; rw [List.length_set, hs]⟩
          obtain ⟨a, b, c, d, e, f, g, h, i⟩ := x
          simp only [GsFaultCounts.l0, hi, Option.bind_some, unCover, hf, h6, letK, appK, stepC]
        · rfl
end Go.Proofs.Ytlljmgphgmklcaa.Q10Counts

/- Chapter 10: covers: the plain functions of the program and of the reference agree, and the laws answer true. (QL10Counts) No condition but those of each theorem. -/
namespace Go.Proofs.Ytlljmgphgmklcaa.QL10Counts
set_option linter.unusedVariables false
set_option linter.unusedSimpArgs false
open Go.RowKit
open Go.Proofs.Ytlljmgphgmklcaa.GoP Go.Proofs.Ytlljmgphgmklcaa.PlainStamp Go.Proofs.Ytlljmgphgmklcaa.QBase Go.Proofs.Ytlljmgphgmklcaa.Q10Counts Go.Proofs.Ytlljmgphgmklcaa.Q10Three Go.Proofs.Ytlljmgphgmklcaa.QLoop Go.Proofs.Ytlljmgphgmklcaa.PCover Go.Proofs.Ytlljmgphgmklcaa.PRate Go.Proofs.Ytlljmgphgmklcaa.PMail Go.Proofs.Ytlljmgphgmklcaa.PIntA6 Go.Proofs.Ytlljmgphgmklcaa.QHRateE Go.Proofs.Ytlljmgphgmklcaa.QHMailE Go.Proofs.Ytlljmgphgmklcaa.QHCoverE

theorem law_counts {fuel : Nat} (rs : List Rate) (ms : List Mail) (l : List Cover) (hr : rs.length ≤ 9223372036854775807) (hm : ms.length ≤ 9223372036854775807) (hl : l.length ≤ 9223372036854775807) (hf : 17 < fuel) : GlFnExactFaultCounts.P fuel rs ms l = some true := by
  simp only [GlFnExactFaultCounts.P, letK, iteK_if]
  refine sz_three rs ms l hr hm hl rfl ?_
  intro v hv hr2 hm2 hl2
  obtain ⟨⟨a, b⟩, hs⟩ : ∃ x, x = countRes rs ms l := ⟨_, rfl⟩
  have h6 := eq6 a
  obtain ⟨x0, x1, x2, x3, x4, x5⟩ := a
  simp [QHRateE.toS rs hr2, QHMailE.toS ms hm2, QHCoverE.toS l hl2, counts_spec rs ms l hr hm hl hf, counts_impl rs ms l hr hm, ← hs, bind2, unIntA6, joinK, appK, iteK_if, QHRateE.eqS, QHMailE.eqS, QHCoverE.eqS, h6]
end Go.Proofs.Ytlljmgphgmklcaa.QL10Counts

