/- Texts on which the proofs of several laws stand, one behind the other (14 of 21). No condition of their own. -/
import Derived.Test.YtlljmgphgmklcaaChecked
import Derived.Test.YtlljmgphgmklcaaC10P1
import Derived.Test.YtlljmgphgmklcaaC10P2
import Derived.Test.YtlljmgphgmklcaaC10P4
import Derived.Test.YtlljmgphgmklcaaC10P5
import Derived.Test.YtlljmgphgmklcaaC10P6
import Derived.Test.YtlljmgphgmklcaaC10P13
import Derived.Test.YtlljmgphgmklcaaC10P9
import Derived.Test.YtlljmgphgmklcaaC10P8
import Derived.Test.YtlljmgphgmklcaaC10P10
import Derived.WalkKit
import Derived.WalkSpells
import Derived.WalkLawsBesides
import Derived.BigQuiet
import Derived.OwnWalk
import Derived.Deep.LoopGhost
import Derived.Deep.QuietTactic
import Derived.IntWalk
import Derived.Lib.QuietBelow
/- loop.example/g01062/laws.FnExactTrueCovers as a plain function, and the contract of the program's: where the plain one has an answer, the program has it. Conditions: slices read as lists. -/
namespace Go.Proofs.Ytlljmgphgmklcaa.GlFnExactTrueCovers
set_option linter.unusedVariables false
set_option linter.unusedSimpArgs false
open Go.RowKit
open Go.Proofs.Ytlljmgphgmklcaa.Rowed Go.Proofs.Ytlljmgphgmklcaa.Turn Go.Proofs.Ytlljmgphgmklcaa.Aid Go.Proofs.Ytlljmgphgmklcaa.GoP Go.Proofs.Ytlljmgphgmklcaa.GoM

def P (fuel : Nat) (aRates : (List Go.Proofs.Ytlljmgphgmklcaa.PRate.Rate)) (aMails : (List Go.Proofs.Ytlljmgphgmklcaa.PMail.Mail)) (aList : (List Go.Proofs.Ytlljmgphgmklcaa.PCover.Cover)) : Option (Bool) :=
  Option.bind (Go.Proofs.Ytlljmgphgmklcaa.GlSzRateS.P aRates 1048576) fun (t_4 : Int) =>
  letK (decide (t_4 < 0)) fun (t_7 : Bool) =>
  iteK t_7
  (some true)
  (Option.bind (Go.Proofs.Ytlljmgphgmklcaa.GlSzMailS.P aMails t_4) fun (t_11 : Int) =>
  letK (decide (t_11 < 0)) fun (t_14 : Bool) =>
  iteK t_14
  (some true)
  (Option.bind (Go.Proofs.Ytlljmgphgmklcaa.GlSzCoverS.P aList t_11) fun (t_18 : Int) =>
  letK (decide (t_18 < 0)) fun (t_21 : Bool) =>
  iteK t_21
  (some true)
  (Option.bind (Go.Proofs.Ytlljmgphgmklcaa.GlToRateS.P aRates) fun (t_24 : (List Go.Proofs.Ytlljmgphgmklcaa.PRate.Rate)) =>
  Option.bind (Go.Proofs.Ytlljmgphgmklcaa.GlToMailS.P aMails) fun (t_26 : (List Go.Proofs.Ytlljmgphgmklcaa.PMail.Mail)) =>
  Option.bind (Go.Proofs.Ytlljmgphgmklcaa.GlToCoverS.P aList) fun (t_28 : (List Go.Proofs.Ytlljmgphgmklcaa.PCover.Cover)) =>
  bind2 (Go.Proofs.Ytlljmgphgmklcaa.GsTrueCovers.P fuel t_24 t_26 t_28) fun (t_29a : (List Int)) (t_29b : Bool) =>
  Option.bind (Go.Proofs.Ytlljmgphgmklcaa.GlToRateS.P aRates) fun (t_36 : (List Go.Proofs.Ytlljmgphgmklcaa.PRate.Rate)) =>
  Option.bind (Go.Proofs.Ytlljmgphgmklcaa.GlToMailS.P aMails) fun (t_39 : (List Go.Proofs.Ytlljmgphgmklcaa.PMail.Mail)) =>
  Option.bind (Go.Proofs.Ytlljmgphgmklcaa.GlToCoverS.P aList) fun (t_42 : (List Go.Proofs.Ytlljmgphgmklcaa.PCover.Cover)) =>
  bind2 (Go.Proofs.Ytlljmgphgmklcaa.GiTrueCovers.P t_36 t_39 t_42) fun (t_47a : (List Int)) (t_47b : Bool) =>
  Option.bind (Go.Proofs.Ytlljmgphgmklcaa.GlEqIntS.P t_47a t_29a) fun (t_55 : Bool) =>
  letK (!t_55) fun (t_56 : Bool) =>
  joinK (fun (t_61 : Bool) =>
  iteK t_61
  (some false)
  (Option.bind (Go.Proofs.Ytlljmgphgmklcaa.GlToRateS.P aRates) fun (t_65 : (List Go.Proofs.Ytlljmgphgmklcaa.PRate.Rate)) =>
  Option.bind (Go.Proofs.Ytlljmgphgmklcaa.GlEqRateS.P t_36 t_65) fun (t_66 : Bool) =>
  letK (!t_66) fun (t_67 : Bool) =>
  iteK t_67
  (some false)
  (Option.bind (Go.Proofs.Ytlljmgphgmklcaa.GlToMailS.P aMails) fun (t_71 : (List Go.Proofs.Ytlljmgphgmklcaa.PMail.Mail)) =>
  Option.bind (Go.Proofs.Ytlljmgphgmklcaa.GlEqMailS.P t_39 t_71) fun (t_72 : Bool) =>
  letK (!t_72) fun (t_73 : Bool) =>
  iteK t_73
  (some false)
  (Option.bind (Go.Proofs.Ytlljmgphgmklcaa.GlToCoverS.P aList) fun (t_77 : (List Go.Proofs.Ytlljmgphgmklcaa.PCover.Cover)) =>
  Option.bind (Go.Proofs.Ytlljmgphgmklcaa.GlEqCoverS.P t_42 t_77) fun (t_78 : Bool) =>
  letK (!t_78) fun (t_79 : Bool) =>
  iteK t_79
  (some false)
  (bind2 (Go.Proofs.Ytlljmgphgmklcaa.GlMarkRateS.P t_36 1) fun (t_84 : Int) (lt_84 : (List Go.Proofs.Ytlljmgphgmklcaa.PRate.Rate)) =>
  bind2 (Go.Proofs.Ytlljmgphgmklcaa.GlMarkMailS.P t_39 t_84) fun (t_88 : Int) (lt_88 : (List Go.Proofs.Ytlljmgphgmklcaa.PMail.Mail)) =>
  bind2 (Go.Proofs.Ytlljmgphgmklcaa.GlMarkCoverS.P t_42 t_88) fun (t_92 : Int) (lt_92 : (List Go.Proofs.Ytlljmgphgmklcaa.PCover.Cover)) =>
  letK (decide (t_92 < 0)) fun (t_95 : Bool) =>
  joinK (fun (t_101 : Bool) =>
  joinK (fun (t_106 : Bool) =>
  iteK t_106
  (some false)
  (bind2 (Go.Proofs.Ytlljmgphgmklcaa.GlMarkIntS.P t_47a 1) fun (t_111 : Int) (lt_111 : (List Int)) =>
  Option.bind (Go.Proofs.Ytlljmgphgmklcaa.GlHeldIntS.P lt_111 1) fun (t_116 : Int) =>
  letK (decide (t_116 < 0)) fun (t_119 : Bool) =>
  iteK t_119
  (some false)
  (letK (t_116 != t_111) fun (t_123 : Bool) =>
  iteK t_123
  (some false)
  (Option.bind (Go.Proofs.Ytlljmgphgmklcaa.GlToRateS.P aRates) fun (t_126 : (List Go.Proofs.Ytlljmgphgmklcaa.PRate.Rate)) =>
  Option.bind (Go.Proofs.Ytlljmgphgmklcaa.GlToMailS.P aMails) fun (t_128 : (List Go.Proofs.Ytlljmgphgmklcaa.PMail.Mail)) =>
  Option.bind (Go.Proofs.Ytlljmgphgmklcaa.GlToCoverS.P aList) fun (t_130 : (List Go.Proofs.Ytlljmgphgmklcaa.PCover.Cover)) =>
  bind2 (Go.Proofs.Ytlljmgphgmklcaa.GiTrueCovers.P t_126 t_128 t_130) fun (t_131a : (List Int)) (t_131b : Bool) =>
  Option.bind (Go.Proofs.Ytlljmgphgmklcaa.GlEqIntS.P t_131a t_29a) fun (t_139 : Bool) =>
  letK (!t_139) fun (t_140 : Bool) =>
  joinK (fun (t_145 : Bool) =>
  iteK t_145
  (some false)
  (Option.bind (Go.Proofs.Ytlljmgphgmklcaa.GlHeldIntS.P lt_111 1) fun (t_150 : Int) =>
  letK (decide (t_150 < 0)) fun (t_153 : Bool) =>
  iteK t_153
  (some false)
  (letK (t_150 != t_111) fun (t_157 : Bool) =>
  iteK t_157
  (some false)
  (some true)))) fun jt_145 => iteK t_140 (appK jt_145 true) (letK (!(t_131b == t_29b)) fun (t_144 : Bool) =>
  appK jt_145 t_144))))) fun jt_106 => iteK t_101 (appK jt_106 true) (letK (!(t_47b == t_29b)) fun (t_105 : Bool) =>
  appK jt_106 t_105)) fun jt_101 => iteK t_95 (appK jt_101 true) (Option.bind (Go.Proofs.Ytlljmgphgmklcaa.GlEqIntS.P t_47a t_29a) fun (t_99 : Bool) =>
  letK (!t_99) fun (t_100 : Bool) =>
  appK jt_101 t_100)))))) fun jt_61 => iteK t_56 (appK jt_61 true) (letK (!(t_47b == t_29b)) fun (t_60 : Bool) =>
  appK jt_61 t_60))))

set_option maxRecDepth 100000 in
set_option maxHeartbeats 2000000 in
theorem C (fuel : Nat) (aRates : (List Go.Proofs.Ytlljmgphgmklcaa.PRate.Rate)) (aMails : (List Go.Proofs.Ytlljmgphgmklcaa.PMail.Mail)) (aList : (List Go.Proofs.Ytlljmgphgmklcaa.PCover.Cover)) (A0 : Option Addr) (c0 : Nat) (A1 : Option Addr) (c1 : Nat) (A2 : Option Addr) (c2 : Nat)  (w : World) (M0 : Hid (Cells w 5 A0 aRates.length (Go.Proofs.Ytlljmgphgmklcaa.PRate.flat aRates))) (N0 : Hid (aRates.length ≤ 9223372036854775807)) (M1 : Hid (Cells w 4 A1 aMails.length (Go.Proofs.Ytlljmgphgmklcaa.PMail.flat aMails))) (N1 : Hid (aMails.length ≤ 9223372036854775807)) (M2 : Hid (Cells w 9 A2 aList.length (Go.Proofs.Ytlljmgphgmklcaa.PCover.flat aList))) (N2 : Hid (aList.length ≤ 9223372036854775807))  {r : Bool} (H : Hid (P fuel aRates aMails aList = some r)) :
    Calls Try.prog 6 #[.slice A0 aRates.length c0, .slice A1 aMails.length c1, .slice A2 aList.length c2] w (Gives (.bool r) w) := by
  have HB := Lib.hid (Below.refl w.heap.size w)
  unfold P at H
  have N0o := N0.out
  have N1o := N1.out
  have N2o := N2.out
  go_enter Try.func6, Try.ntmps6
  replace H := bind_hid H
  obtain ⟨t_4, qt_4, H⟩ := H
  go_wp2_with fail
  go_at_call 24
  refine (Go.Proofs.Ytlljmgphgmklcaa.GlSzRateS.C (aRates) (1048576) A0 c0 _   (Lib.hid (Cells.below M0.out HB.out)) N0 qt_4).mono ?_
  rintro e_t_4 wt_4 ⟨rfl, bt_4⟩
  have HBwt_4 := Lib.hid (Below.step HB.out bt_4)
  clear bt_4
  replace H := let_hid H
  obtain ⟨t_7, ht_7, H⟩ := H
  cases t_7 with
  | false =>
    replace H := ite_f H
    replace H := bind_hid H
    obtain ⟨t_11, qt_11, H⟩ := H
    go_wp2_with fail
    go_at_call 25
    refine (Go.Proofs.Ytlljmgphgmklcaa.GlSzMailS.C (aMails) (t_4) A1 c1 _   (Lib.hid (Cells.below M1.out HBwt_4.out)) N1 qt_11).mono ?_
    rintro e_t_11 wt_11 ⟨rfl, bt_11⟩
    have HBwt_11 := Lib.hid (Below.step HBwt_4.out bt_11)
    clear bt_11
    replace H := let_hid H
    obtain ⟨t_14, ht_14, H⟩ := H
    cases t_14 with
    | false =>
      replace H := ite_f H
      replace H := bind_hid H
      obtain ⟨t_18, qt_18, H⟩ := H
      go_wp2_with fail
      go_at_call 19
      refine (Go.Proofs.Ytlljmgphgmklcaa.GlSzCoverS.C (aList) (t_11) A2 c2 _   (Lib.hid (Cells.below M2.out HBwt_11.out)) N2 qt_18).mono ?_
      rintro e_t_18 wt_18 ⟨rfl, bt_18⟩
      have HBwt_18 := Lib.hid (Below.step HBwt_11.out bt_18)
      clear bt_18
      replace H := let_hid H
      obtain ⟨t_21, ht_21, H⟩ := H
      cases t_21 with
      | false =>
        replace H := ite_f H
        replace H := bind_hid H
        obtain ⟨t_24, qt_24, H⟩ := H
        go_wp2_with fail
        go_at_call 27
        refine (Go.Proofs.Ytlljmgphgmklcaa.GlToRateS.C (aRates) A0 c0 _   (Lib.hid (Cells.below M0.out HBwt_18.out)) N0 qt_24).mono ?_
        rintro e_t_24 wt_24 ⟨At_24, ct_24, rfl, ot_24, bt_24⟩
        have Ot_24 := Lib.hid (own_lower ot_24 HBwt_18.out.size)
        clear ot_24
        have HBwt_24 := Lib.hid (Below.step HBwt_18.out bt_24)
        clear bt_24
        replace H := bind_hid H
        obtain ⟨t_26, qt_26, H⟩ := H
        go_wp2_with fail
        go_at_call 28
        refine (Go.Proofs.Ytlljmgphgmklcaa.GlToMailS.C (aMails) A1 c1 _   (Lib.hid (Cells.below M1.out HBwt_24.out)) N1 qt_26).mono ?_
        rintro e_t_26 wt_26 ⟨At_26, ct_26, rfl, ot_26, bt_26⟩
        have Dt_26_t_24 := Lib.hid (apart_call ot_26 Ot_24.out)
        have Ot_26 := Lib.hid (own_lower ot_26 HBwt_24.out.size)
        clear ot_26
        have HBwt_26 := Lib.hid (Below.step HBwt_24.out bt_26)
        replace Ot_24 := Lib.hid (own_below Ot_24.out bt_26)
        clear bt_26
        replace H := bind_hid H
        obtain ⟨t_28, qt_28, H⟩ := H
        go_wp2_with fail
        go_at_call 21
        refine (Go.Proofs.Ytlljmgphgmklcaa.GlToCoverS.C (aList) A2 c2 _   (Lib.hid (Cells.below M2.out HBwt_26.out)) N2 qt_28).mono ?_
        rintro e_t_28 wt_28 ⟨At_28, ct_28, rfl, ot_28, bt_28⟩
        have Dt_28_t_24 := Lib.hid (apart_call ot_28 Ot_24.out)
        have Dt_28_t_26 := Lib.hid (apart_call ot_28 Ot_26.out)
        have Ot_28 := Lib.hid (own_lower ot_28 HBwt_26.out.size)
        clear ot_28
        have HBwt_28 := Lib.hid (Below.step HBwt_26.out bt_28)
        replace Ot_24 := Lib.hid (own_below Ot_24.out bt_28)
        replace Ot_26 := Lib.hid (own_below Ot_26.out bt_28)
        clear bt_28
        replace H := bind2_hid H
        obtain ⟨t_29a, t_29b, qt_29, H⟩ := H
        go_wp2_with fail
        go_at_call 32
        refine (Go.Proofs.Ytlljmgphgmklcaa.GsTrueCovers.C fuel (t_24) (t_26) (t_28) At_24 ct_24 At_26 ct_26 At_28 ct_28 _   (Lib.hid (own_cells Ot_24.out)) (Lib.hid (own_max Ot_24.out)) (Lib.hid (own_cells Ot_26.out)) (Lib.hid (own_max Ot_26.out)) (Lib.hid (own_cells Ot_28.out)) (Lib.hid (own_max Ot_28.out)) qt_29).mono ?_
        rintro e_t_29 wt_29 ⟨At_29a, ct_29a, rfl, ot_29a, bt_29⟩
        have Dt_29a_t_24 := Lib.hid (apart_call ot_29a Ot_24.out)
        have Dt_29a_t_26 := Lib.hid (apart_call ot_29a Ot_26.out)
        have Dt_29a_t_28 := Lib.hid (apart_call ot_29a Ot_28.out)
        have Ot_29a := Lib.hid (own_lower ot_29a HBwt_28.out.size)
        clear ot_29a
        have HBwt_29 := Lib.hid (Below.step HBwt_28.out bt_29)
        replace Ot_24 := Lib.hid (own_below Ot_24.out bt_29)
        replace Ot_26 := Lib.hid (own_below Ot_26.out bt_29)
        replace Ot_28 := Lib.hid (own_below Ot_28.out bt_29)
        clear bt_29
        replace H := bind_hid H
        obtain ⟨t_36, qt_36, H⟩ := H
        go_wp2_with fail
        go_at_call 27
        refine (Go.Proofs.Ytlljmgphgmklcaa.GlToRateS.C (aRates) A0 c0 _   (Lib.hid (Cells.below M0.out HBwt_29.out)) N0 qt_36).mono ?_
        rintro e_t_36 wt_36 ⟨At_36, ct_36, rfl, ot_36, bt_36⟩
        have Dt_36_t_24 := Lib.hid (apart_call ot_36 Ot_24.out)
        have Dt_36_t_26 := Lib.hid (apart_call ot_36 Ot_26.out)
        have Dt_36_t_28 := Lib.hid (apart_call ot_36 Ot_28.out)
        have Dt_36_t_29a := Lib.hid (apart_call ot_36 Ot_29a.out)
        have Ot_36 := Lib.hid (own_lower ot_36 HBwt_29.out.size)
        clear ot_36
        have HBwt_36 := Lib.hid (Below.step HBwt_29.out bt_36)
        replace Ot_24 := Lib.hid (own_below Ot_24.out bt_36)
        replace Ot_26 := Lib.hid (own_below Ot_26.out bt_36)
        replace Ot_28 := Lib.hid (own_below Ot_28.out bt_36)
        replace Ot_29a := Lib.hid (own_below Ot_29a.out bt_36)
        clear bt_36
        replace H := bind_hid H
        obtain ⟨t_39, qt_39, H⟩ := H
        go_wp2_with fail
        go_at_call 28
        refine (Go.Proofs.Ytlljmgphgmklcaa.GlToMailS.C (aMails) A1 c1 _   (Lib.hid (Cells.below M1.out HBwt_36.out)) N1 qt_39).mono ?_
        rintro e_t_39 wt_39 ⟨At_39, ct_39, rfl, ot_39, bt_39⟩
        have Dt_39_t_24 := Lib.hid (apart_call ot_39 Ot_24.out)
        have Dt_39_t_26 := Lib.hid (apart_call ot_39 Ot_26.out)
        have Dt_39_t_28 := Lib.hid (apart_call ot_39 Ot_28.out)
        have Dt_39_t_29a := Lib.hid (apart_call ot_39 Ot_29a.out)
        have Dt_39_t_36 := Lib.hid (apart_call ot_39 Ot_36.out)
        have Ot_39 := Lib.hid (own_lower ot_39 HBwt_36.out.size)
        clear ot_39
        have HBwt_39 := Lib.hid (Below.step HBwt_36.out bt_39)
        replace Ot_24 := Lib.hid (own_below Ot_24.out bt_39)
        replace Ot_26 := Lib.hid (own_below Ot_26.out bt_39)
        replace Ot_28 := Lib.hid (own_below Ot_28.out bt_39)
        replace Ot_29a := Lib.hid (own_below Ot_29a.out bt_39)
        replace Ot_36 := Lib.hid (own_below Ot_36.out bt_39)
        clear bt_39
        replace H := bind_hid H
        obtain ⟨t_42, qt_42, H⟩ := H
        go_wp2_with fail
        go_at_call 21
        refine (Go.Proofs.Ytlljmgphgmklcaa.GlToCoverS.C (aList) A2 c2 _   (Lib.hid (Cells.below M2.out HBwt_39.out)) N2 qt_42).mono ?_
        rintro e_t_42 wt_42 ⟨At_42, ct_42, rfl, ot_42, bt_42⟩
        have Dt_42_t_24 := Lib.hid (apart_call ot_42 Ot_24.out)
        have Dt_42_t_26 := Lib.hid (apart_call ot_42 Ot_26.out)
        have Dt_42_t_28 := Lib.hid (apart_call ot_42 Ot_28.out)
        have Dt_42_t_29a := Lib.hid (apart_call ot_42 Ot_29a.out)
        have Dt_42_t_36 := Lib.hid (apart_call ot_42 Ot_36.out)
        have Dt_42_t_39 := Lib.hid (apart_call ot_42 Ot_39.out)
        have Ot_42 := Lib.hid (own_lower ot_42 HBwt_39.out.size)
        clear ot_42
        have HBwt_42 := Lib.hid (Below.step HBwt_39.out bt_42)
        replace Ot_24 := Lib.hid (own_below Ot_24.out bt_42)
        replace Ot_26 := Lib.hid (own_below Ot_26.out bt_42)
        replace Ot_28 := Lib.hid (own_below Ot_28.out bt_42)
        replace Ot_29a := Lib.hid (own_below Ot_29a.out bt_42)
        replace Ot_36 := Lib.hid (own_below Ot_36.out bt_42)
        replace Ot_39 := Lib.hid (own_below Ot_39.out bt_42)
        clear bt_42
        replace H := bind2_hid H
        obtain ⟨t_47a, t_47b, qt_47, H⟩ := H
        go_wp2_with fail
        go_at_call 33
        refine (Go.Proofs.Ytlljmgphgmklcaa.GiTrueCovers.C (t_36) (t_39) (t_42) At_36 ct_36 At_39 ct_39 At_42 ct_42 _   (Lib.hid (own_cells Ot_36.out)) (Lib.hid (own_max Ot_36.out)) (Lib.hid (own_cells Ot_39.out)) (Lib.hid (own_max Ot_39.out)) (Lib.hid (own_cells Ot_42.out)) (Lib.hid (own_max Ot_42.out)) qt_47).mono ?_
        rintro e_t_47 wt_47 ⟨At_47a, ct_47a, rfl, ot_47a, bt_47⟩
        have Dt_47a_t_24 := Lib.hid (apart_call ot_47a Ot_24.out)
        have Dt_47a_t_26 := Lib.hid (apart_call ot_47a Ot_26.out)
        have Dt_47a_t_28 := Lib.hid (apart_call ot_47a Ot_28.out)
        have Dt_47a_t_29a := Lib.hid (apart_call ot_47a Ot_29a.out)
        have Dt_47a_t_36 := Lib.hid (apart_call ot_47a Ot_36.out)
        have Dt_47a_t_39 := Lib.hid (apart_call ot_47a Ot_39.out)
        have Dt_47a_t_42 := Lib.hid (apart_call ot_47a Ot_42.out)
        have Ot_47a := Lib.hid (own_lower ot_47a HBwt_42.out.size)
        clear ot_47a
        have HBwt_47 := Lib.hid (Below.step HBwt_42.out bt_47)
        replace Ot_24 := Lib.hid (own_below Ot_24.out bt_47)
        replace Ot_26 := Lib.hid (own_below Ot_26.out bt_47)
        replace Ot_28 := Lib.hid (own_below Ot_28.out bt_47)
        replace Ot_29a := Lib.hid (own_below Ot_29a.out bt_47)
        replace Ot_36 := Lib.hid (own_below Ot_36.out bt_47)
        replace Ot_39 := Lib.hid (own_below Ot_39.out bt_47)
        replace Ot_42 := Lib.hid (own_below Ot_42.out bt_47)
        clear bt_47
        replace H := bind_hid H
        obtain ⟨t_55, qt_55, H⟩ := H
        go_wp2_with fail
        go_at_call 34
        refine (Go.Proofs.Ytlljmgphgmklcaa.GlEqIntS.C (t_47a) (t_29a) At_47a ct_47a At_29a ct_29a _   (Lib.hid (own_cells Ot_47a.out)) (Lib.hid (own_max Ot_47a.out)) (Lib.hid (own_cells Ot_29a.out)) (Lib.hid (own_max Ot_29a.out)) qt_55).mono ?_
        rintro e_t_55 wt_55 ⟨rfl, bt_55⟩
        have HBwt_55 := Lib.hid (Below.step HBwt_47.out bt_55)
        replace Ot_24 := Lib.hid (own_below Ot_24.out bt_55)
        replace Ot_26 := Lib.hid (own_below Ot_26.out bt_55)
        replace Ot_28 := Lib.hid (own_below Ot_28.out bt_55)
        replace Ot_29a := Lib.hid (own_below Ot_29a.out bt_55)
        replace Ot_36 := Lib.hid (own_below Ot_36.out bt_55)
        replace Ot_39 := Lib.hid (own_below Ot_39.out bt_55)
        replace Ot_42 := Lib.hid (own_below Ot_42.out bt_55)
        replace Ot_47a := Lib.hid (own_below Ot_47a.out bt_55)
        clear bt_55
        cases t_55 with
        | false =>
          replace H := let_hid H
          obtain ⟨t_56, ht_56, H⟩ := H
          obtain rfl : t_56 = true := ht_56.symm
          replace H := join_hid H
          replace H := ite_t H
          replace H := app_hid H
          replace H := ite_t H
          obtain rfl := ret_hid H
          go_wp2_with fail
          go_ret
          exact ⟨rfl, HBwt_55.out⟩
        | true =>
          replace H := let_hid H
          obtain ⟨t_56, ht_56, H⟩ := H
          obtain rfl : t_56 = false := ht_56.symm
          replace H := join_hid H
          replace H := ite_f H
          replace H := let_hid H
          obtain ⟨t_60, ht_60, H⟩ := H
          replace H := app_hid H
          cases t_60 with
          | false =>
            replace H := ite_f H
            replace H := bind_hid H
            obtain ⟨t_65, qt_65, H⟩ := H
            go_wp2_with fail
            go_at_call 27
            refine (Go.Proofs.Ytlljmgphgmklcaa.GlToRateS.C (aRates) A0 c0 _   (Lib.hid (Cells.below M0.out HBwt_55.out)) N0 qt_65).mono ?_
            rintro e_t_65 wt_65 ⟨At_65, ct_65, rfl, ot_65, bt_65⟩
            have Dt_65_t_24 := Lib.hid (apart_call ot_65 Ot_24.out)
            have Dt_65_t_26 := Lib.hid (apart_call ot_65 Ot_26.out)
            have Dt_65_t_28 := Lib.hid (apart_call ot_65 Ot_28.out)
            have Dt_65_t_29a := Lib.hid (apart_call ot_65 Ot_29a.out)
            have Dt_65_t_36 := Lib.hid (apart_call ot_65 Ot_36.out)
            have Dt_65_t_39 := Lib.hid (apart_call ot_65 Ot_39.out)
            have Dt_65_t_42 := Lib.hid (apart_call ot_65 Ot_42.out)
            have Dt_65_t_47a := Lib.hid (apart_call ot_65 Ot_47a.out)
            have Ot_65 := Lib.hid (own_lower ot_65 HBwt_55.out.size)
            clear ot_65
            have HBwt_65 := Lib.hid (Below.step HBwt_55.out bt_65)
            replace Ot_24 := Lib.hid (own_below Ot_24.out bt_65)
            replace Ot_26 := Lib.hid (own_below Ot_26.out bt_65)
            replace Ot_28 := Lib.hid (own_below Ot_28.out bt_65)
            replace Ot_29a := Lib.hid (own_below Ot_29a.out bt_65)
            replace Ot_36 := Lib.hid (own_below Ot_36.out bt_65)
            replace Ot_39 := Lib.hid (own_below Ot_39.out bt_65)
            replace Ot_42 := Lib.hid (own_below Ot_42.out bt_65)
            replace Ot_47a := Lib.hid (own_below Ot_47a.out bt_65)
            clear bt_65
            replace H := bind_hid H
            obtain ⟨t_66, qt_66, H⟩ := H
            go_wp2_with fail
            go_at_call 30
            refine (Go.Proofs.Ytlljmgphgmklcaa.GlEqRateS.C (t_36) (t_65) At_36 ct_36 At_65 ct_65 _   (Lib.hid (own_cells Ot_36.out)) (Lib.hid (own_max Ot_36.out)) (Lib.hid (own_cells Ot_65.out)) (Lib.hid (own_max Ot_65.out)) qt_66).mono ?_
            rintro e_t_66 wt_66 ⟨rfl, bt_66⟩
            have HBwt_66 := Lib.hid (Below.step HBwt_65.out bt_66)
            replace Ot_24 := Lib.hid (own_below Ot_24.out bt_66)
            replace Ot_26 := Lib.hid (own_below Ot_26.out bt_66)
            replace Ot_28 := Lib.hid (own_below Ot_28.out bt_66)
            replace Ot_29a := Lib.hid (own_below Ot_29a.out bt_66)
            replace Ot_36 := Lib.hid (own_below Ot_36.out bt_66)
            replace Ot_39 := Lib.hid (own_below Ot_39.out bt_66)
            replace Ot_42 := Lib.hid (own_below Ot_42.out bt_66)
            replace Ot_47a := Lib.hid (own_below Ot_47a.out bt_66)
            replace Ot_65 := Lib.hid (own_below Ot_65.out bt_66)
            clear bt_66
            cases t_66 with
            | false =>
              replace H := let_hid H
              obtain ⟨t_67, ht_67, H⟩ := H
              obtain rfl : t_67 = true := ht_67.symm
              replace H := ite_t H
              obtain rfl := ret_hid H
              go_wp2_with fail
              go_ret
              exact ⟨rfl, HBwt_66.out⟩
            | true =>
              replace H := let_hid H
              obtain ⟨t_67, ht_67, H⟩ := H
              obtain rfl : t_67 = false := ht_67.symm
              replace H := ite_f H
              replace H := bind_hid H
              obtain ⟨t_71, qt_71, H⟩ := H
              go_wp2_with fail
              go_at_call 28
              refine (Go.Proofs.Ytlljmgphgmklcaa.GlToMailS.C (aMails) A1 c1 _   (Lib.hid (Cells.below M1.out HBwt_66.out)) N1 qt_71).mono ?_
              rintro e_t_71 wt_71 ⟨At_71, ct_71, rfl, ot_71, bt_71⟩
              have Dt_71_t_24 := Lib.hid (apart_call ot_71 Ot_24.out)
              have Dt_71_t_26 := Lib.hid (apart_call ot_71 Ot_26.out)
              have Dt_71_t_28 := Lib.hid (apart_call ot_71 Ot_28.out)
              have Dt_71_t_29a := Lib.hid (apart_call ot_71 Ot_29a.out)
              have Dt_71_t_36 := Lib.hid (apart_call ot_71 Ot_36.out)
              have Dt_71_t_39 := Lib.hid (apart_call ot_71 Ot_39.out)
              have Dt_71_t_42 := Lib.hid (apart_call ot_71 Ot_42.out)
              have Dt_71_t_47a := Lib.hid (apart_call ot_71 Ot_47a.out)
              have Dt_71_t_65 := Lib.hid (apart_call ot_71 Ot_65.out)
              have Ot_71 := Lib.hid (own_lower ot_71 HBwt_66.out.size)
              clear ot_71
              have HBwt_71 := Lib.hid (Below.step HBwt_66.out bt_71)
              replace Ot_24 := Lib.hid (own_below Ot_24.out bt_71)
              replace Ot_26 := Lib.hid (own_below Ot_26.out bt_71)
              replace Ot_28 := Lib.hid (own_below Ot_28.out bt_71)
              replace Ot_29a := Lib.hid (own_below Ot_29a.out bt_71)
              replace Ot_36 := Lib.hid (own_below Ot_36.out bt_71)
              replace Ot_39 := Lib.hid (own_below Ot_39.out bt_71)
              replace Ot_42 := Lib.hid (own_below Ot_42.out bt_71)
              replace Ot_47a := Lib.hid (own_below Ot_47a.out bt_71)
              replace Ot_65 := Lib.hid (own_below Ot_65.out bt_71)
              clear bt_71
              replace H := bind_hid H
              obtain ⟨t_72, qt_72, H⟩ := H
              go_wp2_with fail
              go_at_call 31
              refine (Go.Proofs.Ytlljmgphgmklcaa.GlEqMailS.C (t_39) (t_71) At_39 ct_39 At_71 ct_71 _   (Lib.hid (own_cells Ot_39.out)) (Lib.hid (own_max Ot_39.out)) (Lib.hid (own_cells Ot_71.out)) (Lib.hid (own_max Ot_71.out)) qt_72).mono ?_
              rintro e_t_72 wt_72 ⟨rfl, bt_72⟩
              have HBwt_72 := Lib.hid (Below.step HBwt_71.out bt_72)
              replace Ot_24 := Lib.hid (own_below Ot_24.out bt_72)
              replace Ot_26 := Lib.hid (own_below Ot_26.out bt_72)
              replace Ot_28 := Lib.hid (own_below Ot_28.out bt_72)
              replace Ot_29a := Lib.hid (own_below Ot_29a.out bt_72)
              replace Ot_36 := Lib.hid (own_below Ot_36.out bt_72)
              replace Ot_39 := Lib.hid (own_below Ot_39.out bt_72)
              replace Ot_42 := Lib.hid (own_below Ot_42.out bt_72)
              replace Ot_47a := Lib.hid (own_below Ot_47a.out bt_72)
              replace Ot_65 := Lib.hid (own_below Ot_65.out bt_72)
              replace Ot_71 := Lib.hid (own_below Ot_71.out bt_72)
              clear bt_72
              cases t_72 with
              | false =>
                replace H := let_hid H
                obtain ⟨t_73, ht_73, H⟩ := H
                obtain rfl : t_73 = true := ht_73.symm
                replace H := ite_t H
                obtain rfl := ret_hid H
                go_wp2_with fail
                go_ret
                exact ⟨rfl, HBwt_72.out⟩
              | true =>
                replace H := let_hid H
                obtain ⟨t_73, ht_73, H⟩ := H
                obtain rfl : t_73 = false := ht_73.symm
                replace H := ite_f H
                replace H := bind_hid H
                obtain ⟨t_77, qt_77, H⟩ := H
                go_wp2_with fail
                go_at_call 21
                refine (Go.Proofs.Ytlljmgphgmklcaa.GlToCoverS.C (aList) A2 c2 _   (Lib.hid (Cells.below M2.out HBwt_72.out)) N2 qt_77).mono ?_
                rintro e_t_77 wt_77 ⟨At_77, ct_77, rfl, ot_77, bt_77⟩
                have Dt_77_t_24 := Lib.hid (apart_call ot_77 Ot_24.out)
                have Dt_77_t_26 := Lib.hid (apart_call ot_77 Ot_26.out)
                have Dt_77_t_28 := Lib.hid (apart_call ot_77 Ot_28.out)
                have Dt_77_t_29a := Lib.hid (apart_call ot_77 Ot_29a.out)
                have Dt_77_t_36 := Lib.hid (apart_call ot_77 Ot_36.out)
                have Dt_77_t_39 := Lib.hid (apart_call ot_77 Ot_39.out)
                have Dt_77_t_42 := Lib.hid (apart_call ot_77 Ot_42.out)
                have Dt_77_t_47a := Lib.hid (apart_call ot_77 Ot_47a.out)
                have Dt_77_t_65 := Lib.hid (apart_call ot_77 Ot_65.out)
                have Dt_77_t_71 := Lib.hid (apart_call ot_77 Ot_71.out)
                have Ot_77 := Lib.hid (own_lower ot_77 HBwt_72.out.size)
                clear ot_77
                have HBwt_77 := Lib.hid (Below.step HBwt_72.out bt_77)
                replace Ot_24 := Lib.hid (own_below Ot_24.out bt_77)
                replace Ot_26 := Lib.hid (own_below Ot_26.out bt_77)
                replace Ot_28 := Lib.hid (own_below Ot_28.out bt_77)
                replace Ot_29a := Lib.hid (own_below Ot_29a.out bt_77)
                replace Ot_36 := Lib.hid (own_below Ot_36.out bt_77)
                replace Ot_39 := Lib.hid (own_below Ot_39.out bt_77)
                replace Ot_42 := Lib.hid (own_below Ot_42.out bt_77)
                replace Ot_47a := Lib.hid (own_below Ot_47a.out bt_77)
                replace Ot_65 := Lib.hid (own_below Ot_65.out bt_77)
                replace Ot_71 := Lib.hid (own_below Ot_71.out bt_77)
                clear bt_77
                replace H := bind_hid H
                obtain ⟨t_78, qt_78, H⟩ := H
                go_wp2_with fail
                go_at_call 23
                refine (Go.Proofs.Ytlljmgphgmklcaa.GlEqCoverS.C (t_42) (t_77) At_42 ct_42 At_77 ct_77 _   (Lib.hid (own_cells Ot_42.out)) (Lib.hid (own_max Ot_42.out)) (Lib.hid (own_cells Ot_77.out)) (Lib.hid (own_max Ot_77.out)) qt_78).mono ?_
                rintro e_t_78 wt_78 ⟨rfl, bt_78⟩
                have HBwt_78 := Lib.hid (Below.step HBwt_77.out bt_78)
                replace Ot_24 := Lib.hid (own_below Ot_24.out bt_78)
                replace Ot_26 := Lib.hid (own_below Ot_26.out bt_78)
                replace Ot_28 := Lib.hid (own_below Ot_28.out bt_78)
                replace Ot_29a := Lib.hid (own_below Ot_29a.out bt_78)
                replace Ot_36 := Lib.hid (own_below Ot_36.out bt_78)
                replace Ot_39 := Lib.hid (own_below Ot_39.out bt_78)
                replace Ot_42 := Lib.hid (own_below Ot_42.out bt_78)
                replace Ot_47a := Lib.hid (own_below Ot_47a.out bt_78)
                replace Ot_65 := Lib.hid (own_below Ot_65.out bt_78)
                replace Ot_71 := Lib.hid (own_below Ot_71.out bt_78)
                replace Ot_77 := Lib.hid (own_below Ot_77.out bt_78)
                clear bt_78
                cases t_78 with
                | false =>
                  replace H := let_hid H
                  obtain ⟨t_79, ht_79, H⟩ := H
                  obtain rfl : t_79 = true := ht_79.symm
                  replace H := ite_t H
                  obtain rfl := ret_hid H
                  go_wp2_with fail
                  go_ret
                  exact ⟨rfl, HBwt_78.out⟩
                | true =>
                  replace H := let_hid H
                  obtain ⟨t_79, ht_79, H⟩ := H
                  obtain rfl : t_79 = false := ht_79.symm
                  replace H := ite_f H
                  replace H := bind2_hid H
                  obtain ⟨t_84, lt_84, qt_84, H⟩ := H
                  go_wp2_with fail
                  go_at_call 35
                  refine (Go.Proofs.Ytlljmgphgmklcaa.GlMarkRateS.C (t_36) (1) At_36 ct_36 w.heap.size _   Ot_36 (Lib.hid (own_max Ot_36.out))   qt_84).mono ?_
                  rintro e_t_84 wt_84 ⟨rfl, ot_84, nt_84, gt_84⟩
                  have Pt_84 := Lib.hid ot_84
                  have Gt_84 := Lib.hid gt_84
                  replace nt_84 := Lib.hid nt_84
                  clear ot_84 gt_84
                  have HBwt_84 := Lib.hid (HBwt_78.out.grown Gt_84.out HBwt_78.out.size (fun q hq => (Ot_36.out.lt q hq).1))
                  replace Ot_24 := Lib.hid (own_other Ot_24.out Gt_84.out Dt_36_t_24.out)
                  replace Ot_26 := Lib.hid (own_other Ot_26.out Gt_84.out Dt_36_t_26.out)
                  replace Ot_28 := Lib.hid (own_other Ot_28.out Gt_84.out Dt_36_t_28.out)
                  replace Ot_29a := Lib.hid (own_other Ot_29a.out Gt_84.out Dt_36_t_29a.out)
                  replace Ot_39 := Lib.hid (own_other Ot_39.out Gt_84.out (Apart.symm Dt_39_t_36.out))
                  replace Ot_42 := Lib.hid (own_other Ot_42.out Gt_84.out (Apart.symm Dt_42_t_36.out))
                  replace Ot_47a := Lib.hid (own_other Ot_47a.out Gt_84.out (Apart.symm Dt_47a_t_36.out))
                  replace Ot_65 := Lib.hid (own_other Ot_65.out Gt_84.out (Apart.symm Dt_65_t_36.out))
                  replace Ot_71 := Lib.hid (own_other Ot_71.out Gt_84.out (Apart.symm Dt_71_t_36.out))
                  replace Ot_77 := Lib.hid (own_other Ot_77.out Gt_84.out (Apart.symm Dt_77_t_36.out))
                  clear Ot_36 Gt_84
                  replace H := bind2_hid H
                  obtain ⟨t_88, lt_88, qt_88, H⟩ := H
                  go_wp2_with fail
                  go_at_call 36
                  refine (Go.Proofs.Ytlljmgphgmklcaa.GlMarkMailS.C (t_39) (t_84) At_39 ct_39 w.heap.size _   Ot_39 (Lib.hid (own_max Ot_39.out))   qt_88).mono ?_
                  rintro e_t_88 wt_88 ⟨rfl, ot_88, nt_88, gt_88⟩
                  have Pt_88 := Lib.hid ot_88
                  have Gt_88 := Lib.hid gt_88
                  replace nt_88 := Lib.hid nt_88
                  clear ot_88 gt_88
                  have HBwt_88 := Lib.hid (HBwt_84.out.grown Gt_88.out HBwt_84.out.size (fun q hq => (Ot_39.out.lt q hq).1))
                  replace Ot_24 := Lib.hid (own_other Ot_24.out Gt_88.out Dt_39_t_24.out)
                  replace Ot_26 := Lib.hid (own_other Ot_26.out Gt_88.out Dt_39_t_26.out)
                  replace Ot_28 := Lib.hid (own_other Ot_28.out Gt_88.out Dt_39_t_28.out)
                  replace Ot_29a := Lib.hid (own_other Ot_29a.out Gt_88.out Dt_39_t_29a.out)
                  replace Pt_84 := Lib.hid (own_other Pt_84.out Gt_88.out Dt_39_t_36.out)
                  replace Ot_42 := Lib.hid (own_other Ot_42.out Gt_88.out (Apart.symm Dt_42_t_39.out))
                  replace Ot_47a := Lib.hid (own_other Ot_47a.out Gt_88.out (Apart.symm Dt_47a_t_39.out))
                  replace Ot_65 := Lib.hid (own_other Ot_65.out Gt_88.out (Apart.symm Dt_65_t_39.out))
                  replace Ot_71 := Lib.hid (own_other Ot_71.out Gt_88.out (Apart.symm Dt_71_t_39.out))
                  replace Ot_77 := Lib.hid (own_other Ot_77.out Gt_88.out (Apart.symm Dt_77_t_39.out))
                  clear Ot_39 Gt_88
                  replace H := bind2_hid H
                  obtain ⟨t_92, lt_92, qt_92, H⟩ := H
                  go_wp2_with fail
                  go_at_call 37
                  refine (Go.Proofs.Ytlljmgphgmklcaa.GlMarkCoverS.C (t_42) (t_88) At_42 ct_42 w.heap.size _   Ot_42 (Lib.hid (own_max Ot_42.out))   qt_92).mono ?_
                  rintro e_t_92 wt_92 ⟨rfl, ot_92, nt_92, gt_92⟩
                  have Pt_92 := Lib.hid ot_92
                  have Gt_92 := Lib.hid gt_92
                  replace nt_92 := Lib.hid nt_92
                  clear ot_92 gt_92
                  have HBwt_92 := Lib.hid (HBwt_88.out.grown Gt_92.out HBwt_88.out.size (fun q hq => (Ot_42.out.lt q hq).1))
                  replace Ot_24 := Lib.hid (own_other Ot_24.out Gt_92.out Dt_42_t_24.out)
                  replace Ot_26 := Lib.hid (own_other Ot_26.out Gt_92.out Dt_42_t_26.out)
                  replace Ot_28 := Lib.hid (own_other Ot_28.out Gt_92.out Dt_42_t_28.out)
                  replace Ot_29a := Lib.hid (own_other Ot_29a.out Gt_92.out Dt_42_t_29a.out)
                  replace Pt_84 := Lib.hid (own_other Pt_84.out Gt_92.out Dt_42_t_36.out)
                  replace Pt_88 := Lib.hid (own_other Pt_88.out Gt_92.out Dt_42_t_39.out)
                  replace Ot_47a := Lib.hid (own_other Ot_47a.out Gt_92.out (Apart.symm Dt_47a_t_42.out))
                  replace Ot_65 := Lib.hid (own_other Ot_65.out Gt_92.out (Apart.symm Dt_65_t_42.out))
                  replace Ot_71 := Lib.hid (own_other Ot_71.out Gt_92.out (Apart.symm Dt_71_t_42.out))
                  replace Ot_77 := Lib.hid (own_other Ot_77.out Gt_92.out (Apart.symm Dt_77_t_42.out))
                  clear Ot_42 Gt_92
                  replace H := let_hid H
                  obtain ⟨t_95, ht_95, H⟩ := H
                  replace H := join_hid H
                  cases t_95 with
                  | false =>
                    replace H := ite_f H
                    replace H := bind_hid H
                    obtain ⟨t_99, qt_99, H⟩ := H
                    go_wp2_with fail
                    go_at_call 34
                    refine (Go.Proofs.Ytlljmgphgmklcaa.GlEqIntS.C (t_47a) (t_29a) At_47a ct_47a At_29a ct_29a _   (Lib.hid (own_cells Ot_47a.out)) (Lib.hid (own_max Ot_47a.out)) (Lib.hid (own_cells Ot_29a.out)) (Lib.hid (own_max Ot_29a.out)) qt_99).mono ?_
                    rintro e_t_99 wt_99 ⟨rfl, bt_99⟩
                    have HBwt_99 := Lib.hid (Below.step HBwt_92.out bt_99)
                    replace Ot_24 := Lib.hid (own_below Ot_24.out bt_99)
                    replace Ot_26 := Lib.hid (own_below Ot_26.out bt_99)
                    replace Ot_28 := Lib.hid (own_below Ot_28.out bt_99)
                    replace Ot_29a := Lib.hid (own_below Ot_29a.out bt_99)
                    replace Pt_84 := Lib.hid (own_below Pt_84.out bt_99)
                    replace Pt_88 := Lib.hid (own_below Pt_88.out bt_99)
                    replace Pt_92 := Lib.hid (own_below Pt_92.out bt_99)
                    replace Ot_47a := Lib.hid (own_below Ot_47a.out bt_99)
                    replace Ot_65 := Lib.hid (own_below Ot_65.out bt_99)
                    replace Ot_71 := Lib.hid (own_below Ot_71.out bt_99)
                    replace Ot_77 := Lib.hid (own_below Ot_77.out bt_99)
                    clear bt_99
                    cases t_99 with
                    | false =>
                      replace H := let_hid H
                      obtain ⟨t_100, ht_100, H⟩ := H
                      obtain rfl : t_100 = true := ht_100.symm
                      replace H := app_hid H
                      replace H := join_hid H
                      replace H := ite_t H
                      replace H := app_hid H
                      replace H := ite_t H
                      obtain rfl := ret_hid H
                      go_wp2_with fail
                      go_ret
                      exact ⟨rfl, HBwt_99.out⟩
                    | true =>
                      replace H := let_hid H
                      obtain ⟨t_100, ht_100, H⟩ := H
                      obtain rfl : t_100 = false := ht_100.symm
                      replace H := app_hid H
                      replace H := join_hid H
                      replace H := ite_f H
                      replace H := let_hid H
                      obtain ⟨t_105, ht_105, H⟩ := H
                      obtain rfl := ht_60.symm.trans ht_105
                      replace H := app_hid H
                      replace H := ite_f H
                      replace H := bind2_hid H
                      obtain ⟨t_111, lt_111, qt_111, H⟩ := H
                      go_wp2_with fail
                      go_at_call 38
                      refine (Go.Proofs.Ytlljmgphgmklcaa.GlMarkIntS.C (t_47a) (1) At_47a ct_47a w.heap.size _   Ot_47a (Lib.hid (own_max Ot_47a.out))   qt_111).mono ?_
                      rintro e_t_111 wt_111 ⟨rfl, ot_111, nt_111, gt_111⟩
                      have Pt_111 := Lib.hid ot_111
                      have Gt_111 := Lib.hid gt_111
                      replace nt_111 := Lib.hid nt_111
                      clear ot_111 gt_111
                      have HBwt_111 := Lib.hid (HBwt_99.out.grown Gt_111.out HBwt_99.out.size (fun q hq => (Ot_47a.out.lt q hq).1))
                      replace Ot_24 := Lib.hid (own_other Ot_24.out Gt_111.out Dt_47a_t_24.out)
                      replace Ot_26 := Lib.hid (own_other Ot_26.out Gt_111.out Dt_47a_t_26.out)
                      replace Ot_28 := Lib.hid (own_other Ot_28.out Gt_111.out Dt_47a_t_28.out)
                      replace Ot_29a := Lib.hid (own_other Ot_29a.out Gt_111.out Dt_47a_t_29a.out)
                      replace Pt_84 := Lib.hid (own_other Pt_84.out Gt_111.out Dt_47a_t_36.out)
                      replace Pt_88 := Lib.hid (own_other Pt_88.out Gt_111.out Dt_47a_t_39.out)
                      replace Pt_92 := Lib.hid (own_other Pt_92.out Gt_111.out Dt_47a_t_42.out)
                      replace Ot_65 := Lib.hid (own_other Ot_65.out Gt_111.out (Apart.symm Dt_65_t_47a.out))
                      replace Ot_71 := Lib.hid (own_other Ot_71.out Gt_111.out (Apart.symm Dt_71_t_47a.out))
                      replace Ot_77 := Lib.hid (own_other Ot_77.out Gt_111.out (Apart.symm Dt_77_t_47a.out))
                      clear Ot_47a Gt_111
                      replace H := bind_hid H
                      obtain ⟨t_116, qt_116, H⟩ := H
                      go_wp2_with fail
                      have hc_ := nt_111.out
                      have hv_ : (Value.slice At_47a t_47a.length ct_47a : Value) = Value.slice At_47a lt_111.length ct_47a := by rw [hc_]
                      try rw [hv_]
                      replace Pt_111 := Lib.hid (own_len hc_ Pt_111.out)
                      clear hc_ hv_
                      go_wp2_with fail
                      go_at_call 39
                      refine (Go.Proofs.Ytlljmgphgmklcaa.GlHeldIntS.C (lt_111) (1) At_47a ct_47a _   (Lib.hid (own_cells Pt_111.out)) (Lib.hid (own_max Pt_111.out)) qt_116).mono ?_
                      rintro e_t_116 wt_116 ⟨rfl, bt_116⟩
                      have HBwt_116 := Lib.hid (Below.step HBwt_111.out bt_116)
                      replace Ot_24 := Lib.hid (own_below Ot_24.out bt_116)
                      replace Ot_26 := Lib.hid (own_below Ot_26.out bt_116)
                      replace Ot_28 := Lib.hid (own_below Ot_28.out bt_116)
                      replace Ot_29a := Lib.hid (own_below Ot_29a.out bt_116)
                      replace Pt_84 := Lib.hid (own_below Pt_84.out bt_116)
                      replace Pt_88 := Lib.hid (own_below Pt_88.out bt_116)
                      replace Pt_92 := Lib.hid (own_below Pt_92.out bt_116)
                      replace Pt_111 := Lib.hid (own_below Pt_111.out bt_116)
                      replace Ot_65 := Lib.hid (own_below Ot_65.out bt_116)
                      replace Ot_71 := Lib.hid (own_below Ot_71.out bt_116)
                      replace Ot_77 := Lib.hid (own_below Ot_77.out bt_116)
                      clear bt_116
                      replace H := let_hid H
                      obtain ⟨t_119, ht_119, H⟩ := H
                      cases t_119 with
                      | false =>
                        replace H := ite_f H
                        replace H := let_hid H
                        obtain ⟨t_123, ht_123, H⟩ := H
                        cases t_123 with
                        | false =>
                          replace H := ite_f H
                          replace H := bind_hid H
                          obtain ⟨t_126, qt_126, H⟩ := H
                          go_wp2_with fail
                          go_at_call 27
                          refine (Go.Proofs.Ytlljmgphgmklcaa.GlToRateS.C (aRates) A0 c0 _   (Lib.hid (Cells.below M0.out HBwt_116.out)) N0 qt_126).mono ?_
                          rintro e_t_126 wt_126 ⟨At_126, ct_126, rfl, ot_126, bt_126⟩
                          have Dt_126_t_24 := Lib.hid (apart_call ot_126 Ot_24.out)
                          have Dt_126_t_26 := Lib.hid (apart_call ot_126 Ot_26.out)
                          have Dt_126_t_28 := Lib.hid (apart_call ot_126 Ot_28.out)
                          have Dt_126_t_29a := Lib.hid (apart_call ot_126 Ot_29a.out)
                          have Dt_126_t_36 := Lib.hid (apart_call ot_126 Pt_84.out)
                          have Dt_126_t_39 := Lib.hid (apart_call ot_126 Pt_88.out)
                          have Dt_126_t_42 := Lib.hid (apart_call ot_126 Pt_92.out)
                          have Dt_126_t_47a := Lib.hid (apart_call ot_126 Pt_111.out)
                          have Dt_126_t_65 := Lib.hid (apart_call ot_126 Ot_65.out)
                          have Dt_126_t_71 := Lib.hid (apart_call ot_126 Ot_71.out)
                          have Dt_126_t_77 := Lib.hid (apart_call ot_126 Ot_77.out)
                          have Ot_126 := Lib.hid (own_lower ot_126 HBwt_116.out.size)
                          clear ot_126
                          have HBwt_126 := Lib.hid (Below.step HBwt_116.out bt_126)
                          replace Ot_24 := Lib.hid (own_below Ot_24.out bt_126)
                          replace Ot_26 := Lib.hid (own_below Ot_26.out bt_126)
                          replace Ot_28 := Lib.hid (own_below Ot_28.out bt_126)
                          replace Ot_29a := Lib.hid (own_below Ot_29a.out bt_126)
                          replace Pt_84 := Lib.hid (own_below Pt_84.out bt_126)
                          replace Pt_88 := Lib.hid (own_below Pt_88.out bt_126)
                          replace Pt_92 := Lib.hid (own_below Pt_92.out bt_126)
                          replace Pt_111 := Lib.hid (own_below Pt_111.out bt_126)
                          replace Ot_65 := Lib.hid (own_below Ot_65.out bt_126)
                          replace Ot_71 := Lib.hid (own_below Ot_71.out bt_126)
                          replace Ot_77 := Lib.hid (own_below Ot_77.out bt_126)
                          clear bt_126
                          replace H := bind_hid H
                          obtain ⟨t_128, qt_128, H⟩ := H
                          go_wp2_with fail
                          go_at_call 28
                          refine (Go.Proofs.Ytlljmgphgmklcaa.GlToMailS.C (aMails) A1 c1 _   (Lib.hid (Cells.below M1.out HBwt_126.out)) N1 qt_128).mono ?_
                          rintro e_t_128 wt_128 ⟨At_128, ct_128, rfl, ot_128, bt_128⟩
                          have Dt_128_t_24 := Lib.hid (apart_call ot_128 Ot_24.out)
                          have Dt_128_t_26 := Lib.hid (apart_call ot_128 Ot_26.out)
                          have Dt_128_t_28 := Lib.hid (apart_call ot_128 Ot_28.out)
                          have Dt_128_t_29a := Lib.hid (apart_call ot_128 Ot_29a.out)
                          have Dt_128_t_36 := Lib.hid (apart_call ot_128 Pt_84.out)
                          have Dt_128_t_39 := Lib.hid (apart_call ot_128 Pt_88.out)
                          have Dt_128_t_42 := Lib.hid (apart_call ot_128 Pt_92.out)
                          have Dt_128_t_47a := Lib.hid (apart_call ot_128 Pt_111.out)
                          have Dt_128_t_65 := Lib.hid (apart_call ot_128 Ot_65.out)
                          have Dt_128_t_71 := Lib.hid (apart_call ot_128 Ot_71.out)
                          have Dt_128_t_77 := Lib.hid (apart_call ot_128 Ot_77.out)
                          have Dt_128_t_126 := Lib.hid (apart_call ot_128 Ot_126.out)
                          have Ot_128 := Lib.hid (own_lower ot_128 HBwt_126.out.size)
                          clear ot_128
                          have HBwt_128 := Lib.hid (Below.step HBwt_126.out bt_128)
                          replace Ot_24 := Lib.hid (own_below Ot_24.out bt_128)
                          replace Ot_26 := Lib.hid (own_below Ot_26.out bt_128)
                          replace Ot_28 := Lib.hid (own_below Ot_28.out bt_128)
                          replace Ot_29a := Lib.hid (own_below Ot_29a.out bt_128)
                          replace Pt_84 := Lib.hid (own_below Pt_84.out bt_128)
                          replace Pt_88 := Lib.hid (own_below Pt_88.out bt_128)
                          replace Pt_92 := Lib.hid (own_below Pt_92.out bt_128)
                          replace Pt_111 := Lib.hid (own_below Pt_111.out bt_128)
                          replace Ot_65 := Lib.hid (own_below Ot_65.out bt_128)
                          replace Ot_71 := Lib.hid (own_below Ot_71.out bt_128)
                          replace Ot_77 := Lib.hid (own_below Ot_77.out bt_128)
                          replace Ot_126 := Lib.hid (own_below Ot_126.out bt_128)
                          clear bt_128
                          replace H := bind_hid H
                          obtain ⟨t_130, qt_130, H⟩ := H
                          go_wp2_with fail
                          go_at_call 21
                          refine (Go.Proofs.Ytlljmgphgmklcaa.GlToCoverS.C (aList) A2 c2 _   (Lib.hid (Cells.below M2.out HBwt_128.out)) N2 qt_130).mono ?_
                          rintro e_t_130 wt_130 ⟨At_130, ct_130, rfl, ot_130, bt_130⟩
                          have Dt_130_t_24 := Lib.hid (apart_call ot_130 Ot_24.out)
                          have Dt_130_t_26 := Lib.hid (apart_call ot_130 Ot_26.out)
                          have Dt_130_t_28 := Lib.hid (apart_call ot_130 Ot_28.out)
                          have Dt_130_t_29a := Lib.hid (apart_call ot_130 Ot_29a.out)
                          have Dt_130_t_36 := Lib.hid (apart_call ot_130 Pt_84.out)
                          have Dt_130_t_39 := Lib.hid (apart_call ot_130 Pt_88.out)
                          have Dt_130_t_42 := Lib.hid (apart_call ot_130 Pt_92.out)
                          have Dt_130_t_47a := Lib.hid (apart_call ot_130 Pt_111.out)
                          have Dt_130_t_65 := Lib.hid (apart_call ot_130 Ot_65.out)
                          have Dt_130_t_71 := Lib.hid (apart_call ot_130 Ot_71.out)
                          have Dt_130_t_77 := Lib.hid (apart_call ot_130 Ot_77.out)
                          have Dt_130_t_126 := Lib.hid (apart_call ot_130 Ot_126.out)
                          have Dt_130_t_128 := Lib.hid (apart_call ot_130 Ot_128.out)
                          have Ot_130 := Lib.hid (own_lower ot_130 HBwt_128.out.size)
                          clear ot_130
                          have HBwt_130 := Lib.hid (Below.step HBwt_128.out bt_130)
                          replace Ot_24 := Lib.hid (own_below Ot_24.out bt_130)
                          replace Ot_26 := Lib.hid (own_below Ot_26.out bt_130)
                          replace Ot_28 := Lib.hid (own_below Ot_28.out bt_130)
                          replace Ot_29a := Lib.hid (own_below Ot_29a.out bt_130)
                          replace Pt_84 := Lib.hid (own_below Pt_84.out bt_130)
                          replace Pt_88 := Lib.hid (own_below Pt_88.out bt_130)
                          replace Pt_92 := Lib.hid (own_below Pt_92.out bt_130)
                          replace Pt_111 := Lib.hid (own_below Pt_111.out bt_130)
                          replace Ot_65 := Lib.hid (own_below Ot_65.out bt_130)
                          replace Ot_71 := Lib.hid (own_below Ot_71.out bt_130)
                          replace Ot_77 := Lib.hid (own_below Ot_77.out bt_130)
                          replace Ot_126 := Lib.hid (own_below Ot_126.out bt_130)
                          replace Ot_128 := Lib.hid (own_below Ot_128.out bt_130)
                          clear bt_130
                          replace H := bind2_hid H
                          obtain ⟨t_131a, t_131b, qt_131, H⟩ := H
                          go_wp2_with fail
                          go_at_call 33
                          refine (Go.Proofs.Ytlljmgphgmklcaa.GiTrueCovers.C (t_126) (t_128) (t_130) At_126 ct_126 At_128 ct_128 At_130 ct_130 _   (Lib.hid (own_cells Ot_126.out)) (Lib.hid (own_max Ot_126.out)) (Lib.hid (own_cells Ot_128.out)) (Lib.hid (own_max Ot_128.out)) (Lib.hid (own_cells Ot_130.out)) (Lib.hid (own_max Ot_130.out)) qt_131).mono ?_
                          rintro e_t_131 wt_131 ⟨At_131a, ct_131a, rfl, ot_131a, bt_131⟩
                          have Dt_131a_t_24 := Lib.hid (apart_call ot_131a Ot_24.out)
                          have Dt_131a_t_26 := Lib.hid (apart_call ot_131a Ot_26.out)
                          have Dt_131a_t_28 := Lib.hid (apart_call ot_131a Ot_28.out)
                          have Dt_131a_t_29a := Lib.hid (apart_call ot_131a Ot_29a.out)
                          have Dt_131a_t_36 := Lib.hid (apart_call ot_131a Pt_84.out)
                          have Dt_131a_t_39 := Lib.hid (apart_call ot_131a Pt_88.out)
                          have Dt_131a_t_42 := Lib.hid (apart_call ot_131a Pt_92.out)
                          have Dt_131a_t_47a := Lib.hid (apart_call ot_131a Pt_111.out)
                          have Dt_131a_t_65 := Lib.hid (apart_call ot_131a Ot_65.out)
                          have Dt_131a_t_71 := Lib.hid (apart_call ot_131a Ot_71.out)
                          have Dt_131a_t_77 := Lib.hid (apart_call ot_131a Ot_77.out)
                          have Dt_131a_t_126 := Lib.hid (apart_call ot_131a Ot_126.out)
                          have Dt_131a_t_128 := Lib.hid (apart_call ot_131a Ot_128.out)
                          have Dt_131a_t_130 := Lib.hid (apart_call ot_131a Ot_130.out)
                          have Ot_131a := Lib.hid (own_lower ot_131a HBwt_130.out.size)
                          clear ot_131a
                          have HBwt_131 := Lib.hid (Below.step HBwt_130.out bt_131)
                          replace Ot_24 := Lib.hid (own_below Ot_24.out bt_131)
                          replace Ot_26 := Lib.hid (own_below Ot_26.out bt_131)
                          replace Ot_28 := Lib.hid (own_below Ot_28.out bt_131)
                          replace Ot_29a := Lib.hid (own_below Ot_29a.out bt_131)
                          replace Pt_84 := Lib.hid (own_below Pt_84.out bt_131)
                          replace Pt_88 := Lib.hid (own_below Pt_88.out bt_131)
                          replace Pt_92 := Lib.hid (own_below Pt_92.out bt_131)
                          replace Pt_111 := Lib.hid (own_below Pt_111.out bt_131)
                          replace Ot_65 := Lib.hid (own_below Ot_65.out bt_131)
                          replace Ot_71 := Lib.hid (own_below Ot_71.out bt_131)
                          replace Ot_77 := Lib.hid (own_below Ot_77.out bt_131)
                          replace Ot_126 := Lib.hid (own_below Ot_126.out bt_131)
                          replace Ot_128 := Lib.hid (own_below Ot_128.out bt_131)
                          replace Ot_130 := Lib.hid (own_below Ot_130.out bt_131)
                          clear bt_131
                          replace H := bind_hid H
                          obtain ⟨t_139, qt_139, H⟩ := H
                          go_wp2_with fail
                          go_at_call 34
                          refine (Go.Proofs.Ytlljmgphgmklcaa.GlEqIntS.C (t_131a) (t_29a) At_131a ct_131a At_29a ct_29a _   (Lib.hid (own_cells Ot_131a.out)) (Lib.hid (own_max Ot_131a.out)) (Lib.hid (own_cells Ot_29a.out)) (Lib.hid (own_max Ot_29a.out)) qt_139).mono ?_
                          rintro e_t_139 wt_139 ⟨rfl, bt_139⟩
                          have HBwt_139 := Lib.hid (Below.step HBwt_131.out bt_139)
                          replace Ot_24 := Lib.hid (own_below Ot_24.out bt_139)
                          replace Ot_26 := Lib.hid (own_below Ot_26.out bt_139)
                          replace Ot_28 := Lib.hid (own_below Ot_28.out bt_139)
                          replace Ot_29a := Lib.hid (own_below Ot_29a.out bt_139)
                          replace Pt_84 := Lib.hid (own_below Pt_84.out bt_139)
                          replace Pt_88 := Lib.hid (own_below Pt_88.out bt_139)
                          replace Pt_92 := Lib.hid (own_below Pt_92.out bt_139)
                          replace Pt_111 := Lib.hid (own_below Pt_111.out bt_139)
                          replace Ot_65 := Lib.hid (own_below Ot_65.out bt_139)
                          replace Ot_71 := Lib.hid (own_below Ot_71.out bt_139)
                          replace Ot_77 := Lib.hid (own_below Ot_77.out bt_139)
                          replace Ot_126 := Lib.hid (own_below Ot_126.out bt_139)
                          replace Ot_128 := Lib.hid (own_below Ot_128.out bt_139)
                          replace Ot_130 := Lib.hid (own_below Ot_130.out bt_139)
                          replace Ot_131a := Lib.hid (own_below Ot_131a.out bt_139)
                          clear bt_139
                          cases t_139 with
                          | false =>
                            replace H := let_hid H
                            obtain ⟨t_140, ht_140, H⟩ := H
                            obtain rfl : t_140 = true := ht_140.symm
                            replace H := join_hid H
                            replace H := ite_t H
                            replace H := app_hid H
                            replace H := ite_t H
                            obtain rfl := ret_hid H
                            go_wp2_with fail
                            go_ret
                            exact ⟨rfl, HBwt_139.out⟩
                          | true =>
                            replace H := let_hid H
                            obtain ⟨t_140, ht_140, H⟩ := H
                            obtain rfl : t_140 = false := ht_140.symm
                            replace H := join_hid H
                            replace H := ite_f H
                            replace H := let_hid H
                            obtain ⟨t_144, ht_144, H⟩ := H
                            replace H := app_hid H
                            cases t_144 with
                            | false =>
                              replace H := ite_f H
                              replace H := bind_hid H
                              obtain ⟨t_150, qt_150, H⟩ := H
                              go_wp2_with fail
                              go_at_call 39
                              refine (Go.Proofs.Ytlljmgphgmklcaa.GlHeldIntS.C (lt_111) (1) At_47a ct_47a _   (Lib.hid (own_cells Pt_111.out)) (Lib.hid (own_max Pt_111.out)) qt_150).mono ?_
                              rintro e_t_150 wt_150 ⟨rfl, bt_150⟩
                              have HBwt_150 := Lib.hid (Below.step HBwt_139.out bt_150)
                              replace Ot_24 := Lib.hid (own_below Ot_24.out bt_150)
                              replace Ot_26 := Lib.hid (own_below Ot_26.out bt_150)
                              replace Ot_28 := Lib.hid (own_below Ot_28.out bt_150)
                              replace Ot_29a := Lib.hid (own_below Ot_29a.out bt_150)
                              replace Pt_84 := Lib.hid (own_below Pt_84.out bt_150)
                              replace Pt_88 := Lib.hid (own_below Pt_88.out bt_150)
                              replace Pt_92 := Lib.hid (own_below Pt_92.out bt_150)
                              replace Pt_111 := Lib.hid (own_below Pt_111.out bt_150)
                              replace Ot_65 := Lib.hid (own_below Ot_65.out bt_150)
                              replace Ot_71 := Lib.hid (own_below Ot_71.out bt_150)
                              replace Ot_77 := Lib.hid (own_below Ot_77.out bt_150)
                              replace Ot_126 := Lib.hid (own_below Ot_126.out bt_150)
                              replace Ot_128 := Lib.hid (own_below Ot_128.out bt_150)
                              replace Ot_130 := Lib.hid (own_below Ot_130.out bt_150)
                              replace Ot_131a := Lib.hid (own_below Ot_131a.out bt_150)
                              clear bt_150
                              replace H := let_hid H
                              obtain ⟨t_153, ht_153, H⟩ := H
                              cases t_153 with
                              | false =>
                                replace H := ite_f H
                                replace H := let_hid H
                                obtain ⟨t_157, ht_157, H⟩ := H
                                cases t_157 with
                                | false =>
                                  replace H := ite_f H
                                  obtain rfl := ret_hid H
                                  go_wp2_with fail
                                  go_ret
                                  exact ⟨rfl, HBwt_150.out⟩
                                | true =>
                                  replace H := ite_t H
                                  obtain rfl := ret_hid H
                                  go_wp2_with fail
                                  go_ret
                                  exact ⟨rfl, HBwt_150.out⟩
                              | true =>
                                replace H := ite_t H
                                obtain rfl := ret_hid H
                                go_wp2_with fail
                                go_ret
                                exact ⟨rfl, HBwt_150.out⟩
                            | true =>
                              replace H := ite_t H
                              obtain rfl := ret_hid H
                              go_wp2_with fail
                              go_ret
                              exact ⟨rfl, HBwt_139.out⟩
                        | true =>
                          replace H := ite_t H
                          obtain rfl := ret_hid H
                          go_wp2_with fail
                          go_ret
                          exact ⟨rfl, HBwt_116.out⟩
                      | true =>
                        replace H := ite_t H
                        obtain rfl := ret_hid H
                        go_wp2_with fail
                        go_ret
                        exact ⟨rfl, HBwt_116.out⟩
                  | true =>
                    replace H := ite_t H
                    replace H := app_hid H
                    replace H := join_hid H
                    replace H := ite_t H
                    replace H := app_hid H
                    replace H := ite_t H
                    obtain rfl := ret_hid H
                    go_wp2_with fail
                    go_ret
                    exact ⟨rfl, HBwt_92.out⟩
          | true =>
            replace H := ite_t H
            obtain rfl := ret_hid H
            go_wp2_with fail
            go_ret
            exact ⟨rfl, HBwt_55.out⟩
      | true =>
        replace H := ite_t H
        obtain rfl := ret_hid H
        go_wp2_with fail
        go_ret
        exact ⟨rfl, HBwt_18.out⟩
    | true =>
      replace H := ite_t H
      obtain rfl := ret_hid H
      go_wp2_with fail
      go_ret
      exact ⟨rfl, HBwt_11.out⟩
  | true =>
    replace H := ite_t H
    obtain rfl := ret_hid H
    go_wp2_with fail
    go_ret
    exact ⟨rfl, HBwt_4.out⟩
end Go.Proofs.Ytlljmgphgmklcaa.GlFnExactTrueCovers

/- A loop that gathers what a test lets through: the plain loop's answer. (QGath) No condition but those of each theorem. -/
namespace Go.Proofs.Ytlljmgphgmklcaa.QGath
set_option linter.unusedVariables false
open Go.RowKit
open Go.Proofs.Ytlljmgphgmklcaa.GoP Go.Proofs.Ytlljmgphgmklcaa.QBase Go.Proofs.Ytlljmgphgmklcaa.QLoop

theorem gather {α β R : Type} {l : List α} {p : α → Bool} {g : α → β} {f : Nat → List β → (List β → Option R) → (List β → Option R) → Option R} {fin : List β → Option R} (hl : l.length ≤ 1099511627776)
    (step : ∀ k nx x s, l[k]? = some x → s.length ≤ 1099511627776 → f k s nx fin = nx (if p x then s ++ [g x] else s)) : cntK f l.length 0 [] fin = fin ((l.filter p).map g) := by
  have key : ∀ m k, k + m = l.length → cntK f m k (((l.take k).filter p).map g) fin = fin ((l.filter p).map g) := by
    intro m
    induction m with
    | zero => intro k hk; obtain rfl : k = l.length := by omega
              rw [List.take_of_length_le (Nat.le_refl _)]; rfl
    | succ m ih =>
      intro k hk
      obtain ⟨x, hx, _⟩ := at_lt (l := l) (k := k) (by omega)
      show f k _ _ fin = _
      have hle : (((l.take k).filter p).map g).length ≤ 1099511627776 := by
        rw [List.length_map]
        have := List.length_filter_le p (l.take k)
        rw [List.length_take] at this
        omega
      rw [step k _ x _ hx hle, ← ih (k + 1) (by omega), take_next hx, List.filter_append, List.map_append]
      cases hp : p x <;> simp [List.filter, hp]
  exact key l.length 0 (by omega)
end Go.Proofs.Ytlljmgphgmklcaa.QGath

/- Chapter 10: covers: the plain functions of the program and of the reference agree, and the laws answer true. (Q10True) No condition but those of each theorem. -/
namespace Go.Proofs.Ytlljmgphgmklcaa.Q10True
set_option linter.unusedVariables false
set_option linter.unusedSimpArgs false
open Go.RowKit
open Go.Proofs.Ytlljmgphgmklcaa.GoP Go.Proofs.Ytlljmgphgmklcaa.PlainStamp Go.Proofs.Ytlljmgphgmklcaa.QBase Go.Proofs.Ytlljmgphgmklcaa.Q10FaultOf Go.Proofs.Ytlljmgphgmklcaa.Q10Fault Go.Proofs.Ytlljmgphgmklcaa.Q10Cover Go.Proofs.Ytlljmgphgmklcaa.Q8For Go.Proofs.Ytlljmgphgmklcaa.Q8List Go.Proofs.Ytlljmgphgmklcaa.Q9List Go.Proofs.Ytlljmgphgmklcaa.QGath Go.Proofs.Ytlljmgphgmklcaa.QLoop Go.Proofs.Ytlljmgphgmklcaa.PCover Go.Proofs.Ytlljmgphgmklcaa.PRate Go.Proofs.Ytlljmgphgmklcaa.PMail

def trueB (rs : List Rate) (ms : List Mail) (x : Cover) : Bool := decide (faultV rs ms x = 0)
def trueRes (rs : List Rate) (ms : List Mail) (l : List Cover) : List Int × Bool := if (askB rs ms && okCs l) = true then ((l.filter (trueB rs ms)).map Cover.id, true) else ([], false)
theorem true_impl (rs : List Rate) (ms : List Mail) (l : List Cover) (hr : rs.length ≤ 9223372036854775807) (hm : ms.length ≤ 9223372036854775807) : GiTrueCovers.P rs ms l = some (trueRes rs ms l) := by
  simp only [GiTrueCovers.P, can_eq rs ms hr hm, areCovers_eq, Option.bind_some, letK, joinK, appK, iteK_if, trueRes]
  cases ha : askB rs ms with
  | false => simp
  | true =>
    cases hc : okCs l with
    | false => simp
    | true =>
      have hlen := cs_len hc
      simp only [Bool.not_true, Bool.false_eq_true, if_false, Bool.and_self, if_true, GiKeysWhereCoverIntiIdOfCoveriTrueCovers1.P, letK]
      rw [gather (p := trueB rs ms) (g := Cover.id) (by omega)]
      · simp [GiKeysWhereCoverIntiIdOfCoveriTrueCovers1.e0, letK]
      · intro k nx x s hx hs
        have hi : idx l (k : Int) = some x := by rw [idx_nat, hx]
        have hf := fault_impl (ask_of ha).1 (ask_of ha).2 (cs_mem hc (List.mem_of_getElem? hx))
        obtain ⟨a, b, c, d, e, f, g, h, i⟩ := x
        simp only [GiKeysWhereCoverIntiIdOfCoveriTrueCovers1.l0, hi, Option.bind_some, unCover, GiTrueCovers1.P, hf, GiIdOfCover.P, letK, joinK, appK, iteK_if, trueB]
        rw [guardK_pos hs]
        by_cases h0 : faultV rs ms ⟨a, b, c, d, e, f, g, h, i⟩ = 0 <;> simp [h0]
theorem true_spec {fuel : Nat} (rs : List Rate) (ms : List Mail) (l : List Cover) (hr : rs.length ≤ 9223372036854775807) (hm : ms.length ≤ 9223372036854775807) (hl : l.length ≤ 9223372036854775807) (hf : 17 < fuel) : GsTrueCovers.P fuel rs ms l = some (trueRes rs ms l) := by
  have e3 := l8Good_eq (fuel := fuel) rs hr hf
  have e4 := l9Good_eq ms hm
  have e5 := l10Good_eq l hl
  cases ha : okRs rs with
  | false => rw [ha] at e3; simp [GsTrueCovers.P, e3, letK, joinK, appK, iteK_if, trueRes, askB, ha]
  | true =>
    rw [ha] at e3
    cases hb : goodM ms with
    | false => rw [hb] at e4; simp [GsTrueCovers.P, e3, e4, letK, joinK, appK, iteK_if, trueRes, askB, ha, hb]
    | true =>
      rw [hb] at e4
      cases hc : okCs l with
      | false => rw [hc] at e5; simp [GsTrueCovers.P, e3, e4, e5, letK, joinK, appK, iteK_if, trueRes, askB, ha, hb, hc]
      | true =>
        rw [hc] at e5
        have hlen := cs_len hc
        simp only [GsTrueCovers.P, e3, e4, e5, Option.bind_some, letK, joinK, appK, iteK_if, trueRes, askB, ha, hb, hc, Bool.not_true, Bool.false_eq_true, if_false, Bool.and_self, if_true]
        rw [gather (p := trueB rs ms) (g := Cover.id) (by omega)]
        · simp [GsTrueCovers.e0, letK]
        · intro k nx x s hx hs
          have hi : idx l (k : Int) = some x := by rw [idx_nat, hx]
          have hf := fault_spec ha hb (cs_mem hc (List.mem_of_getElem? hx))
          obtain ⟨a, b, c, d, e, f, g, h, i⟩ := x
          simp only [GsTrueCovers.l0, hi, Option.bind_some, unCover, hf, letK, joinK, appK, iteK_if, trueB]
          rw [guardK_pos hs]
          by_cases h0 : faultV rs ms ⟨a, b, c, d, e, f, g, h, i⟩ = 0 <;> simp [h0]
theorem true_len (rs : List Rate) (ms : List Mail) (l : List Cover) : (trueRes rs ms l).1.length ≤ l.length := by
  unfold trueRes
  split
  · rw [List.length_map]; exact List.length_filter_le _ _
  · simp
end Go.Proofs.Ytlljmgphgmklcaa.Q10True

/- The laws' helper that marks a slice of Rate as a plain function. No condition. -/
namespace Go.Proofs.Ytlljmgphgmklcaa.QHRate
set_option linter.unusedVariables false
set_option linter.unusedSimpArgs false
open Go.RowKit
open Go.Proofs.Ytlljmgphgmklcaa.GoP Go.Proofs.Ytlljmgphgmklcaa.QBase Go.Proofs.Ytlljmgphgmklcaa.QLoop Go.Proofs.Ytlljmgphgmklcaa.PRate 
theorem set_at {α : Type} {l : List α} {k : Nat} (x : α) (h : k < l.length) : idx (l.set k x) (k : Int) = some x := by rw [idx_nat, List.getElem?_set_self h]
theorem markF (l : List Rate) (k0 : Int) (hk0 : 1 ≤ k0) (hk1 : k0 ≤ 100000000) (hl : l.length ≤ 1048576) : ∃ v l', GlMarkRateS.P l k0 = some (v, l') ∧ v = k0 + 5 * (l.length : Int) := by
  obtain ⟨⟨v, l'⟩, h, hv⟩ : ∃ r : Int × List Rate, GlMarkRateS.P l k0 = some r ∧ r.1 = k0 + 5 * (l.length : Int) := by
    simp only [GlMarkRateS.P]
    refine cnt_ex (n := l.length) (Q := fun r : Int × List Rate => r.1 = k0 + 5 * (l.length : Int)) (fun k (s : List Rate × Int) => s.1.length = l.length ∧ s.2 = 5 * (k : Int) + k0) ?_ ?_ l.length 0 (l, k0) (by omega) ⟨rfl, by simp⟩
    · rintro k ⟨a, b⟩ nx hk ⟨h1, h2⟩ hn
      dsimp only at h1 h2
      obtain ⟨x, hx, hi⟩ := at_lt (l := a) (k := k) (by omega)
      have ha : k < a.length := by omega
      have w1 : IntKind.i64.wrap (b + 1) = b + 1 := wrap_in (by omega) (by omega)
      have w2 : IntKind.i64.wrap (b + 1 + 1) = b + 1 + 1 := wrap_in (by omega) (by omega)
      have w3 : IntKind.i64.wrap (b + 1 + 1 + 1) = b + 1 + 1 + 1 := wrap_in (by omega) (by omega)
      have w4 : IntKind.i64.wrap (b + 1 + 1 + 1 + 1) = b + 1 + 1 + 1 + 1 := wrap_in (by omega) (by omega)
      have w5 : IntKind.i64.wrap (b + 1 + 1 + 1 + 1 + 1) = b + 1 + 1 + 1 + 1 + 1 := wrap_in (by omega) (by omega)
      simp (disch := simp [ha]) only [GlMarkRateS.l0, unp2, hi, set_at, Option.bind_some, unRate, letK, appK, w1, w2, w3, w4, w5]
      exact hn _ ⟨by simpa using h1, by dsimp only; omega⟩
    · rintro ⟨a, b⟩ ⟨h1, h2⟩
      exact ⟨_, rfl, by dsimp only at h2 ⊢; omega⟩
  exact ⟨v, l', h, hv⟩
theorem markS (l : List Rate) (hl : l.length ≤ 1048576) : ∃ v l', GlMarkRateS.P l 1 = some (v, l') ∧ 0 ≤ v := by
  obtain ⟨v, l', h, hv⟩ := markF l 1 (by omega) (by omega) hl
  exact ⟨v, l', h, by omega⟩
end Go.Proofs.Ytlljmgphgmklcaa.QHRate

/- The laws' helper that marks a slice of Cover as a plain function. No condition. -/
namespace Go.Proofs.Ytlljmgphgmklcaa.QHCover
set_option linter.unusedVariables false
set_option linter.unusedSimpArgs false
open Go.RowKit
open Go.Proofs.Ytlljmgphgmklcaa.GoP Go.Proofs.Ytlljmgphgmklcaa.QBase Go.Proofs.Ytlljmgphgmklcaa.QLoop Go.Proofs.Ytlljmgphgmklcaa.PCover 
theorem set_at {α : Type} {l : List α} {k : Nat} (x : α) (h : k < l.length) : idx (l.set k x) (k : Int) = some x := by rw [idx_nat, List.getElem?_set_self h]
theorem markF (l : List Cover) (k0 : Int) (hk0 : 1 ≤ k0) (hk1 : k0 ≤ 100000000) (hl : l.length ≤ 1048576) : ∃ v l', GlMarkCoverS.P l k0 = some (v, l') ∧ v = k0 + 9 * (l.length : Int) := by
  obtain ⟨⟨v, l'⟩, h, hv⟩ : ∃ r : Int × List Cover, GlMarkCoverS.P l k0 = some r ∧ r.1 = k0 + 9 * (l.length : Int) := by
    simp only [GlMarkCoverS.P]
    refine cnt_ex (n := l.length) (Q := fun r : Int × List Cover => r.1 = k0 + 9 * (l.length : Int)) (fun k (s : List Cover × Int) => s.1.length = l.length ∧ s.2 = 9 * (k : Int) + k0) ?_ ?_ l.length 0 (l, k0) (by omega) ⟨rfl, by simp⟩
    · rintro k ⟨a, b⟩ nx hk ⟨h1, h2⟩ hn
      dsimp only at h1 h2
      obtain ⟨x, hx, hi⟩ := at_lt (l := a) (k := k) (by omega)
      have ha : k < a.length := by omega
      have w1 : IntKind.i64.wrap (b + 1) = b + 1 := wrap_in (by omega) (by omega)
      have w2 : IntKind.i64.wrap (b + 1 + 1) = b + 1 + 1 := wrap_in (by omega) (by omega)
      have w3 : IntKind.i64.wrap (b + 1 + 1 + 1) = b + 1 + 1 + 1 := wrap_in (by omega) (by omega)
      have w4 : IntKind.i64.wrap (b + 1 + 1 + 1 + 1) = b + 1 + 1 + 1 + 1 := wrap_in (by omega) (by omega)
      have w5 : IntKind.i64.wrap (b + 1 + 1 + 1 + 1 + 1) = b + 1 + 1 + 1 + 1 + 1 := wrap_in (by omega) (by omega)
      have w6 : IntKind.i64.wrap (b + 1 + 1 + 1 + 1 + 1 + 1) = b + 1 + 1 + 1 + 1 + 1 + 1 := wrap_in (by omega) (by omega)
      have w7 : IntKind.i64.wrap (b + 1 + 1 + 1 + 1 + 1 + 1 + 1) = b + 1 + 1 + 1 + 1 + 1 + 1 + 1 := wrap_in (by omega) (by omega)
      have w8 : IntKind.i64.wrap (b + 1 + 1 + 1 + 1 + 1 + 1 + 1 + 1) = b + 1 + 1 + 1 + 1 + 1 + 1 + 1 + 1 := wrap_in (by omega) (by omega)
      have w9 : IntKind.i64.wrap (b + 1 + 1 + 1 + 1 + 1 + 1 + 1 + 1 + 1) = b + 1 + 1 + 1 + 1 + 1 + 1 + 1 + 1 + 1 := wrap_in (by omega) (by omega)
      simp (disch := simp [ha]) only [GlMarkCoverS.l0, unp2, hi, set_at, Option.bind_some, unCover, letK, appK, w1, w2, w3, w4, w5, w6, w7, w8, w9]
      exact hn _ ⟨by simpa using h1, by dsimp only; omega⟩
    · rintro ⟨a, b⟩ ⟨h1, h2⟩
      exact ⟨_, rfl, by dsimp only at h2 ⊢; omega⟩
  exact ⟨v, l', h, hv⟩
theorem markS (l : List Cover) (hl : l.length ≤ 1048576) : ∃ v l', GlMarkCoverS.P l 1 = some (v, l') ∧ 0 ≤ v := by
  obtain ⟨v, l', h, hv⟩ := markF l 1 (by omega) (by omega) hl
  exact ⟨v, l', h, by omega⟩
end Go.Proofs.Ytlljmgphgmklcaa.QHCover

/- Chapter 10: covers: the plain functions of the program and of the reference agree, and the laws answer true. (QL10True) No condition but those of each theorem. -/
namespace Go.Proofs.Ytlljmgphgmklcaa.QL10True
set_option linter.unusedVariables false
set_option linter.unusedSimpArgs false
open Go.RowKit
open Go.Proofs.Ytlljmgphgmklcaa.GoP Go.Proofs.Ytlljmgphgmklcaa.PlainStamp Go.Proofs.Ytlljmgphgmklcaa.QBase Go.Proofs.Ytlljmgphgmklcaa.Q10True Go.Proofs.Ytlljmgphgmklcaa.Q10Three Go.Proofs.Ytlljmgphgmklcaa.QLoop Go.Proofs.Ytlljmgphgmklcaa.PCover Go.Proofs.Ytlljmgphgmklcaa.PRate Go.Proofs.Ytlljmgphgmklcaa.PMail Go.Proofs.Ytlljmgphgmklcaa.QHRateE Go.Proofs.Ytlljmgphgmklcaa.QHMailE Go.Proofs.Ytlljmgphgmklcaa.QHCoverE Go.Proofs.Ytlljmgphgmklcaa.QHRate Go.Proofs.Ytlljmgphgmklcaa.QHMail Go.Proofs.Ytlljmgphgmklcaa.QHCover Go.Proofs.Ytlljmgphgmklcaa.QInt

theorem law_true {fuel : Nat} (rs : List Rate) (ms : List Mail) (l : List Cover) (hr : rs.length ≤ 9223372036854775807) (hm : ms.length ≤ 9223372036854775807) (hl : l.length ≤ 9223372036854775807) (hf : 17 < fuel) : GlFnExactTrueCovers.P fuel rs ms l = some true := by
  simp only [GlFnExactTrueCovers.P, letK, iteK_if]
  refine sz_three rs ms l hr hm hl rfl ?_
  intro v hv hr2 hm2 hl2
  obtain ⟨⟨a, b⟩, hs⟩ : ∃ x, x = trueRes rs ms l := ⟨_, rfl⟩
  have hlen : a.length ≤ 1099511627776 := by have := true_len rs ms l; rw [← hs] at this; dsimp only at this; omega
  obtain ⟨v1, l1, m1, e1⟩ := QHRate.markF rs 1 (by omega) (by omega) hr2
  obtain ⟨v2, l2, m2, e2⟩ := QHMail.markF ms v1 (by omega) (by omega) hm2
  obtain ⟨v3, l3, m3, e3⟩ := QHCover.markF l v2 (by omega) (by omega) hl2
  have hv3 : ¬ v3 < 0 := by omega
  have hv4 : ¬ (a.length : Int) + 1 < 0 := by omega
  simp [QHRateE.toS rs hr2, QHMailE.toS ms hm2, QHCoverE.toS l hl2, true_spec rs ms l hr hm hl hf, true_impl rs ms l hr hm, ← hs, bind2, joinK, appK, iteK_if, QHRateE.eqS, QHMailE.eqS, QHCoverE.eqS, eqI, m1, m2, m3, hv3, markI a hlen, heldI a.length hlen, hv4]
end Go.Proofs.Ytlljmgphgmklcaa.QL10True

