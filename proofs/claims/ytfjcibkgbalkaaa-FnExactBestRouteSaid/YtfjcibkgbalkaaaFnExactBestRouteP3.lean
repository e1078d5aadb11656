/- The texts on which the proof of FnExactBestRoute stands, one behind the other (3 of 3). No condition of their own. -/
import Derived.Test.YtfjcibkgbalkaaaChecked
import Derived.Test.YtfjcibkgbalkaaaFnExactBestRouteP1
import Derived.Test.YtfjcibkgbalkaaaFnExactBestRouteP2
import Derived.WalkKit
import Derived.WalkSpells
import Derived.WalkLawsBesides
import Derived.BigQuiet
import Derived.OwnWalk
import Derived.Deep.LoopGhost
import Derived.Deep.QuietTactic
import Derived.IntWalk
import Derived.Lib.QuietBelow
/- loop.example/g01062/laws.FnExactBestRoute as a plain function, and the contract of the program's: where the plain one has an answer, the program has it. Conditions: slices read as lists. -/
namespace Go.Proofs.Ytfjcibkgbalkaaa.GlFnExactBestRoute
set_option linter.unusedVariables false
set_option linter.unusedSimpArgs false
open Go.RowKit
open Go.Proofs.Ytfjcibkgbalkaaa.Rowed Go.Proofs.Ytfjcibkgbalkaaa.Turn Go.Proofs.Ytfjcibkgbalkaaa.Aid Go.Proofs.Ytfjcibkgbalkaaa.GoP Go.Proofs.Ytfjcibkgbalkaaa.GoM

def P (fuel : Nat) (aList : (List Go.Proofs.Ytfjcibkgbalkaaa.PMail.Mail)) (aFrom : Int) (aMinute : Int) (aTo : Int) : Option (Bool) :=
  Option.bind (Go.Proofs.Ytfjcibkgbalkaaa.GlSzMailS.P aList 1048576) fun (t_4 : Int) =>
  letK (decide (t_4 < 0)) fun (t_7 : Bool) =>
  iteK t_7
  (some true)
  (Option.bind (Go.Proofs.Ytfjcibkgbalkaaa.GlToMailS.P aList) fun (t_10 : (List Go.Proofs.Ytfjcibkgbalkaaa.PMail.Mail)) =>
  bind2 (Go.Proofs.Ytfjcibkgbalkaaa.GsBestRoute.P fuel t_10 aFrom aMinute aTo) fun (t_14a : (List Int)) (t_14b : Bool) =>
  Option.bind (Go.Proofs.Ytfjcibkgbalkaaa.GlToMailS.P aList) fun (t_21 : (List Go.Proofs.Ytfjcibkgbalkaaa.PMail.Mail)) =>
  bind2 (Go.Proofs.Ytfjcibkgbalkaaa.GiBestRoute.P fuel t_21 aFrom aMinute aTo) fun (t_27a : (List Int)) (t_27b : Bool) =>
  Option.bind (Go.Proofs.Ytfjcibkgbalkaaa.GlEqIntS.P t_27a t_14a) fun (t_35 : Bool) =>
  letK (!t_35) fun (t_36 : Bool) =>
  joinK (fun (t_41 : Bool) =>
  iteK t_41
  (some false)
  (Option.bind (Go.Proofs.Ytfjcibkgbalkaaa.GlToMailS.P aList) fun (t_45 : (List Go.Proofs.Ytfjcibkgbalkaaa.PMail.Mail)) =>
  Option.bind (Go.Proofs.Ytfjcibkgbalkaaa.GlEqMailS.P t_21 t_45) fun (t_46 : Bool) =>
  letK (!t_46) fun (t_47 : Bool) =>
  iteK t_47
  (some false)
  (bind2 (Go.Proofs.Ytfjcibkgbalkaaa.GlMarkMailS.P t_21 1) fun (t_52 : Int) (lt_52 : (List Go.Proofs.Ytfjcibkgbalkaaa.PMail.Mail)) =>
  letK (decide (t_52 < 0)) fun (t_55 : Bool) =>
  joinK (fun (t_61 : Bool) =>
  joinK (fun (t_66 : Bool) =>
  iteK t_66
  (some false)
  (bind2 (Go.Proofs.Ytfjcibkgbalkaaa.GlMarkIntS.P t_27a 1) fun (t_71 : Int) (lt_71 : (List Int)) =>
  Option.bind (Go.Proofs.Ytfjcibkgbalkaaa.GlHeldIntS.P lt_71 1) fun (t_76 : Int) =>
  letK (decide (t_76 < 0)) fun (t_79 : Bool) =>
  iteK t_79
  (some false)
  (letK (t_76 != t_71) fun (t_83 : Bool) =>
  iteK t_83
  (some false)
  (Option.bind (Go.Proofs.Ytfjcibkgbalkaaa.GlToMailS.P aList) fun (t_86 : (List Go.Proofs.Ytfjcibkgbalkaaa.PMail.Mail)) =>
  bind2 (Go.Proofs.Ytfjcibkgbalkaaa.GiBestRoute.P fuel t_86 aFrom aMinute aTo) fun (t_90a : (List Int)) (t_90b : Bool) =>
  Option.bind (Go.Proofs.Ytfjcibkgbalkaaa.GlEqIntS.P t_90a t_14a) fun (t_98 : Bool) =>
  letK (!t_98) fun (t_99 : Bool) =>
  joinK (fun (t_104 : Bool) =>
  iteK t_104
  (some false)
  (Option.bind (Go.Proofs.Ytfjcibkgbalkaaa.GlHeldIntS.P lt_71 1) fun (t_109 : Int) =>
  letK (decide (t_109 < 0)) fun (t_112 : Bool) =>
  iteK t_112
  (some false)
  (letK (t_109 != t_71) fun (t_116 : Bool) =>
  iteK t_116
  (some false)
  (some true)))) fun jt_104 => iteK t_99 (appK jt_104 true) (letK (!(t_90b == t_14b)) fun (t_103 : Bool) =>
  appK jt_104 t_103))))) fun jt_66 => iteK t_61 (appK jt_66 true) (letK (!(t_27b == t_14b)) fun (t_65 : Bool) =>
  appK jt_66 t_65)) fun jt_61 => iteK t_55 (appK jt_61 true) (Option.bind (Go.Proofs.Ytfjcibkgbalkaaa.GlEqIntS.P t_27a t_14a) fun (t_59 : Bool) =>
  letK (!t_59) fun (t_60 : Bool) =>
  appK jt_61 t_60)))) fun jt_41 => iteK t_36 (appK jt_41 true) (letK (!(t_27b == t_14b)) fun (t_40 : Bool) =>
  appK jt_41 t_40))

set_option maxRecDepth 100000 in
set_option maxHeartbeats 2000000 in
theorem C (fuel : Nat) (aList : (List Go.Proofs.Ytfjcibkgbalkaaa.PMail.Mail)) (aFrom : Int) (aMinute : Int) (aTo : Int) (A0 : Option Addr) (c0 : Nat)  (w : World) (M0 : Hid (Cells w 4 A0 aList.length (Go.Proofs.Ytfjcibkgbalkaaa.PMail.flat aList))) (N0 : Hid (aList.length ≤ 9223372036854775807))  {r : Bool} (H : Hid (P fuel aList aFrom aMinute aTo = some r)) :
    Calls Try.prog 9 #[.slice A0 aList.length c0, .int .i64 aFrom, .int .i64 aMinute, .int .i64 aTo] w (Gives (.bool r) w) := by
  have HB := Lib.hid (Below.refl w.heap.size w)
  unfold P at H
  have N0o := N0.out
  go_enter Try.func9, Try.ntmps9
  replace H := bind_hid H
  obtain ⟨t_4, qt_4, H⟩ := H
  go_wp2_with fail
  go_at_call 47
  refine (Go.Proofs.Ytfjcibkgbalkaaa.GlSzMailS.C (aList) (1048576) A0 c0 _   (Lib.hid (Cells.below M0.out HB.out)) N0 qt_4).mono ?_
  rintro e_t_4 wt_4 ⟨rfl, bt_4⟩
  have HBwt_4 := Lib.hid (Below.step HB.out bt_4)
  clear bt_4
  replace H := let_hid H
  obtain ⟨t_7, ht_7, H⟩ := H
  cases t_7 with
  | false =>
    replace H := ite_f H
    replace H := bind_hid H
    obtain ⟨t_10, qt_10, H⟩ := H
    go_wp2_with fail
    go_at_call 48
    refine (Go.Proofs.Ytfjcibkgbalkaaa.GlToMailS.C (aList) A0 c0 _   (Lib.hid (Cells.below M0.out HBwt_4.out)) N0 qt_10).mono ?_
    rintro e_t_10 wt_10 ⟨At_10, ct_10, rfl, ot_10, bt_10⟩
    have Ot_10 := Lib.hid (own_lower ot_10 HBwt_4.out.size)
    clear ot_10
    have HBwt_10 := Lib.hid (Below.step HBwt_4.out bt_10)
    clear bt_10
    replace H := bind2_hid H
    obtain ⟨t_14a, t_14b, qt_14, H⟩ := H
    go_wp2_with fail
    go_at_call 33
    refine (Go.Proofs.Ytfjcibkgbalkaaa.GsBestRoute.C fuel (t_10) (aFrom) (aMinute) (aTo) At_10 ct_10 _   (Lib.hid (own_cells Ot_10.out)) (Lib.hid (own_max Ot_10.out)) qt_14).mono ?_
    rintro e_t_14 wt_14 ⟨At_14a, ct_14a, rfl, ot_14a, bt_14⟩
    have Dt_14a_t_10 := Lib.hid (apart_call ot_14a Ot_10.out)
    have Ot_14a := Lib.hid (own_lower ot_14a HBwt_10.out.size)
    clear ot_14a
    have HBwt_14 := Lib.hid (Below.step HBwt_10.out bt_14)
    replace Ot_10 := Lib.hid (own_below Ot_10.out bt_14)
    clear bt_14
    replace H := bind_hid H
    obtain ⟨t_21, qt_21, H⟩ := H
    go_wp2_with fail
    go_at_call 48
    refine (Go.Proofs.Ytfjcibkgbalkaaa.GlToMailS.C (aList) A0 c0 _   (Lib.hid (Cells.below M0.out HBwt_14.out)) N0 qt_21).mono ?_
    rintro e_t_21 wt_21 ⟨At_21, ct_21, rfl, ot_21, bt_21⟩
    have Dt_21_t_10 := Lib.hid (apart_call ot_21 Ot_10.out)
    have Dt_21_t_14a := Lib.hid (apart_call ot_21 Ot_14a.out)
    have Ot_21 := Lib.hid (own_lower ot_21 HBwt_14.out.size)
    clear ot_21
    have HBwt_21 := Lib.hid (Below.step HBwt_14.out bt_21)
    replace Ot_10 := Lib.hid (own_below Ot_10.out bt_21)
    replace Ot_14a := Lib.hid (own_below Ot_14a.out bt_21)
    clear bt_21
    replace H := bind2_hid H
    obtain ⟨t_27a, t_27b, qt_27, H⟩ := H
    go_wp2_with fail
    go_at_call 32
    refine (Go.Proofs.Ytfjcibkgbalkaaa.GiBestRoute.C fuel (t_21) (aFrom) (aMinute) (aTo) At_21 ct_21 _   (Lib.hid (own_cells Ot_21.out)) (Lib.hid (own_max Ot_21.out)) qt_27).mono ?_
    rintro e_t_27 wt_27 ⟨At_27a, ct_27a, rfl, ot_27a, bt_27⟩
    have Dt_27a_t_10 := Lib.hid (apart_call ot_27a Ot_10.out)
    have Dt_27a_t_14a := Lib.hid (apart_call ot_27a Ot_14a.out)
    have Dt_27a_t_21 := Lib.hid (apart_call ot_27a Ot_21.out)
    have Ot_27a := Lib.hid (own_lower ot_27a HBwt_21.out.size)
    clear ot_27a
    have HBwt_27 := Lib.hid (Below.step HBwt_21.out bt_27)
    replace Ot_10 := Lib.hid (own_below Ot_10.out bt_27)
    replace Ot_14a := Lib.hid (own_below Ot_14a.out bt_27)
    replace Ot_21 := Lib.hid (own_below Ot_21.out bt_27)
    clear bt_27
    replace H := bind_hid H
    obtain ⟨t_35, qt_35, H⟩ := H
    go_wp2_with fail
    go_at_call 51
    refine (Go.Proofs.Ytfjcibkgbalkaaa.GlEqIntS.C (t_27a) (t_14a) At_27a ct_27a At_14a ct_14a _   (Lib.hid (own_cells Ot_27a.out)) (Lib.hid (own_max Ot_27a.out)) (Lib.hid (own_cells Ot_14a.out)) (Lib.hid (own_max Ot_14a.out)) qt_35).mono ?_
    rintro e_t_35 wt_35 ⟨rfl, bt_35⟩
    have HBwt_35 := Lib.hid (Below.step HBwt_27.out bt_35)
    replace Ot_10 := Lib.hid (own_below Ot_10.out bt_35)
    replace Ot_14a := Lib.hid (own_below Ot_14a.out bt_35)
    replace Ot_21 := Lib.hid (own_below Ot_21.out bt_35)
    replace Ot_27a := Lib.hid (own_below Ot_27a.out bt_35)
    clear bt_35
    cases t_35 with
    | false =>
      replace H := let_hid H
      obtain ⟨t_36, ht_36, H⟩ := H
      obtain rfl : t_36 = true := ht_36.symm
      replace H := join_hid H
      replace H := ite_t H
      replace H := app_hid H
      replace H := ite_t H
      obtain rfl := ret_hid H
      go_wp2_with fail
      go_ret
      exact ⟨rfl, HBwt_35.out⟩
    | true =>
      replace H := let_hid H
      obtain ⟨t_36, ht_36, H⟩ := H
      obtain rfl : t_36 = false := ht_36.symm
      replace H := join_hid H
      replace H := ite_f H
      replace H := let_hid H
      obtain ⟨t_40, ht_40, H⟩ := H
      replace H := app_hid H
      cases t_40 with
      | false =>
        replace H := ite_f H
        replace H := bind_hid H
        obtain ⟨t_45, qt_45, H⟩ := H
        go_wp2_with fail
        go_at_call 48
        refine (Go.Proofs.Ytfjcibkgbalkaaa.GlToMailS.C (aList) A0 c0 _   (Lib.hid (Cells.below M0.out HBwt_35.out)) N0 qt_45).mono ?_
        rintro e_t_45 wt_45 ⟨At_45, ct_45, rfl, ot_45, bt_45⟩
        have Dt_45_t_10 := Lib.hid (apart_call ot_45 Ot_10.out)
        have Dt_45_t_14a := Lib.hid (apart_call ot_45 Ot_14a.out)
        have Dt_45_t_21 := Lib.hid (apart_call ot_45 Ot_21.out)
        have Dt_45_t_27a := Lib.hid (apart_call ot_45 Ot_27a.out)
        have Ot_45 := Lib.hid (own_lower ot_45 HBwt_35.out.size)
        clear ot_45
        have HBwt_45 := Lib.hid (Below.step HBwt_35.out bt_45)
        replace Ot_10 := Lib.hid (own_below Ot_10.out bt_45)
        replace Ot_14a := Lib.hid (own_below Ot_14a.out bt_45)
        replace Ot_21 := Lib.hid (own_below Ot_21.out bt_45)
        replace Ot_27a := Lib.hid (own_below Ot_27a.out bt_45)
        clear bt_45
        replace H := bind_hid H
        obtain ⟨t_46, qt_46, H⟩ := H
        go_wp2_with fail
        go_at_call 49
        refine (Go.Proofs.Ytfjcibkgbalkaaa.GlEqMailS.C (t_21) (t_45) At_21 ct_21 At_45 ct_45 _   (Lib.hid (own_cells Ot_21.out)) (Lib.hid (own_max Ot_21.out)) (Lib.hid (own_cells Ot_45.out)) (Lib.hid (own_max Ot_45.out)) qt_46).mono ?_
        rintro e_t_46 wt_46 ⟨rfl, bt_46⟩
        have HBwt_46 := Lib.hid (Below.step HBwt_45.out bt_46)
        replace Ot_10 := Lib.hid (own_below Ot_10.out bt_46)
        replace Ot_14a := Lib.hid (own_below Ot_14a.out bt_46)
        replace Ot_21 := Lib.hid (own_below Ot_21.out bt_46)
        replace Ot_27a := Lib.hid (own_below Ot_27a.out bt_46)
        replace Ot_45 := Lib.hid (own_below Ot_45.out bt_46)
        clear bt_46
        cases t_46 with
        | false =>
          replace H := let_hid H
          obtain ⟨t_47, ht_47, H⟩ := H
          obtain rfl : t_47 = true := ht_47.symm
          replace H := ite_t H
          obtain rfl := ret_hid H
          go_wp2_with fail
          go_ret
          exact ⟨rfl, HBwt_46.out⟩
        | true =>
          replace H := let_hid H
          obtain ⟨t_47, ht_47, H⟩ := H
          obtain rfl : t_47 = false := ht_47.symm
          replace H := ite_f H
          replace H := bind2_hid H
          obtain ⟨t_52, lt_52, qt_52, H⟩ := H
          go_wp2_with fail
          go_at_call 52
          refine (Go.Proofs.Ytfjcibkgbalkaaa.GlMarkMailS.C (t_21) (1) At_21 ct_21 w.heap.size _   Ot_21 (Lib.hid (own_max Ot_21.out))   qt_52).mono ?_
          rintro e_t_52 wt_52 ⟨rfl, ot_52, nt_52, gt_52⟩
          have Pt_52 := Lib.hid ot_52
          have Gt_52 := Lib.hid gt_52
          replace nt_52 := Lib.hid nt_52
          clear ot_52 gt_52
          have HBwt_52 := Lib.hid (HBwt_46.out.grown Gt_52.out HBwt_46.out.size (fun q hq => (Ot_21.out.lt q hq).1))
          replace Ot_10 := Lib.hid (own_other Ot_10.out Gt_52.out Dt_21_t_10.out)
          replace Ot_14a := Lib.hid (own_other Ot_14a.out Gt_52.out Dt_21_t_14a.out)
          replace Ot_27a := Lib.hid (own_other Ot_27a.out Gt_52.out (Apart.symm Dt_27a_t_21.out))
          replace Ot_45 := Lib.hid (own_other Ot_45.out Gt_52.out (Apart.symm Dt_45_t_21.out))
          clear Ot_21 Gt_52
          replace H := let_hid H
          obtain ⟨t_55, ht_55, H⟩ := H
          replace H := join_hid H
          cases t_55 with
          | false =>
            replace H := ite_f H
            replace H := bind_hid H
            obtain ⟨t_59, qt_59, H⟩ := H
            go_wp2_with fail
            go_at_call 51
            refine (Go.Proofs.Ytfjcibkgbalkaaa.GlEqIntS.C (t_27a) (t_14a) At_27a ct_27a At_14a ct_14a _   (Lib.hid (own_cells Ot_27a.out)) (Lib.hid (own_max Ot_27a.out)) (Lib.hid (own_cells Ot_14a.out)) (Lib.hid (own_max Ot_14a.out)) qt_59).mono ?_
            rintro e_t_59 wt_59 ⟨rfl, bt_59⟩
            have HBwt_59 := Lib.hid (Below.step HBwt_52.out bt_59)
            replace Ot_10 := Lib.hid (own_below Ot_10.out bt_59)
            replace Ot_14a := Lib.hid (own_below Ot_14a.out bt_59)
            replace Pt_52 := Lib.hid (own_below Pt_52.out bt_59)
            replace Ot_27a := Lib.hid (own_below Ot_27a.out bt_59)
            replace Ot_45 := Lib.hid (own_below Ot_45.out bt_59)
            clear bt_59
            cases t_59 with
            | false =>
              replace H := let_hid H
              obtain ⟨t_60, ht_60, H⟩ := H
              obtain rfl : t_60 = true := ht_60.symm
              replace H := app_hid H
              replace H := join_hid H
              replace H := ite_t H
              replace H := app_hid H
              replace H := ite_t H
              obtain rfl := ret_hid H
              go_wp2_with fail
              go_ret
              exact ⟨rfl, HBwt_59.out⟩
            | true =>
              replace H := let_hid H
              obtain ⟨t_60, ht_60, H⟩ := H
              obtain rfl : t_60 = false := ht_60.symm
              replace H := app_hid H
              replace H := join_hid H
              replace H := ite_f H
              replace H := let_hid H
              obtain ⟨t_65, ht_65, H⟩ := H
              obtain rfl := ht_40.symm.trans ht_65
              replace H := app_hid H
              replace H := ite_f H
              replace H := bind2_hid H
              obtain ⟨t_71, lt_71, qt_71, H⟩ := H
              go_wp2_with fail
              go_at_call 53
              refine (Go.Proofs.Ytfjcibkgbalkaaa.GlMarkIntS.C (t_27a) (1) At_27a ct_27a w.heap.size _   Ot_27a (Lib.hid (own_max Ot_27a.out))   qt_71).mono ?_
              rintro e_t_71 wt_71 ⟨rfl, ot_71, nt_71, gt_71⟩
              have Pt_71 := Lib.hid ot_71
              have Gt_71 := Lib.hid gt_71
              replace nt_71 := Lib.hid nt_71
              clear ot_71 gt_71
              have HBwt_71 := Lib.hid (HBwt_59.out.grown Gt_71.out HBwt_59.out.size (fun q hq => (Ot_27a.out.lt q hq).1))
              replace Ot_10 := Lib.hid (own_other Ot_10.out Gt_71.out Dt_27a_t_10.out)
              replace Ot_14a := Lib.hid (own_other Ot_14a.out Gt_71.out Dt_27a_t_14a.out)
              replace Pt_52 := Lib.hid (own_other Pt_52.out Gt_71.out Dt_27a_t_21.out)
              replace Ot_45 := Lib.hid (own_other Ot_45.out Gt_71.out (Apart.symm Dt_45_t_27a.out))
              clear Ot_27a Gt_71
              replace H := bind_hid H
              obtain ⟨t_76, qt_76, H⟩ := H
              go_wp2_with fail
              have hc_ := nt_71.out
              have hv_ : (Value.slice At_27a t_27a.length ct_27a : Value) = Value.slice At_27a lt_71.length ct_27a := by rw [hc_]
              try rw [hv_]
              replace Pt_71 := Lib.hid (own_len hc_ Pt_71.out)
              clear hc_ hv_
              go_wp2_with fail
              go_at_call 54
              refine (Go.Proofs.Ytfjcibkgbalkaaa.GlHeldIntS.C (lt_71) (1) At_27a ct_27a _   (Lib.hid (own_cells Pt_71.out)) (Lib.hid (own_max Pt_71.out)) qt_76).mono ?_
              rintro e_t_76 wt_76 ⟨rfl, bt_76⟩
              have HBwt_76 := Lib.hid (Below.step HBwt_71.out bt_76)
              replace Ot_10 := Lib.hid (own_below Ot_10.out bt_76)
              replace Ot_14a := Lib.hid (own_below Ot_14a.out bt_76)
              replace Pt_52 := Lib.hid (own_below Pt_52.out bt_76)
              replace Pt_71 := Lib.hid (own_below Pt_71.out bt_76)
              replace Ot_45 := Lib.hid (own_below Ot_45.out bt_76)
              clear bt_76
              replace H := let_hid H
              obtain ⟨t_79, ht_79, H⟩ := H
              cases t_79 with
              | false =>
                replace H := ite_f H
                replace H := let_hid H
                obtain ⟨t_83, ht_83, H⟩ := H
                cases t_83 with
                | false =>
                  replace H := ite_f H
                  replace H := bind_hid H
                  obtain ⟨t_86, qt_86, H⟩ := H
                  go_wp2_with fail
                  go_at_call 48
                  refine (Go.Proofs.Ytfjcibkgbalkaaa.GlToMailS.C (aList) A0 c0 _   (Lib.hid (Cells.below M0.out HBwt_76.out)) N0 qt_86).mono ?_
                  rintro e_t_86 wt_86 ⟨At_86, ct_86, rfl, ot_86, bt_86⟩
                  have Dt_86_t_10 := Lib.hid (apart_call ot_86 Ot_10.out)
                  have Dt_86_t_14a := Lib.hid (apart_call ot_86 Ot_14a.out)
                  have Dt_86_t_21 := Lib.hid (apart_call ot_86 Pt_52.out)
                  have Dt_86_t_27a := Lib.hid (apart_call ot_86 Pt_71.out)
                  have Dt_86_t_45 := Lib.hid (apart_call ot_86 Ot_45.out)
                  have Ot_86 := Lib.hid (own_lower ot_86 HBwt_76.out.size)
                  clear ot_86
                  have HBwt_86 := Lib.hid (Below.step HBwt_76.out bt_86)
                  replace Ot_10 := Lib.hid (own_below Ot_10.out bt_86)
                  replace Ot_14a := Lib.hid (own_below Ot_14a.out bt_86)
                  replace Pt_52 := Lib.hid (own_below Pt_52.out bt_86)
                  replace Pt_71 := Lib.hid (own_below Pt_71.out bt_86)
                  replace Ot_45 := Lib.hid (own_below Ot_45.out bt_86)
                  clear bt_86
                  replace H := bind2_hid H
                  obtain ⟨t_90a, t_90b, qt_90, H⟩ := H
                  go_wp2_with fail
                  go_at_call 32
                  refine (Go.Proofs.Ytfjcibkgbalkaaa.GiBestRoute.C fuel (t_86) (aFrom) (aMinute) (aTo) At_86 ct_86 _   (Lib.hid (own_cells Ot_86.out)) (Lib.hid (own_max Ot_86.out)) qt_90).mono ?_
                  rintro e_t_90 wt_90 ⟨At_90a, ct_90a, rfl, ot_90a, bt_90⟩
                  have Dt_90a_t_10 := Lib.hid (apart_call ot_90a Ot_10.out)
                  have Dt_90a_t_14a := Lib.hid (apart_call ot_90a Ot_14a.out)
                  have Dt_90a_t_21 := Lib.hid (apart_call ot_90a Pt_52.out)
                  have Dt_90a_t_27a := Lib.hid (apart_call ot_90a Pt_71.out)
                  have Dt_90a_t_45 := Lib.hid (apart_call ot_90a Ot_45.out)
                  have Dt_90a_t_86 := Lib.hid (apart_call ot_90a Ot_86.out)
                  have Ot_90a := Lib.hid (own_lower ot_90a HBwt_86.out.size)
                  clear ot_90a
                  have HBwt_90 := Lib.hid (Below.step HBwt_86.out bt_90)
                  replace Ot_10 := Lib.hid (own_below Ot_10.out bt_90)
                  replace Ot_14a := Lib.hid (own_below Ot_14a.out bt_90)
                  replace Pt_52 := Lib.hid (own_below Pt_52.out bt_90)
                  replace Pt_71 := Lib.hid (own_below Pt_71.out bt_90)
                  replace Ot_45 := Lib.hid (own_below Ot_45.out bt_90)
                  replace Ot_86 := Lib.hid (own_below Ot_86.out bt_90)
                  clear bt_90
                  replace H := bind_hid H
                  obtain ⟨t_98, qt_98, H⟩ := H
                  go_wp2_with fail
                  go_at_call 51
                  refine (Go.Proofs.Ytfjcibkgbalkaaa.GlEqIntS.C (t_90a) (t_14a) At_90a ct_90a At_14a ct_14a _   (Lib.hid (own_cells Ot_90a.out)) (Lib.hid (own_max Ot_90a.out)) (Lib.hid (own_cells Ot_14a.out)) (Lib.hid (own_max Ot_14a.out)) qt_98).mono ?_
                  rintro e_t_98 wt_98 ⟨rfl, bt_98⟩
                  have HBwt_98 := Lib.hid (Below.step HBwt_90.out bt_98)
                  replace Ot_10 := Lib.hid (own_below Ot_10.out bt_98)
                  replace Ot_14a := Lib.hid (own_below Ot_14a.out bt_98)
                  replace Pt_52 := Lib.hid (own_below Pt_52.out bt_98)
                  replace Pt_71 := Lib.hid (own_below Pt_71.out bt_98)
                  replace Ot_45 := Lib.hid (own_below Ot_45.out bt_98)
                  replace Ot_86 := Lib.hid (own_below Ot_86.out bt_98)
                  replace Ot_90a := Lib.hid (own_below Ot_90a.out bt_98)
                  clear bt_98
                  cases t_98 with
                  | false =>
                    replace H := let_hid H
                    obtain ⟨t_99, ht_99, H⟩ := H
                    obtain rfl : t_99 = true := ht_99.symm
                    replace H := join_hid H
                    replace H := ite_t H
                    replace H := app_hid H
                    replace H := ite_t H
                    obtain rfl := ret_hid H
                    go_wp2_with fail
                    go_ret
                    exact ⟨rfl, HBwt_98.out⟩
                  | true =>
                    replace H := let_hid H
                    obtain ⟨t_99, ht_99, H⟩ := H
                    obtain rfl : t_99 = false := ht_99.symm
                    replace H := join_hid H
                    replace H := ite_f H
                    replace H := let_hid H
                    obtain ⟨t_103, ht_103, H⟩ := H
                    replace H := app_hid H
                    cases t_103 with
                    | false =>
                      replace H := ite_f H
                      replace H := bind_hid H
                      obtain ⟨t_109, qt_109, H⟩ := H
                      go_wp2_with fail
                      go_at_call 54
                      refine (Go.Proofs.Ytfjcibkgbalkaaa.GlHeldIntS.C (lt_71) (1) At_27a ct_27a _   (Lib.hid (own_cells Pt_71.out)) (Lib.hid (own_max Pt_71.out)) qt_109).mono ?_
                      rintro e_t_109 wt_109 ⟨rfl, bt_109⟩
                      have HBwt_109 := Lib.hid (Below.step HBwt_98.out bt_109)
                      replace Ot_10 := Lib.hid (own_below Ot_10.out bt_109)
                      replace Ot_14a := Lib.hid (own_below Ot_14a.out bt_109)
                      replace Pt_52 := Lib.hid (own_below Pt_52.out bt_109)
                      replace Pt_71 := Lib.hid (own_below Pt_71.out bt_109)
                      replace Ot_45 := Lib.hid (own_below Ot_45.out bt_109)
                      replace Ot_86 := Lib.hid (own_below Ot_86.out bt_109)
                      replace Ot_90a := Lib.hid (own_below Ot_90a.out bt_109)
                      clear bt_109
                      replace H := let_hid H
                      obtain ⟨t_112, ht_112, H⟩ := H
                      cases t_112 with
                      | false =>
                        replace H := ite_f H
                        replace H := let_hid H
                        obtain ⟨t_116, ht_116, H⟩ := H
                        cases t_116 with
                        | false =>
                          replace H := ite_f H
                          obtain rfl := ret_hid H
                          go_wp2_with fail
                          go_ret
                          exact ⟨rfl, HBwt_109.out⟩
                        | true =>
                          replace H := ite_t H
                          obtain rfl := ret_hid H
                          go_wp2_with fail
                          go_ret
                          exact ⟨rfl, HBwt_109.out⟩
                      | true =>
                        replace H := ite_t H
                        obtain rfl := ret_hid H
                        go_wp2_with fail
                        go_ret
                        exact ⟨rfl, HBwt_109.out⟩
                    | true =>
                      replace H := ite_t H
                      obtain rfl := ret_hid H
                      go_wp2_with fail
                      go_ret
                      exact ⟨rfl, HBwt_98.out⟩
                | true =>
                  replace H := ite_t H
                  obtain rfl := ret_hid H
                  go_wp2_with fail
                  go_ret
                  exact ⟨rfl, HBwt_76.out⟩
              | true =>
                replace H := ite_t H
                obtain rfl := ret_hid H
                go_wp2_with fail
                go_ret
                exact ⟨rfl, HBwt_76.out⟩
          | true =>
            replace H := ite_t H
            replace H := app_hid H
            replace H := join_hid H
            replace H := ite_t H
            replace H := app_hid H
            replace H := ite_t H
            obtain rfl := ret_hid H
            go_wp2_with fail
            go_ret
            exact ⟨rfl, HBwt_52.out⟩
      | true =>
        replace H := ite_t H
        obtain rfl := ret_hid H
        go_wp2_with fail
        go_ret
        exact ⟨rfl, HBwt_35.out⟩
  | true =>
    replace H := ite_t H
    obtain rfl := ret_hid H
    go_wp2_with fail
    go_ret
    exact ⟨rfl, HBwt_4.out⟩
end Go.Proofs.Ytfjcibkgbalkaaa.GlFnExactBestRoute

/- Plain words on stamps: what a stamp is, when one is valid, when a list of them is; the cells of a list of records. No condition. -/
namespace Go.Proofs.Ytfjcibkgbalkaaa.PlainStamp
set_option linter.unusedVariables false

/-- a number lies in a..b -/
def inB (x a b : Int) : Bool := decide (a ≤ x ∧ x ≤ b)
theorem inB_yes {x a b : Int} (h1 : a ≤ x) (h2 : x ≤ b) : inB x a b = true := by unfold inB; exact decide_eq_true ⟨h1, h2⟩
theorem inB_of {x a b : Int} (h : inB x a b = true) : a ≤ x ∧ x ≤ b := by unfold inB at h; exact of_decide_eq_true h
theorem inB_no {x a b : Int} (h : x < a ∨ b < x) : inB x a b = false := by unfold inB; exact decide_eq_false (by omega)

structure St where
  id : Int
  face : Int
  color : Int
  year : Int
deriving DecidableEq

def St.cells (s : St) : List Value := [.int .i64 s.id, .int .i64 s.face, .int .i64 s.color, .int .i64 s.year]
def St.val (s : St) : Value := .agg #[.int .i64 s.id, .int .i64 s.face, .int .i64 s.color, .int .i64 s.year]
/-- each field fits an int -/
def St.fits (s : St) : Prop := (Lit.int .i64 s.id).wf = true ∧ (Lit.int .i64 s.face).wf = true ∧ (Lit.int .i64 s.color).wf = true ∧ (Lit.int .i64 s.year).wf = true

def okSt (s : St) : Bool := inB s.id 1 999 && inB s.face 0 9999 && inB s.color 0 99 && inB s.year 1840 2100
theorem okSt_yes {s : St} (h : okSt s = true) : (1 ≤ s.id ∧ s.id ≤ 999) ∧ (0 ≤ s.face ∧ s.face ≤ 9999) ∧ (0 ≤ s.color ∧ s.color ≤ 99) ∧ (1840 ≤ s.year ∧ s.year ≤ 2100) := by
  unfold okSt at h
  simp only [Bool.and_eq_true] at h
  exact ⟨inB_of h.1.1.1, inB_of h.1.1.2, inB_of h.1.2, inB_of h.2⟩

/-- the stamp at k is valid, and its id is above the one ahead of it -/
def okAt (l : List St) (k : Nat) : Bool :=
  match l[k]? with
  | none => true
  | some s => okSt s && (decide (k = 0) || (match l[k-1]? with | none => true | some r => decide (r.id < s.id)))
def okUp (l : List St) (k : Nat) : Bool := (List.range k).all (okAt l)
theorem okUp_zero (l : List St) : okUp l 0 = true := by simp [okUp]
theorem okUp_succ (l : List St) (k : Nat) : okUp l (k + 1) = (okUp l k && okAt l k) := by simp [okUp, List.range_succ, List.all_append]
theorem okUp_not {l : List St} {k n : Nat} (h : okAt l k = false) (hk : k < n) : okUp l n = false := by
  unfold okUp
  rw [Bool.eq_false_iff]
  intro hall
  have := List.all_eq_true.1 hall k (List.mem_range.2 hk)
  rw [h] at this; exact absurd this (by simp)
/-- a list of at most twelve valid stamps with rising ids -/
def okSts (l : List St) : Bool := decide (l.length ≤ 12) && okUp l l.length
theorem okAt_of {l : List St} {k : Nat} {s : St} (hs : l[k]? = some s) (h : okAt l k = true) : okSt s = true ∧ ∀ r, 0 < k → l[k-1]? = some r → r.id < s.id := by
  unfold okAt at h
  rw [hs] at h
  simp only [Bool.and_eq_true, Bool.or_eq_true, decide_eq_true_eq] at h
  refine ⟨h.1, fun r hk hr => ?_⟩
  rcases h.2 with h0 | h0
  · omega
  · rw [hr] at h0; simpa using h0
theorem okSts_len {l : List St} (h : okSts l = true) : l.length ≤ 12 := by unfold okSts at h; simp only [Bool.and_eq_true, decide_eq_true_eq] at h; exact h.1
theorem okSts_at {l : List St} (h : okSts l = true) {k : Nat} {s : St} (hs : l[k]? = some s) : okSt s = true ∧ ∀ r, 0 < k → l[k-1]? = some r → r.id < s.id := by
  unfold okSts at h
  simp only [Bool.and_eq_true, decide_eq_true_eq] at h
  exact okAt_of hs (List.all_eq_true.1 h.2 k (List.mem_range.2 (List.getElem?_eq_some_iff.1 hs).1))
theorem okSts_mem {l : List St} (h : okSts l = true) {s : St} (hs : s ∈ l) : okSt s = true := by
  obtain ⟨k, hk⟩ := List.getElem?_of_mem hs
  exact (okSts_at h hk).1

/-- the cells of a list of stamps, one after the other -/
def flat (l : List St) : List Value := l.flatMap St.cells
theorem flat_nil : flat [] = [] := rfl
theorem flat_cons (s : St) (l : List St) : flat (s :: l) = s.cells ++ flat l := by simp [flat]
theorem flat_len (l : List St) : (flat l).length = l.length * 4 := by
  induction l with
  | nil => rfl
  | cons s l ih => rw [flat_cons, List.length_append, ih]; simp [St.cells]; omega
theorem flat_at : ∀ (l : List St) (k : Nat) (s : St), l[k]? = some s → ∀ j, j < 4 → (flat l)[k * 4 + j]? = s.cells[j]?
  | [], k, s, h, _, _ => by simp at h
  | r :: l, 0, s, h, j, hj => by
    obtain rfl : r = s := by simpa using h
    rw [flat_cons, List.getElem?_append_left (by simp [St.cells]; omega)]; simp
  | r :: l, k + 1, s, h, j, hj => by
    rw [flat_cons, List.getElem?_append_right (by simp [St.cells]; omega), show (k + 1) * 4 + j - r.cells.length = k * 4 + j by simp [St.cells]; omega]
    exact flat_at l k s (by simpa using h) j hj
end Go.Proofs.Ytfjcibkgbalkaaa.PlainStamp

/- Words for reckoning with plain functions; within and l1In. No condition. -/
namespace Go.Proofs.Ytfjcibkgbalkaaa.QBase
set_option linter.unusedVariables false
set_option linter.unusedSimpArgs false
open Go.RowKit
open Go.Proofs.Ytfjcibkgbalkaaa.GoP Go.Proofs.Ytfjcibkgbalkaaa.PlainStamp

theorem iteK_if {ρ : Type} (c : Bool) (a b : Option ρ) : iteK c a b = if c = true then a else b := by cases c <;> rfl
theorem bind2_some {α β ρ : Type} (a : α) (b : β) (f : α → β → Option ρ) : bind2 (some (a, b)) f = f a b := rfl
theorem bind3_some {α β γ ρ : Type} (a : α) (b : β) (c : γ) (f : α → β → γ → Option ρ) : bind3 (some (a, b, c)) f = f a b c := rfl
theorem unp2_mk {α β ρ : Type} (a : α) (b : β) (f : α → β → Option ρ) : unp2 (a, b) f = f a b := rfl
theorem unp3_mk {α β γ ρ : Type} (a : α) (b : β) (c : γ) (f : α → β → γ → Option ρ) : unp3 (a, b, c) f = f a b c := rfl
theorem guardK_pos {ρ : Type} {p : Prop} [Decidable p] {a : Option ρ} (h : p) : guardK p a = a := if_pos h
theorem cut2 {α β : Type} {x : Option (α × β)} {p : α × β} (h : x = some p) : x = some (p.1, p.2) := h
theorem cut3 {α β γ : Type} {x : Option (α × β × γ)} {p : α × β × γ} (h : x = some p) : x = some (p.1, p.2.1, p.2.2) := h
theorem within_eq (n a b : Int) : GiWithin.P n a b = some (inB n a b) := by
  simp only [GiWithin.P, letK, joinK, appK, iteK_if, inB]
  by_cases h1 : a ≤ n <;> by_cases h2 : n ≤ b <;> simp [h1, h2]
theorem l1In_eq (n a b : Int) : GsL1In.P n a b = some (inB n a b) := by
  simp only [GsL1In.P, letK, joinK, appK, iteK_if, inB]
  by_cases h1 : a ≤ n <;> by_cases h2 : n ≤ b <;> simp [h1, h2]
end Go.Proofs.Ytfjcibkgbalkaaa.QBase

/- Reckoning with the loops of plain functions; lists of valid records with rising ids. No condition. -/
namespace Go.Proofs.Ytfjcibkgbalkaaa.QLoop
set_option linter.unusedVariables false
open Go.RowKit
open Go.Proofs.Ytfjcibkgbalkaaa.GoP Go.Proofs.Ytfjcibkgbalkaaa.QBase

theorem cnt_ex {σ ρ : Type} {f : Nat → σ → (σ → Option ρ) → (σ → Option ρ) → Option ρ} {fin : σ → Option ρ} {Q : ρ → Prop} {n : Nat} (I : Nat → σ → Prop)
    (step : ∀ k s nx, k < n → I k s → (∀ s', I (k + 1) s' → ∃ r, nx s' = some r ∧ Q r) → ∃ r, f k s nx fin = some r ∧ Q r) (done : ∀ s, I n s → ∃ r, fin s = some r ∧ Q r) :
    ∀ m k s, k + m = n → I k s → ∃ r, cntK f m k s fin = some r ∧ Q r := by
  intro m
  induction m with
  | zero => intro k s hk hI; obtain rfl : k = n := by omega
            exact done s hI
  | succ m ih => intro k s hk hI; exact step k s _ (by omega) hI (fun s' h' => ih (k + 1) s' (by omega) h')
theorem cnt_is {σ ρ : Type} {f : Nat → σ → (σ → Option ρ) → (σ → Option ρ) → Option ρ} {fin : σ → Option ρ} {n : Nat} (r : ρ) (I : Nat → σ → Prop)
    (step : ∀ k s nx, k < n → I k s → (∀ s', I (k + 1) s' → nx s' = some r) → f k s nx fin = some r) (done : ∀ s, I n s → fin s = some r) (s : σ) (h0 : I 0 s) : cntK f n 0 s fin = some r := by
  obtain ⟨r', h, rfl⟩ := cnt_ex (Q := fun x => x = r) I (fun k s nx hk hI hn => ⟨r, step k s nx hk hI (fun s' h' => by obtain ⟨_, h, rfl⟩ := hn s' h'; exact h), rfl⟩) (fun s h => ⟨r, done s h, rfl⟩) n 0 s (by omega) h0
  exact h
theorem at_lt {α : Type} {l : List α} {k : Nat} (h : k < l.length) : ∃ x, l[k]? = some x ∧ idx l (k : Int) = some x := ⟨l[k], List.getElem?_eq_getElem h, by rw [idx_nat, List.getElem?_eq_getElem h]⟩
theorem idx_pred {α : Type} {l : List α} {k : Nat} {x : α} (hk : 0 < k) (hb : k ≤ 9223372036854775807) (h : l[k - 1]? = some x) : idx l (IntKind.i64.wrap ((k : Int) - 1)) = some x := by
  rw [IntWalk.i64_in _ (by omega), show ((k : Int) - 1) = ((k - 1 : Nat) : Int) by omega, idx_nat, h]
theorem take_next {α : Type} {l : List α} {k : Nat} {x : α} (h : l[k]? = some x) : l.take (k + 1) = l.take k ++ [x] := by
  obtain ⟨hk, e⟩ := List.getElem?_eq_some_iff.1 h
  rw [List.take_succ_eq_append_getElem hk, e]
theorem all_next {α : Type} {p : α → Bool} {l : List α} {k : Nat} {x : α} (h : l[k]? = some x) : (l.take (k + 1)).all p = ((l.take k).all p && p x) := by
  rw [take_next h]; simp
theorem not_all {α : Type} {p : α → Bool} {l : List α} {k : Nat} {x : α} (h : l[k]? = some x) (hp : p x = false) : l.all p = false := by
  rw [Bool.eq_false_iff]
  intro ha
  have := List.all_eq_true.1 ha x (List.mem_of_getElem? h)
  rw [hp] at this; exact absurd this (by simp)
theorem wrap_in {x : Int} (h1 : -9223372036854775808 ≤ x) (h2 : x ≤ 9223372036854775807) : IntKind.i64.wrap x = x := IntWalk.i64_in _ (by omega)

/-- valid, and above the one ahead of it -/
def upAt {α : Type} (ok : α → Bool) (id : α → Int) (l : List α) (k : Nat) : Bool :=
  match l[k]? with
  | none => true
  | some s => ok s && (decide (k = 0) || (match l[k-1]? with | none => true | some r => decide (id r < id s)))
def upTo {α : Type} (ok : α → Bool) (id : α → Int) (l : List α) (k : Nat) : Bool := (List.range k).all (upAt ok id l)
theorem upTo_zero {α : Type} (ok : α → Bool) (id : α → Int) (l : List α) : upTo ok id l 0 = true := rfl
theorem upTo_succ {α : Type} (ok : α → Bool) (id : α → Int) (l : List α) (k : Nat) : upTo ok id l (k + 1) = (upTo ok id l k && upAt ok id l k) := by simp [upTo, List.range_succ, List.all_append]
theorem upTo_not {α : Type} {ok : α → Bool} {id : α → Int} {l : List α} {k n : Nat} (h : upAt ok id l k = false) (hk : k < n) : upTo ok id l n = false := by
  unfold upTo
  rw [Bool.eq_false_iff]
  intro ha
  have := List.all_eq_true.1 ha k (List.mem_range.2 hk)
  rw [h] at this; exact absurd this (by simp)
/-- a list of at most m valid records with rising ids -/
def upL {α : Type} (m : Nat) (ok : α → Bool) (id : α → Int) (l : List α) : Bool := decide (l.length ≤ m) && upTo ok id l l.length
theorem upAt_bad {α : Type} {ok : α → Bool} {id : α → Int} {l : List α} {k : Nat} {s : α} (hs : l[k]? = some s) (h : ok s = false) : upAt ok id l k = false := by unfold upAt; rw [hs]; simp [h]
theorem upAt_first {α : Type} {ok : α → Bool} {id : α → Int} {l : List α} {s : α} (hs : l[0]? = some s) (h : ok s = true) : upAt ok id l 0 = true := by unfold upAt; rw [hs]; simp [h]
theorem upAt_next {α : Type} {ok : α → Bool} {id : α → Int} {l : List α} {k : Nat} {s r : α} (hs : l[k]? = some s) (hr : l[k-1]? = some r) (hk : 0 < k) (h : ok s = true) : upAt ok id l k = decide (id r < id s) := by
  unfold upAt; rw [hs]; simp only [hr, h, Bool.true_and, decide_eq_false (show ¬ k = 0 by omega), Bool.false_or]
theorem upL_len {α : Type} {m : Nat} {ok : α → Bool} {id : α → Int} {l : List α} (h : upL m ok id l = true) : l.length ≤ m := by unfold upL at h; simp only [Bool.and_eq_true, decide_eq_true_eq] at h; exact h.1
theorem upL_ok {α : Type} {m : Nat} {ok : α → Bool} {id : α → Int} {l : List α} (h : upL m ok id l = true) {k : Nat} {s : α} (hs : l[k]? = some s) : ok s = true := by
  unfold upL at h
  simp only [Bool.and_eq_true, decide_eq_true_eq] at h
  have := List.all_eq_true.1 h.2 k (List.mem_range.2 (List.getElem?_eq_some_iff.1 hs).1)
  unfold upAt at this
  rw [hs] at this
  simp only [Bool.and_eq_true] at this
  exact this.1
theorem upL_mem {α : Type} {m : Nat} {ok : α → Bool} {id : α → Int} {l : List α} (h : upL m ok id l = true) {s : α} (hs : s ∈ l) : ok s = true := by
  obtain ⟨k, hk⟩ := List.getElem?_of_mem hs
  exact upL_ok h hk
/-- a loop that goes through a list of records and stops with 'false' at the first that is bad -/
theorem up_loop {α : Type} {ok : α → Bool} {id : α → Int} {l : List α} {R : Type} {no : R} {f : Nat → Unit → (Unit → Option R) → (Unit → Option R) → Option R} {fin : Unit → Option R}
    (step : ∀ k nx s, l[k]? = some s → (ok s = false → f k () nx fin = some no) ∧ (ok s = true → (k = 0 → f k () nx fin = nx ()) ∧ (0 < k → ∀ r, l[k-1]? = some r → (id r < id s → f k () nx fin = nx ()) ∧ (id s ≤ id r → f k () nx fin = some no)))) :
    cntK f l.length 0 () fin = if upTo ok id l l.length then fin () else some no := by
  have key : ∀ m k, k + m = l.length → upTo ok id l k = true → cntK f m k () fin = if upTo ok id l l.length then fin () else some no := by
    intro m
    induction m with
    | zero => intro k hk hu; obtain rfl : k = l.length := by omega
              rw [hu]; rfl
    | succ m ih =>
      intro k hk hu
      have hlt : k < l.length := by omega
      obtain ⟨s, hs, _⟩ := at_lt hlt
      obtain ⟨h1, h2⟩ := step k (fun s' => cntK f m (k + 1) s' fin) s hs
      show f k () _ fin = _
      cases hok : ok s with
      | false => rw [h1 hok, upTo_not (upAt_bad hs hok) hlt]; rfl
      | true =>
        obtain ⟨h3, h4⟩ := h2 hok
        by_cases hk0 : k = 0
        · rw [h3 hk0]
          subst hk0
          exact ih 1 (by omega) (by rw [upTo_succ, hu, upAt_first hs hok]; rfl)
        · obtain ⟨r, hr, _⟩ := at_lt (l := l) (k := k - 1) (by omega)
          obtain ⟨h5, h6⟩ := h4 (by omega) r hr
          by_cases hlt2 : id r < id s
          · rw [h5 hlt2]
            exact ih (k + 1) (by omega) (by rw [upTo_succ, hu, upAt_next hs hr (by omega) hok]; simpa using hlt2)
          · rw [h6 (by omega), upTo_not (by rw [upAt_next hs hr (by omega) hok]; simpa using hlt2) hlt]; rfl
  exact key l.length 0 (by omega) (upTo_zero ok id l)
end Go.Proofs.Ytfjcibkgbalkaaa.QLoop

/- Chapter 9: mails and routes: the plain functions of the program and of the reference agree, and the laws answer true. (QFoldS) No condition but those of each theorem. -/
namespace Go.Proofs.Ytfjcibkgbalkaaa.QFoldS
set_option linter.unusedVariables false
set_option linter.unusedSimpArgs false
open Go.RowKit
open Go.Proofs.Ytfjcibkgbalkaaa.GoP Go.Proofs.Ytfjcibkgbalkaaa.PlainStamp Go.Proofs.Ytfjcibkgbalkaaa.QBase Go.Proofs.Ytfjcibkgbalkaaa.QLoop

/-- a counted loop that carries a state through a list -/
theorem fold_cnt {α σ ρ : Type} {l : List α} {g : σ → α → σ} {J : σ → Prop} {f : Nat → σ → (σ → Option ρ) → (σ → Option ρ) → Option ρ} {fin : σ → Option ρ}
    (step : ∀ k x s nx, l[k]? = some x → J s → f k s nx fin = nx (g s x) ∧ J (g s x)) {s : σ} (hs : J s) : cntK f l.length 0 s fin = fin (l.foldl g s) := by
  have key : ∀ m k s, k + m = l.length → J s → cntK f m k s fin = fin ((l.drop k).foldl g s) := by
    intro m
    induction m with
    | zero => intro k s hk _; rw [List.drop_eq_nil_of_le (by omega)]; rfl
    | succ m ih =>
      intro k s hk hJ
      have hlt : k < l.length := by omega
      have hx : l[k]? = some l[k] := List.getElem?_eq_getElem hlt
      obtain ⟨h1, h2⟩ := step k l[k] s (fun s' => cntK f m (k + 1) s' fin) hx hJ
      show f k s _ fin = _
      rw [h1, ih (k + 1) _ (by omega) h2, List.drop_eq_getElem_cons hlt, List.foldl_cons]
  exact key l.length 0 s (by omega) hs
theorem range_at {n k x : Nat} (h : (List.range n)[k]? = some x) : k < n ∧ k = x := by
  have h1 := (List.getElem?_eq_some_iff.1 h).1
  rw [List.length_range] at h1
  rw [List.getElem?_range h1] at h
  exact ⟨h1, by simpa using h⟩
end Go.Proofs.Ytfjcibkgbalkaaa.QFoldS

/- Chapter 9: mails and routes: the plain functions of the program and of the reference agree, and the laws answer true. (Q9Arr) No condition but those of each theorem. -/
namespace Go.Proofs.Ytfjcibkgbalkaaa.Q9Arr
set_option linter.unusedVariables false
set_option linter.unusedSimpArgs false
open Go.RowKit
open Go.Proofs.Ytfjcibkgbalkaaa.GoP Go.Proofs.Ytfjcibkgbalkaaa.PlainStamp Go.Proofs.Ytfjcibkgbalkaaa.QBase Go.Proofs.Ytfjcibkgbalkaaa.QLoop Go.Proofs.Ytfjcibkgbalkaaa.PIntA10 Go.Proofs.Ytfjcibkgbalkaaa.GoA

/-- the number of an office in a row of ten -/
def at_ (s : List Int) (i : Int) : Int := s.getD i.toNat 0
theorem idx_at {s : List Int} {i : Int} (hs : s.length = 10) (hi : 0 ≤ i ∧ i ≤ 9) : idx s i = some (at_ s i) := by
  unfold idx at_
  rw [if_pos hi.1, List.getD_eq_getElem?_getD, List.getElem?_eq_getElem (by omega)]; rfl
theorem at_set {s : List Int} {i j : Int} (hs : s.length = 10) (hi : 0 ≤ i ∧ i ≤ 9) (hj : 0 ≤ j ∧ j ≤ 9) (v : Int) : at_ (s.set i.toNat v) j = if j = i then v else at_ s j := by
  unfold at_
  rw [List.getD_eq_getElem?_getD, List.getD_eq_getElem?_getD]
  by_cases h : j = i
  · subst h; rw [if_pos rfl, List.getElem?_set_self (by omega)]; rfl
  · rw [if_neg h, List.getElem?_set_ne (by omega)]
theorem at_rep {v i : Int} (hi : 0 ≤ i ∧ i ≤ 9) : at_ (List.replicate 10 v) i = v := by
  unfold at_
  rw [List.getD_eq_getElem?_getD, List.getElem?_replicate, if_pos (by omega)]; rfl
def toA (s : List Int) : IntA10 := IntA10.mk (nth s 0) (nth s 1) (nth s 2) (nth s 3) (nth s 4) (nth s 5) (nth s 6) (nth s 7) (nth s 8) (nth s 9)
theorem ten {s : List Int} (hs : s.length = 10) : [(toA s).x0, (toA s).x1, (toA s).x2, (toA s).x3, (toA s).x4, (toA s).x5, (toA s).x6, (toA s).x7, (toA s).x8, (toA s).x9] = s := by
  match s, hs with
  | [a, b, c, d, e, f, g, h, i, j], _ => rfl
theorem filled_eq (v : Int) : GiFilledWith.P v = some (toA (List.replicate 10 v)) := rfl
theorem un_eq {ρ : Type} (s : IntA10) (f : Int → Int → Int → Int → Int → Int → Int → Int → Int → Int → Option ρ) : unIntA10 s f = f s.x0 s.x1 s.x2 s.x3 s.x4 s.x5 s.x6 s.x7 s.x8 s.x9 := rfl
end Go.Proofs.Ytfjcibkgbalkaaa.Q9Arr

/- Lists of valid records in strictly rising order of any kind; texts in the order of their bytes. (QOrd) No condition but those of each theorem. -/
namespace Go.Proofs.Ytfjcibkgbalkaaa.QOrd
set_option linter.unusedVariables false
set_option linter.unusedSimpArgs false
open Go.RowKit
open Go.Proofs.Ytfjcibkgbalkaaa.GoP Go.Proofs.Ytfjcibkgbalkaaa.PlainStamp Go.Proofs.Ytfjcibkgbalkaaa.QBase Go.Proofs.Ytfjcibkgbalkaaa.QLoop

/-- texts in the order of their bytes -/
def bl (a b : ByteArray) : Bool := Op.bytesLess a.toList b.toList
theorem bl_self' : ∀ x, Op.bytesLess x x = false
  | [] => rfl
  | a :: x => by
    have h1 : ¬ a < a := fun k => by rw [UInt8.lt_iff_toNat_lt] at k; omega
    simp [Op.bytesLess, h1, bl_self' x]
theorem bl_total' : ∀ x y, x ≠ y → Op.bytesLess x y = !(Op.bytesLess y x)
  | [], [], h => absurd rfl h
  | [], b :: y, _ => by simp [Op.bytesLess]
  | a :: x, [], _ => by simp [Op.bytesLess]
  | a :: x, b :: y, h => by
    by_cases hab : a = b
    · subst hab
      have h1 : ¬ a < a := fun k => by rw [UInt8.lt_iff_toNat_lt] at k; omega
      have := bl_total' x y (fun e => h (by rw [e]))
      simp [Op.bytesLess, h1, this]
    · have hne : a.toNat ≠ b.toNat := fun e => hab (UInt8.toNat_inj.1 e)
      by_cases hlt : a < b
      · have h2 : ¬ b < a := fun k => by rw [UInt8.lt_iff_toNat_lt] at k hlt; omega
        simp [Op.bytesLess, hlt, h2, Ne.symm hab]
      · have h2 : b < a := by rw [UInt8.lt_iff_toNat_lt] at hlt ⊢; omega
        simp [Op.bytesLess, hlt, h2, hab]
theorem bl_trans' : ∀ x y z, Op.bytesLess x y = true → Op.bytesLess y z = true → Op.bytesLess x z = true
  | [], _, [], h1, h2 => by rename_i y; cases y <;> simp [Op.bytesLess] at h1 h2
  | [], _, c :: z, _, _ => by simp [Op.bytesLess]
  | a :: x, [], _, h1, _ => by simp [Op.bytesLess] at h1
  | a :: x, b :: y, [], _, h2 => by simp [Op.bytesLess] at h2
  | a :: x, b :: y, c :: z, h1, h2 => by
    simp only [Op.bytesLess, Bool.or_eq_true, decide_eq_true_eq, Bool.and_eq_true, beq_iff_eq] at h1 h2 ⊢
    rcases h1 with h1 | ⟨rfl, h1⟩
    · rcases h2 with h2 | ⟨rfl, h2⟩
      · left; rw [UInt8.lt_iff_toNat_lt] at h1 h2 ⊢; omega
      · left; exact h1
    · rcases h2 with h2 | ⟨rfl, h2⟩
      · left; exact h2
      · right; exact ⟨rfl, bl_trans' x y z h1 h2⟩
theorem list_inj {a b : ByteArray} (h : a.toList = b.toList) : a = b := by
  rw [Lib.toList_data, Lib.toList_data] at h
  cases a; cases b; congr 1; exact Array.toList_inj.1 h
theorem bl_self (a : ByteArray) : bl a a = false := bl_self' _
theorem bl_total {a b : ByteArray} (h : a ≠ b) : bl a b = !(bl b a) := bl_total' _ _ (fun e => h (list_inj e))
theorem bl_trans {a b c : ByteArray} (h1 : bl a b = true) (h2 : bl b c = true) : bl a c = true := bl_trans' _ _ _ h1 h2
theorem bl_asymm {a b : ByteArray} (h : bl a b = true) : bl b a = false := by
  by_cases e : a = b
  · rw [e]; exact bl_self b
  · rw [bl_total e] at h; simpa using h
theorem bl_ne {a b : ByteArray} (h : bl a b = true) : a ≠ b := fun e => by rw [e, bl_self] at h; exact absurd h (by simp)
/-- 'not above', as the program asks it -/
theorem bl_le (a b : ByteArray) : (Op.bytesLess a.toList b.toList || a.toList == b.toList) = !(bl b a) := by
  by_cases e : a = b
  · subst e; rw [bl_self]; simp
  · have h1 : (a.toList == b.toList) = false := by rw [beq_eq_false_iff_ne]; exact fun h => e (list_inj h)
    rw [h1, Bool.or_false]; exact bl_total e
theorem bl_lt (a b : ByteArray) : Op.bytesLess a.toList b.toList = bl a b := rfl
theorem eq_list (a b : ByteArray) : (a.toList == b.toList) = decide (a = b) := by
  by_cases e : a = b
  · subst e; simp
  · rw [decide_eq_false e, beq_eq_false_iff_ne]; exact fun h => e (list_inj h)

/-- valid, and behind the one ahead of it -/
def riseAt {α : Type} (ok : α → Bool) (lt : α → α → Bool) (l : List α) (k : Nat) : Bool :=
  match l[k]? with
  | none => true
  | some s => ok s && (decide (k = 0) || (match l[k-1]? with | none => true | some r => lt r s))
def riseTo {α : Type} (ok : α → Bool) (lt : α → α → Bool) (l : List α) (k : Nat) : Bool := (List.range k).all (riseAt ok lt l)
theorem riseTo_zero {α : Type} (ok : α → Bool) (lt : α → α → Bool) (l : List α) : riseTo ok lt l 0 = true := rfl
theorem riseTo_succ {α : Type} (ok : α → Bool) (lt : α → α → Bool) (l : List α) (k : Nat) : riseTo ok lt l (k + 1) = (riseTo ok lt l k && riseAt ok lt l k) := by simp [riseTo, List.range_succ, List.all_append]
theorem riseTo_not {α : Type} {ok : α → Bool} {lt : α → α → Bool} {l : List α} {k n : Nat} (h : riseAt ok lt l k = false) (hk : k < n) : riseTo ok lt l n = false := by
  unfold riseTo
  rw [Bool.eq_false_iff]
  intro ha
  have := List.all_eq_true.1 ha k (List.mem_range.2 hk)
  rw [h] at this; exact absurd this (by simp)
def riseL {α : Type} (m : Nat) (ok : α → Bool) (lt : α → α → Bool) (l : List α) : Bool := decide (l.length ≤ m) && riseTo ok lt l l.length
theorem riseAt_bad {α : Type} {ok : α → Bool} {lt : α → α → Bool} {l : List α} {k : Nat} {s : α} (hs : l[k]? = some s) (h : ok s = false) : riseAt ok lt l k = false := by unfold riseAt; rw [hs]; simp [h]
theorem riseAt_first {α : Type} {ok : α → Bool} {lt : α → α → Bool} {l : List α} {s : α} (hs : l[0]? = some s) (h : ok s = true) : riseAt ok lt l 0 = true := by unfold riseAt; rw [hs]; simp [h]
theorem riseAt_next {α : Type} {ok : α → Bool} {lt : α → α → Bool} {l : List α} {k : Nat} {s r : α} (hs : l[k]? = some s) (hr : l[k-1]? = some r) (hk : 0 < k) (h : ok s = true) : riseAt ok lt l k = lt r s := by
  unfold riseAt; rw [hs]; simp only [hr, h, Bool.true_and, decide_eq_false (show ¬ k = 0 by omega), Bool.false_or]
theorem riseL_len {α : Type} {m : Nat} {ok : α → Bool} {lt : α → α → Bool} {l : List α} (h : riseL m ok lt l = true) : l.length ≤ m := by unfold riseL at h; simp only [Bool.and_eq_true, decide_eq_true_eq] at h; exact h.1
theorem riseTo_at {α : Type} {ok : α → Bool} {lt : α → α → Bool} {l : List α} {n : Nat} (h : riseTo ok lt l n = true) {k : Nat} (hk : k < n) : riseAt ok lt l k = true := List.all_eq_true.1 h k (List.mem_range.2 hk)
theorem riseL_ok {α : Type} {m : Nat} {ok : α → Bool} {lt : α → α → Bool} {l : List α} (h : riseL m ok lt l = true) {k : Nat} {s : α} (hs : l[k]? = some s) : ok s = true := by
  unfold riseL at h
  simp only [Bool.and_eq_true, decide_eq_true_eq] at h
  have := riseTo_at h.2 (List.getElem?_eq_some_iff.1 hs).1
  unfold riseAt at this
  rw [hs] at this
  simp only [Bool.and_eq_true] at this
  exact this.1
theorem riseL_mem {α : Type} {m : Nat} {ok : α → Bool} {lt : α → α → Bool} {l : List α} (h : riseL m ok lt l = true) {s : α} (hs : s ∈ l) : ok s = true := by
  obtain ⟨k, hk⟩ := List.getElem?_of_mem hs
  exact riseL_ok h hk
theorem riseL_step {α : Type} {m : Nat} {ok : α → Bool} {lt : α → α → Bool} {l : List α} (h : riseL m ok lt l = true) {k : Nat} {x y : α} (hx : l[k]? = some x) (hy : l[k + 1]? = some y) : lt x y = true := by
  unfold riseL at h
  simp only [Bool.and_eq_true, decide_eq_true_eq] at h
  have := riseTo_at h.2 (List.getElem?_eq_some_iff.1 hy).1
  unfold riseAt at this
  rw [hy] at this
  simp only [Nat.add_sub_cancel, hx, Bool.and_eq_true, Bool.or_eq_true, decide_eq_true_eq] at this
  rcases this.2 with h0 | h0
  · omega
  · exact h0
theorem riseL_lt {α : Type} {m : Nat} {ok : α → Bool} {lt : α → α → Bool} (tr : ∀ a b c, lt a b = true → lt b c = true → lt a c = true) {l : List α} (h : riseL m ok lt l = true) {i j : Nat} {x y : α} (hij : i < j) (hx : l[i]? = some x) (hy : l[j]? = some y) : lt x y = true := by
  obtain ⟨d, rfl⟩ : ∃ d, j = i + d + 1 := ⟨j - i - 1, by omega⟩
  clear hij
  induction d generalizing y with
  | zero => exact riseL_step h hx hy
  | succ d ih =>
    obtain ⟨z, hz, _⟩ := at_lt (l := l) (k := i + d + 1) (by have := (List.getElem?_eq_some_iff.1 hy).1; omega)
    exact tr _ _ _ (ih hz) (riseL_step (k := i + d + 1) h hz (by rw [← hy]; rfl))
/-- a loop that goes through a list of records and stops with 'no' at the first that is bad -/
theorem rise_loop {α : Type} {ok : α → Bool} {lt : α → α → Bool} {l : List α} {R : Type} {no : R} {f : Nat → Unit → (Unit → Option R) → (Unit → Option R) → Option R} {fin : Unit → Option R}
    (step : ∀ k nx s, l[k]? = some s → (ok s = false → f k () nx fin = some no) ∧ (ok s = true → (k = 0 → f k () nx fin = nx ()) ∧ (0 < k → ∀ r, l[k-1]? = some r → (lt r s = true → f k () nx fin = nx ()) ∧ (lt r s = false → f k () nx fin = some no)))) :
    cntK f l.length 0 () fin = if riseTo ok lt l l.length then fin () else some no := by
  have key : ∀ m k, k + m = l.length → riseTo ok lt l k = true → cntK f m k () fin = if riseTo ok lt l l.length then fin () else some no := by
    intro m
    induction m with
    | zero => intro k hk hu; obtain rfl : k = l.length := by omega
              rw [hu]; rfl
    | succ m ih =>
      intro k hk hu
      have hlt : k < l.length := by omega
      obtain ⟨s, hs, _⟩ := at_lt hlt
      obtain ⟨h1, h2⟩ := step k (fun s' => cntK f m (k + 1) s' fin) s hs
      show f k () _ fin = _
      cases hok : ok s with
      | false => rw [h1 hok, riseTo_not (riseAt_bad hs hok) hlt]; rfl
      | true =>
        obtain ⟨h3, h4⟩ := h2 hok
        by_cases hk0 : k = 0
        · rw [h3 hk0]
          subst hk0
          exact ih 1 (by omega) (by rw [riseTo_succ, hu, riseAt_first hs hok]; rfl)
        · obtain ⟨r, hr, _⟩ := at_lt (l := l) (k := k - 1) (by omega)
          obtain ⟨h5, h6⟩ := h4 (by omega) r hr
          cases hl : lt r s with
          | true =>
            rw [h5 hl]
            exact ih (k + 1) (by omega) (by rw [riseTo_succ, hu, riseAt_next hs hr (by omega) hok, hl]; rfl)
          | false => rw [h6 hl, riseTo_not (by rw [riseAt_next hs hr (by omega) hok, hl]) hlt]; rfl
  exact key l.length 0 (by omega) (riseTo_zero ok lt l)
end Go.Proofs.Ytfjcibkgbalkaaa.QOrd

/- Chapter 9: mails and routes: the plain functions of the program and of the reference agree, and the laws answer true. (QRiseV) No condition but those of each theorem. -/
namespace Go.Proofs.Ytfjcibkgbalkaaa.QRiseV
set_option linter.unusedVariables false
set_option linter.unusedSimpArgs false
open Go.RowKit
open Go.Proofs.Ytfjcibkgbalkaaa.GoP Go.Proofs.Ytfjcibkgbalkaaa.PlainStamp Go.Proofs.Ytfjcibkgbalkaaa.QBase Go.Proofs.Ytfjcibkgbalkaaa.QOrd Go.Proofs.Ytfjcibkgbalkaaa.QLoop

/-- as rise_loop, with what is known of the one ahead -/
theorem rise_loopV {α : Type} {ok : α → Bool} {lt : α → α → Bool} {l : List α} {R : Type} {no : R} {f : Nat → Unit → (Unit → Option R) → (Unit → Option R) → Option R} {fin : Unit → Option R}
    (step : ∀ k nx s, l[k]? = some s → (ok s = false → f k () nx fin = some no) ∧ (ok s = true → (k = 0 → f k () nx fin = nx ()) ∧ (0 < k → ∀ r, l[k-1]? = some r → ok r = true → (lt r s = true → f k () nx fin = nx ()) ∧ (lt r s = false → f k () nx fin = some no)))) :
    cntK f l.length 0 () fin = if riseTo ok lt l l.length then fin () else some no := by
  have key : ∀ m k, k + m = l.length → riseTo ok lt l k = true → cntK f m k () fin = if riseTo ok lt l l.length then fin () else some no := by
    intro m
    induction m with
    | zero => intro k hk hu; obtain rfl : k = l.length := by omega
              rw [hu]; rfl
    | succ m ih =>
      intro k hk hu
      have hlt : k < l.length := by omega
      obtain ⟨s, hs, _⟩ := at_lt hlt
      obtain ⟨h1, h2⟩ := step k (fun s' => cntK f m (k + 1) s' fin) s hs
      show f k () _ fin = _
      cases hok : ok s with
      | false => rw [h1 hok, riseTo_not (riseAt_bad hs hok) hlt]; rfl
      | true =>
        obtain ⟨h3, h4⟩ := h2 hok
        by_cases hk0 : k = 0
        · rw [h3 hk0]
          subst hk0
          exact ih 1 (by omega) (by rw [riseTo_succ, hu, riseAt_first hs hok]; rfl)
        · obtain ⟨r, hr, _⟩ := at_lt (l := l) (k := k - 1) (by omega)
          have hokr : ok r = true := by
            have := riseTo_at hu (k := k - 1) (by omega)
            unfold riseAt at this; rw [hr] at this
            simp only [Bool.and_eq_true] at this; exact this.1
          obtain ⟨h5, h6⟩ := h4 (by omega) r hr hokr
          cases hl : lt r s with
          | true =>
            rw [h5 hl]
            exact ih (k + 1) (by omega) (by rw [riseTo_succ, hu, riseAt_next hs hr (by omega) hok, hl]; rfl)
          | false => rw [h6 hl, riseTo_not (by rw [riseAt_next hs hr (by omega) hok, hl]) hlt]; rfl
  exact key l.length 0 (by omega) (riseTo_zero ok lt l)
end Go.Proofs.Ytfjcibkgbalkaaa.QRiseV

/- Chapter 8: rates: the plain functions of the program and of the reference agree, and the laws answer true. (QRiseL) No condition but those of each theorem. -/
namespace Go.Proofs.Ytfjcibkgbalkaaa.QRiseL
set_option linter.unusedVariables false
set_option linter.unusedSimpArgs false
open Go.RowKit
open Go.Proofs.Ytfjcibkgbalkaaa.GoP Go.Proofs.Ytfjcibkgbalkaaa.PlainStamp Go.Proofs.Ytfjcibkgbalkaaa.QBase Go.Proofs.Ytfjcibkgbalkaaa.QOrd Go.Proofs.Ytfjcibkgbalkaaa.QLoop

/-- the same, for a loop that counts by itself and stops behind m: the list may be longer than m -/
theorem rise_lp {α R : Type} {ok : α → Bool} {lt : α → α → Bool} {l : List α} {m : Nat} {no : R} {yes : Option R} {f : Int → (Int → Option R) → (Int → Option R) → Option R} {fin : Int → Option R}
    (stop : ∀ (k : Nat) nx, (l.length ≤ k ∨ m < k) → k ≤ l.length → k ≤ m + 1 → f (k : Int) nx fin = fin (k : Int))
    (end_ : ∀ k : Int, fin k = if l.length ≤ m then yes else some no)
    (step : ∀ (k : Nat) nx s, k ≤ m → l[k]? = some s → (ok s = false → f (k : Int) nx fin = some no) ∧ (ok s = true → (k = 0 → f (k : Int) nx fin = nx ((k + 1 : Nat) : Int)) ∧ (0 < k → ∀ r, l[k-1]? = some r → ok r = true → (lt r s = true → f (k : Int) nx fin = nx ((k + 1 : Nat) : Int)) ∧ (lt r s = false → f (k : Int) nx fin = some no)))) :
    ∀ fuel k, m + 1 - k < fuel → k ≤ l.length → k ≤ m + 1 → riseTo ok lt l k = true → loopK f fuel (k : Int) fin = if riseL m ok lt l = true then yes else some no := by
  intro fuel
  induction fuel with
  | zero => intro k h; omega
  | succ n ih =>
    intro k hf hk hm hu
    show f (k : Int) (fun s' => loopK f n s' fin) fin = _
    by_cases hs : l.length ≤ k ∨ m < k
    · rw [stop k _ hs hk hm, end_]
      by_cases hl : l.length ≤ m
      · obtain rfl : k = l.length := by omega
        rw [if_pos hl, if_pos (by unfold riseL; simp [hl, hu])]
      · rw [if_neg hl, if_neg (by unfold riseL; simp [hl])]
    · have hlt : k < l.length := by omega
      obtain ⟨s, hs', _⟩ := at_lt hlt
      obtain ⟨h1, h2⟩ := step k (fun s' => loopK f n s' fin) s (by omega) hs'
      have bad : riseAt ok lt l k = false → riseL m ok lt l = false := by
        intro h; unfold riseL; rw [riseTo_not h hlt, Bool.and_false]
      cases hok : ok s with
      | false => rw [h1 hok, bad (riseAt_bad hs' hok)]; rfl
      | true =>
        obtain ⟨h3, h4⟩ := h2 hok
        by_cases hk0 : k = 0
        · rw [h3 hk0]
          subst hk0
          exact ih 1 (by omega) (by omega) (by omega) (by rw [riseTo_succ, hu, riseAt_first hs' hok]; rfl)
        · obtain ⟨r, hr, _⟩ := at_lt (l := l) (k := k - 1) (by omega)
          have hokr : ok r = true := by
            have := riseTo_at hu (k := k - 1) (by omega)
            unfold riseAt at this; rw [hr] at this
            simp only [Bool.and_eq_true] at this; exact this.1
          obtain ⟨h5, h6⟩ := h4 (by omega) r hr hokr
          cases hl : lt r s with
          | true =>
            rw [h5 hl]
            exact ih (k + 1) (by omega) (by omega) (by omega) (by rw [riseTo_succ, hu, riseAt_next hs' hr (by omega) hok, hl]; rfl)
          | false => rw [h6 hl, bad (by rw [riseAt_next hs' hr (by omega) hok, hl])]; rfl
/-- what each step gives holds between any two -/
theorem riseL_rel {α : Type} {m : Nat} {ok : α → Bool} {lt : α → α → Bool} (rel : α → α → Prop) (st : ∀ a b, ok a = true → ok b = true → lt a b = true → rel a b) (tr : ∀ a b c, rel a b → rel b c → rel a c) {l : List α} (h : riseL m ok lt l = true) {i j : Nat} {x y : α} (hij : i < j) (hx : l[i]? = some x) (hy : l[j]? = some y) : rel x y := by
  obtain ⟨d, rfl⟩ : ∃ d, j = i + d + 1 := ⟨j - i - 1, by omega⟩
  clear hij
  induction d generalizing y with
  | zero => exact st _ _ (riseL_ok h hx) (riseL_ok h hy) (riseL_step h hx hy)
  | succ d ih =>
    obtain ⟨z, hz, _⟩ := at_lt (l := l) (k := i + d + 1) (by have := (List.getElem?_eq_some_iff.1 hy).1; omega)
    exact tr _ _ _ (ih hz) (st _ _ (riseL_ok h hz) (riseL_ok h hy) (riseL_step (k := i + d + 1) h hz (by rw [← hy]; rfl)))
end Go.Proofs.Ytfjcibkgbalkaaa.QRiseL

/- Chapter 9: mails and routes: the plain functions of the program and of the reference agree, and the laws answer true. (QCmp) No condition but those of each theorem. -/
namespace Go.Proofs.Ytfjcibkgbalkaaa.QCmp
set_option linter.unusedVariables false
set_option linter.unusedSimpArgs false
open Go.RowKit
open Go.Proofs.Ytfjcibkgbalkaaa.GoP Go.Proofs.Ytfjcibkgbalkaaa.PlainStamp Go.Proofs.Ytfjcibkgbalkaaa.QBase Go.Proofs.Ytfjcibkgbalkaaa.QLoop

def cmpI (x y : Int) : Int := if x < y then -1 else if y < x then 1 else 0
theorem cmp_eq (x y : Int) : GxCmpCompareInt.P x y = some (cmpI x y) := by
  simp only [GxCmpCompareInt.P, GxCmpIsNaNInt.P, Option.bind_some, letK, iteK_if, cmpI]
  by_cases h1 : x < y
  · simp [h1]
  · by_cases h2 : y < x <;> simp [h1, h2]
theorem or_eq (a b c d : Int) : GxCmpOrInt.P [a, b, c, d] = some (if a != 0 then a else if b != 0 then b else if c != 0 then c else d) := by
  have st : ∀ m k fin, cntK (GxCmpOrInt.l0 [a, b, c, d]) (m + 1) k () fin = GxCmpOrInt.l0 [a, b, c, d] k () (fun s' => cntK (GxCmpOrInt.l0 [a, b, c, d]) m (k + 1) s' fin) fin := fun _ _ _ => rfl
  show cntK (GxCmpOrInt.l0 [a, b, c, d]) (3 + 1) 0 () (GxCmpOrInt.e0) = _
  rw [st]
  simp only [GxCmpOrInt.l0, show idx [a, b, c, d] ((0 : Nat) : Int) = some a from rfl, Option.bind_some, letK, appK, iteK_if]
  by_cases ha : (a != 0) = true
  · rw [if_pos ha, if_pos ha]
  · rw [if_neg ha, if_neg ha]
    show cntK (GxCmpOrInt.l0 [a, b, c, d]) (2 + 1) 1 () (GxCmpOrInt.e0) = _
    rw [st]
    simp only [GxCmpOrInt.l0, show idx [a, b, c, d] ((1 : Nat) : Int) = some b from rfl, Option.bind_some, letK, appK, iteK_if]
    by_cases hb : (b != 0) = true
    · rw [if_pos hb, if_pos hb]
    · rw [if_neg hb, if_neg hb]
      show cntK (GxCmpOrInt.l0 [a, b, c, d]) (1 + 1) 2 () (GxCmpOrInt.e0) = _
      rw [st]
      simp only [GxCmpOrInt.l0, show idx [a, b, c, d] ((2 : Nat) : Int) = some c from rfl, Option.bind_some, letK, appK, iteK_if]
      by_cases hc : (c != 0) = true
      · rw [if_pos hc, if_pos hc]
      · rw [if_neg hc, if_neg hc]
        show cntK (GxCmpOrInt.l0 [a, b, c, d]) (0 + 1) 3 () (GxCmpOrInt.e0) = _
        rw [st]
        simp only [GxCmpOrInt.l0, show idx [a, b, c, d] ((3 : Nat) : Int) = some d from rfl, Option.bind_some, letK, appK, iteK_if]
        by_cases hd : (d != 0) = true
        · rw [if_pos hd]
        · rw [if_neg hd]
          have : d = 0 := by simpa using hd
          rw [this]; rfl
end Go.Proofs.Ytfjcibkgbalkaaa.QCmp

/- Chapter 9: mails and routes: the plain functions of the program and of the reference agree, and the laws answer true. (Q9Mail) No condition but those of each theorem. -/
namespace Go.Proofs.Ytfjcibkgbalkaaa.Q9Mail
set_option linter.unusedVariables false
set_option linter.unusedSimpArgs false
open Go.RowKit
open Go.Proofs.Ytfjcibkgbalkaaa.GoP Go.Proofs.Ytfjcibkgbalkaaa.PlainStamp Go.Proofs.Ytfjcibkgbalkaaa.QBase Go.Proofs.Ytfjcibkgbalkaaa.QCmp Go.Proofs.Ytfjcibkgbalkaaa.QLoop Go.Proofs.Ytfjcibkgbalkaaa.PMail

theorem isMinute_eq (n : Int) : GiIsMinute.P n = some (inB n 0 9999) := by simp only [GiIsMinute.P, within_eq, Option.bind_some]
theorem isOffice_eq (n : Int) : GiIsPostOffice.P n = some (inB n 0 9) := by simp only [GiIsPostOffice.P, within_eq, Option.bind_some]
theorem l9Office_eq (n : Int) : GsL9Office.P n = some (inB n 0 9) := by simp only [GsL9Office.P, l1In_eq, Option.bind_some]
theorem l9Minute_eq (n : Int) : GsL9Minute.P n = some (inB n 0 9999) := by simp only [GsL9Minute.P, l1In_eq, Option.bind_some]
def okM (x : Mail) : Bool := inB x.from_ 0 9 && inB x.to_ 0 9 && (x.from_ != x.to_) && inB x.leave 0 9999 && inB x.arrive 0 9999 && decide (x.leave < x.arrive)
theorem isMail_eq (x : Mail) : GiIsMail.P x = some (okM x) := by
  obtain ⟨a, b, c, d⟩ := x
  simp only [GiIsMail.P, unMail, isMinute_eq, isOffice_eq, Option.bind_some, letK, joinK, appK, iteK_if, okM]
  cases inB b 0 9 <;> cases inB c 0 9 <;> cases (b != c) <;> cases inB a 0 9999 <;> cases inB d 0 9999 <;> simp
theorem l9One_eq (x : Mail) : GsL9One.P x = some (okM x) := by
  obtain ⟨a, b, c, d⟩ := x
  have hx : (inB d 0 9999 && inB a 0 (d - 1)) = (inB a 0 9999 && inB d 0 9999 && decide (a < d)) := by unfold inB; rw [Bool.eq_iff_iff]; simp; omega
  have hy : okM ⟨a, b, c, d⟩ = (inB b 0 9 && inB c 0 9 && (b != c) && (inB d 0 9999 && inB a 0 (d - 1))) := by
    rw [hx]; unfold okM
    cases inB b 0 9 <;> cases inB c 0 9 <;> cases (b != c) <;> simp
  rw [hy]
  simp only [GsL9One.P, unMail, l9Office_eq, l9Minute_eq, l1In_eq, Option.bind_some, letK, joinK, appK, iteK_if]
  cases hd : inB d 0 9999 with
  | false => cases inB b 0 9 <;> cases inB c 0 9 <;> cases (b != c) <;> simp
  | true =>
    have h := inB_of hd
    rw [wrap_in (by omega) (by omega)]
    cases inB b 0 9 <;> cases inB c 0 9 <;> cases (b != c) <;> simp
theorem okM_of {x : Mail} (h : okM x = true) : (0 ≤ x.from_ ∧ x.from_ ≤ 9) ∧ (0 ≤ x.to_ ∧ x.to_ ≤ 9) ∧ x.from_ ≠ x.to_ ∧ (0 ≤ x.leave ∧ x.leave < x.arrive ∧ x.arrive ≤ 9999) := by
  unfold okM at h
  simp only [Bool.and_eq_true, decide_eq_true_eq, bne_iff_ne] at h
  have h1 := inB_of h.1.1.1.1.1
  have h2 := inB_of h.1.1.1.1.2
  have h3 := inB_of h.1.1.2
  have h4 := inB_of h.1.2
  exact ⟨h1, h2, h.1.1.1.2, h3.1, h.2, h4.2⟩
def codeM (x : Mail) : Int := ((x.leave * 10 + x.from_) * 10 + x.to_) * 10000 + x.arrive
def ltM (a b : Mail) : Bool := decide (codeM a < codeM b)
theorem code_eq {x : Mail} (h : okM x = true) : GsL9Code.P x = some (codeM x) := by
  obtain ⟨h1, h2, _, h3⟩ := okM_of h
  obtain ⟨a, b, c, d⟩ := x
  dsimp only at h1 h2 h3
  simp only [GsL9Code.P, unMail, letK, codeM]
  rw [wrap_in (x := a * 10) (by omega) (by omega), wrap_in (x := a * 10 + b) (by omega) (by omega), wrap_in (x := (a * 10 + b) * 10) (by omega) (by omega), wrap_in (x := (a * 10 + b) * 10 + c) (by omega) (by omega), wrap_in (x := ((a * 10 + b) * 10 + c) * 10000) (by omega) (by omega), wrap_in (by omega) (by omega)]
theorem compare_eq {a b : Mail} (ha : okM a = true) (hb : okM b = true) : ∃ c, GiCompareMails.P a b = some c ∧ (0 ≤ c ↔ codeM b ≤ codeM a) := by
  have h1 := okM_of ha
  have h2 := okM_of hb
  obtain ⟨a, x, c, y⟩ := a
  obtain ⟨a', x', c', y'⟩ := b
  dsimp only at h1 h2
  simp only [GiCompareMails.P, unMail, cmp_eq, Option.bind_some, letK, or_eq]
  refine ⟨_, rfl, ?_⟩
  unfold cmpI codeM
  dsimp only
  by_cases p1 : a < a'
  · simp [p1]; omega
  · by_cases p2 : a' < a
    · simp [p1, p2]; omega
    · obtain rfl : a = a' := by omega
      by_cases p3 : x < x'
      · simp [p3]; omega
      · by_cases p4 : x' < x
        · simp [p3, p4]; omega
        · obtain rfl : x = x' := by omega
          by_cases p5 : c < c'
          · simp [p5]; omega
          · by_cases p6 : c' < c
            · simp [p5, p6]; omega
            · obtain rfl : c = c' := by omega
              by_cases p7 : y < y'
              · simp [p7]
              · by_cases p8 : y' < y
                · simp [p7, p8]; omega
                · simp [p7, p8]; omega
end Go.Proofs.Ytfjcibkgbalkaaa.Q9Mail

/- Chapter 9: mails and routes: the plain functions of the program and of the reference agree, and the laws answer true. (Q9List) No condition but those of each theorem. -/
namespace Go.Proofs.Ytfjcibkgbalkaaa.Q9List
set_option linter.unusedVariables false
set_option linter.unusedSimpArgs false
open Go.RowKit
open Go.Proofs.Ytfjcibkgbalkaaa.GoP Go.Proofs.Ytfjcibkgbalkaaa.PlainStamp Go.Proofs.Ytfjcibkgbalkaaa.QBase Go.Proofs.Ytfjcibkgbalkaaa.QRiseV Go.Proofs.Ytfjcibkgbalkaaa.QRiseL Go.Proofs.Ytfjcibkgbalkaaa.QOrd Go.Proofs.Ytfjcibkgbalkaaa.Q9Mail Go.Proofs.Ytfjcibkgbalkaaa.QLoop Go.Proofs.Ytfjcibkgbalkaaa.PMail

def goodM (l : List Mail) : Bool := riseL 20 okM ltM l
theorem isTime_eq (l : List Mail) (hl : l.length ≤ 9223372036854775807) : GiIsTimetable.P l = some (goodM l) := by
  simp only [GiIsTimetable.P, letK, iteK_if]
  by_cases h12 : l.length ≤ 20
  · rw [if_neg (by simp; omega), rise_loopV (ok := okM) (lt := ltM) (no := false)]
    · unfold goodM riseL; cases riseTo okM ltM l l.length <;> simp [h12, GiIsTimetable.e0]
    · intro k nx s hs
      have hi : idx l (k : Int) = some s := by rw [idx_nat, hs]
      have hk : k < l.length := (List.getElem?_eq_some_iff.1 hs).1
      simp only [GiIsTimetable.l0, hi, Option.bind_some, unMail, isMail_eq, letK, joinK, appK, iteK_if]
      refine ⟨fun h => by simp [h], fun h => ⟨fun h0 => by subst h0; simp [h], fun h0 r hr hokr => ?_⟩⟩
      rw [idx_pred h0 (by omega) hr]
      have hk0 : (0 : Int) < (k : Int) := by omega
      have hk1 : ¬ k = 0 := by omega
      obtain ⟨c, hc, hcc⟩ := compare_eq hokr h
      have he : ∀ x : Mail, Mail.mk x.leave x.from_ x.to_ x.arrive = x := fun x => rfl
      simp only [Option.bind_some, he, hc, h, ltM]
      exact ⟨fun hlt => by
        have : ¬ 0 ≤ c := by rw [hcc]; have := of_decide_eq_true hlt; omega
        simp [hk0, hk1, this], fun hge => by
        have : 0 ≤ c := by rw [hcc]; have := of_decide_eq_false hge; omega
        simp [hk0, hk1, this]⟩
  · rw [if_pos (by simp; omega)]; unfold goodM riseL; simp [h12]
theorem l9Good_eq (l : List Mail) (hl : l.length ≤ 9223372036854775807) : GsL9Good.P l = some (goodM l) := by
  simp only [GsL9Good.P]
  rw [rise_loopV (ok := okM) (lt := ltM) (no := false)]
  · unfold goodM riseL; simp only [GsL9Good.e0, letK]
    by_cases h12 : l.length ≤ 20
    · have : (l.length : Int) ≤ 20 := by omega
      cases riseTo okM ltM l l.length <;> simp [h12, this]
    · have : ¬ (l.length : Int) ≤ 20 := by omega
      cases riseTo okM ltM l l.length <;> simp [h12, this]
  · intro k nx s hs
    have hi : idx l (k : Int) = some s := by rw [idx_nat, hs]
    have hk : k < l.length := (List.getElem?_eq_some_iff.1 hs).1
    simp only [GsL9Good.l0, hi, Option.bind_some, unMail, l9One_eq, letK, joinK, appK, iteK_if]
    refine ⟨fun h => by simp [h], fun h => ⟨fun h0 => by subst h0; simp [h], fun h0 r hr hokr => ?_⟩⟩
    rw [idx_pred h0 (by omega) hr]
    have hk0 : (0 : Int) < (k : Int) := by omega
    have hk1 : ¬ k = 0 := by omega
    have he : ∀ x : Mail, Mail.mk x.leave x.from_ x.to_ x.arrive = x := fun x => rfl
    simp only [Option.bind_some, he, code_eq hokr, code_eq h, h, ltM]
    exact ⟨fun hlt => by
      have : ¬ codeM s ≤ codeM r := by have := of_decide_eq_true hlt; omega
      simp [hk0, hk1, this], fun hge => by
      have : codeM s ≤ codeM r := by have := of_decide_eq_false hge; omega
      simp [hk0, hk1, this]⟩
def askM (l : List Mail) (o m : Int) : Bool := goodM l && inB o 0 9 && inB m 0 9999
theorem canBegin_eq (l : List Mail) (hl : l.length ≤ 9223372036854775807) (o m : Int) : GiCanBegin.P l o m = some (askM l o m) := by
  simp only [GiCanBegin.P, isTime_eq l hl, isOffice_eq, isMinute_eq, Option.bind_some, joinK, appK, iteK_if, askM]
  cases goodM l <;> cases inB o 0 9 <;> simp
theorem l9Asked_eq (l : List Mail) (hl : l.length ≤ 9223372036854775807) (o m : Int) : GsL9Asked.P l o m = some (askM l o m) := by
  simp only [GsL9Asked.P, l9Good_eq l hl, l9Office_eq, l9Minute_eq, Option.bind_some, joinK, appK, iteK_if, askM]
  cases goodM l <;> cases inB o 0 9 <;> simp
theorem m_ok {l : List Mail} (h : goodM l = true) {k : Nat} {x : Mail} (hx : l[k]? = some x) : okM x = true := riseL_ok h hx
theorem m_mem {l : List Mail} (h : goodM l = true) {x : Mail} (hx : x ∈ l) : okM x = true := riseL_mem h hx
theorem m_len {l : List Mail} (h : goodM l = true) : l.length ≤ 20 := riseL_len h
theorem m_leave {l : List Mail} (h : goodM l = true) {i j : Nat} {x y : Mail} (hij : i < j) (hx : l[i]? = some x) (hy : l[j]? = some y) : x.leave ≤ y.leave := by
  have := riseL_rel (fun a b => a.leave ≤ b.leave) (fun a b ha hb hlt => by
    have h1 := okM_of ha
    have h2 := okM_of hb
    have h3 := of_decide_eq_true hlt
    unfold codeM at h3
    omega) (fun a b c h1 h2 => Int.le_trans h1 h2) h hij hx hy
  exact this
theorem ask_of {l : List Mail} {o m : Int} (h : askM l o m = true) : goodM l = true ∧ (0 ≤ o ∧ o ≤ 9) ∧ (0 ≤ m ∧ m ≤ 9999) := by
  unfold askM at h
  simp only [Bool.and_eq_true] at h
  exact ⟨h.1.1, inB_of h.1.2, inB_of h.2⟩
end Go.Proofs.Ytfjcibkgbalkaaa.Q9List

/- Chapter 9: mails and routes: the plain functions of the program and of the reference agree, and the laws answer true. (Q9Dual) No condition but those of each theorem. -/
namespace Go.Proofs.Ytfjcibkgbalkaaa.Q9Dual
set_option linter.unusedVariables false
set_option linter.unusedSimpArgs false
open Go.RowKit
open Go.Proofs.Ytfjcibkgbalkaaa.GoP Go.Proofs.Ytfjcibkgbalkaaa.PlainStamp Go.Proofs.Ytfjcibkgbalkaaa.QBase Go.Proofs.Ytfjcibkgbalkaaa.Q9Arr Go.Proofs.Ytfjcibkgbalkaaa.Q9List Go.Proofs.Ytfjcibkgbalkaaa.Q9Mail Go.Proofs.Ytfjcibkgbalkaaa.QLoop Go.Proofs.Ytfjcibkgbalkaaa.PMail Go.Proofs.Ytfjcibkgbalkaaa.PIntA10

/-- a mail that can be reached takes its minute on -/
def stepE (s : List Int) (x : Mail) : List Int := if at_ s x.from_ ≤ x.leave then s.set x.to_.toNat (min (at_ s x.to_) x.arrive) else s
def startE (o m : Int) : List Int := (List.replicate 10 10000).set o.toNat m
def earlyM (l : List Mail) (o m : Int) : List Int := l.foldl stepE (startE o m)
/-- a mail from whose end one still comes in time tells the minute at which it leaves -/
def stepL (x : Mail) (t : List Int) : List Int := if x.arrive ≤ at_ t x.to_ then t.set x.from_.toNat (max (at_ t x.from_) x.leave) else t
def startL (o m : Int) : List Int := (List.replicate 10 (-1)).set o.toNat m
def lateM (l : List Mail) (o m : Int) : List Int := l.foldr stepL (startL o m)
theorem stepE_len {s : List Int} {x : Mail} : (stepE s x).length = s.length := by unfold stepE; split <;> simp
theorem stepL_len {s : List Int} {x : Mail} : (stepL x s).length = s.length := by unfold stepL; split <;> simp
theorem foldE_len (l : List Mail) : ∀ {s : List Int}, (l.foldl stepE s).length = s.length := by
  induction l with
  | nil => intro s; rfl
  | cons x l ih => intro s; rw [List.foldl_cons, ih, stepE_len]
theorem foldL_len (l : List Mail) {t : List Int} : (l.foldr stepL t).length = t.length := by
  induction l with
  | nil => rfl
  | cons x l ih => rw [List.foldr_cons, stepL_len, ih]
theorem startE_len (o m : Int) : (startE o m).length = 10 := by simp [startE]
theorem startL_len (o m : Int) : (startL o m).length = 10 := by simp [startL]
theorem early_len (l : List Mail) (o m : Int) : (earlyM l o m).length = 10 := by unfold earlyM; rw [foldE_len, startE_len]
theorem late_len (l : List Mail) (o m : Int) : (lateM l o m).length = 10 := by unfold lateM; rw [foldL_len, startL_len]
theorem startE_at {o m i : Int} (ho : 0 ≤ o ∧ o ≤ 9) (hi : 0 ≤ i ∧ i ≤ 9) : at_ (startE o m) i = if i = o then m else 10000 := by
  unfold startE; rw [at_set (by simp) ho hi, at_rep hi]
theorem startL_at {o m i : Int} (ho : 0 ≤ o ∧ o ≤ 9) (hi : 0 ≤ i ∧ i ≤ 9) : at_ (startL o m) i = if i = o then m else -1 := by
  unfold startL; rw [at_set (by simp) ho hi, at_rep hi]
theorem stepE_at {s : List Int} {x : Mail} {i : Int} (hs : s.length = 10) (hx : okM x = true) (hi : 0 ≤ i ∧ i ≤ 9) : at_ (stepE s x) i = if at_ s x.from_ ≤ x.leave ∧ i = x.to_ then min (at_ s i) x.arrive else at_ s i := by
  unfold stepE
  by_cases h : at_ s x.from_ ≤ x.leave
  · rw [if_pos h, at_set hs (okM_of hx).2.1 hi]
    by_cases e : i = x.to_
    · rw [if_pos e, if_pos ⟨h, e⟩, e]
    · rw [if_neg e, if_neg (fun q => e q.2)]
  · rw [if_neg h, if_neg (fun q => h q.1)]
theorem stepL_at {t : List Int} {x : Mail} {i : Int} (hs : t.length = 10) (hx : okM x = true) (hi : 0 ≤ i ∧ i ≤ 9) : at_ (stepL x t) i = if x.arrive ≤ at_ t x.to_ ∧ i = x.from_ then max (at_ t i) x.leave else at_ t i := by
  unfold stepL
  by_cases h : x.arrive ≤ at_ t x.to_
  · rw [if_pos h, at_set hs (okM_of hx).1 hi]
    by_cases e : i = x.from_
    · rw [if_pos e, if_pos ⟨h, e⟩, e]
    · rw [if_neg e, if_neg (fun q => e q.2)]
  · rw [if_neg h, if_neg (fun q => h q.1)]
/-- at some office one is not later than one may be -/
def meets (s t : List Int) : Prop := ∃ i, (0 ≤ i ∧ i ≤ 9) ∧ at_ s i ≤ at_ t i
theorem meets_step {s t : List Int} {x : Mail} (hs : s.length = 10) (ht : t.length = 10) (hx : okM x = true) : meets (stepE s x) t ↔ meets s (stepL x t) := by
  have hm := okM_of hx
  constructor
  · rintro ⟨i, hi, h⟩
    rw [stepE_at hs hx hi] at h
    split at h
    · rename_i hc
      by_cases h1 : at_ s i ≤ at_ t i
      · refine ⟨i, hi, ?_⟩; rw [stepL_at ht hx hi]; split <;> omega
      · refine ⟨x.from_, hm.1, ?_⟩
        rw [stepL_at ht hx hm.1, if_pos ⟨by rw [← hc.2]; omega, rfl⟩]
        have := hc.1; omega
    · refine ⟨i, hi, ?_⟩; rw [stepL_at ht hx hi]; split <;> omega
  · rintro ⟨i, hi, h⟩
    rw [stepL_at ht hx hi] at h
    split at h
    · rename_i hc
      by_cases h1 : at_ s i ≤ at_ t i
      · refine ⟨i, hi, ?_⟩; rw [stepE_at hs hx hi]; split <;> omega
      · refine ⟨x.to_, hm.2.1, ?_⟩
        rw [stepE_at hs hx hm.2.1, if_pos ⟨by rw [← hc.2]; omega, rfl⟩]
        have := hc.1; omega
    · refine ⟨i, hi, ?_⟩; rw [stepE_at hs hx hi]; split <;> omega
theorem meets_all (l : List Mail) (hl : ∀ x ∈ l, okM x = true) : ∀ {s t : List Int}, s.length = 10 → t.length = 10 → (meets (l.foldl stepE s) t ↔ meets s (l.foldr stepL t)) := by
  induction l with
  | nil => intro s t _ _; exact Iff.rfl
  | cons x l ih =>
    intro s t hs ht
    rw [List.foldl_cons, List.foldr_cons, ih (fun y hy => hl y (List.mem_cons_of_mem _ hy)) (by rw [stepE_len, hs]) ht]
    exact meets_step hs (by rw [foldL_len, ht]) (hl x (List.mem_cons_self ..))
/-- no minute falls below the first, and none rises -/
theorem foldE_low (l : List Mail) (hl : ∀ x ∈ l, okM x = true) {m : Int} : ∀ {s : List Int}, s.length = 10 → (∀ i, 0 ≤ i ∧ i ≤ 9 → m ≤ at_ s i) → ∀ i, 0 ≤ i ∧ i ≤ 9 → m ≤ at_ (l.foldl stepE s) i := by
  induction l with
  | nil => intro s _ h; exact h
  | cons x l ih =>
    intro s hs h
    rw [List.foldl_cons]
    refine ih (fun y hy => hl y (List.mem_cons_of_mem _ hy)) (by rw [stepE_len, hs]) (fun i hi => ?_)
    have hx := hl x (List.mem_cons_self ..)
    have hm := okM_of hx
    rw [stepE_at hs hx hi]
    have h1 := h i hi
    have h2 := h x.from_ hm.1
    split <;> omega
theorem foldE_up (l : List Mail) (hl : ∀ x ∈ l, okM x = true) {i : Int} (hi : 0 ≤ i ∧ i ≤ 9) : ∀ {s : List Int}, s.length = 10 → at_ (l.foldl stepE s) i ≤ at_ s i := by
  induction l with
  | nil => intro s _; exact Int.le_refl _
  | cons x l ih =>
    intro s hs
    rw [List.foldl_cons]
    refine Int.le_trans (ih (fun y hy => hl y (List.mem_cons_of_mem _ hy)) (by rw [stepE_len, hs])) ?_
    rw [stepE_at hs (hl x (List.mem_cons_self ..)) hi]
    split <;> omega
theorem foldL_up (l : List Mail) (hl : ∀ x ∈ l, okM x = true) {i : Int} (hi : 0 ≤ i ∧ i ≤ 9) {t : List Int} (ht : t.length = 10) : at_ t i ≤ at_ (l.foldr stepL t) i := by
  induction l with
  | nil => exact Int.le_refl _
  | cons x l ih =>
    rw [List.foldr_cons, stepL_at (by rw [foldL_len, ht]) (hl x (List.mem_cons_self ..)) hi]
    have := ih (fun y hy => hl y (List.mem_cons_of_mem _ hy))
    split <;> omega
theorem foldL_top (l : List Mail) (hl : ∀ x ∈ l, okM x = true) {B : Int} (hB : ∀ x ∈ l, x.leave ≤ B) {i : Int} (hi : 0 ≤ i ∧ i ≤ 9) {t : List Int} (ht : t.length = 10) : at_ (l.foldr stepL t) i ≤ max (at_ t i) B := by
  induction l with
  | nil => simp only [List.foldr_nil]; omega
  | cons x l ih =>
    rw [List.foldr_cons, stepL_at (by rw [foldL_len, ht]) (hl x (List.mem_cons_self ..)) hi]
    have h1 := ih (fun y hy => hl y (List.mem_cons_of_mem _ hy)) (fun y hy => hB y (List.mem_cons_of_mem _ hy))
    have h2 := hB x (List.mem_cons_self ..)
    split <;> omega
theorem early_low {l : List Mail} (hg : goodM l = true) {o m i : Int} (ho : 0 ≤ o ∧ o ≤ 9) (hm : m ≤ 9999) (hi : 0 ≤ i ∧ i ≤ 9) : m ≤ at_ (earlyM l o m) i :=
  foldE_low l (fun x hx => m_mem hg hx) (startE_len o m) (fun j hj => by rw [startE_at ho hj]; split <;> omega) i hi
theorem early_up {l : List Mail} (hg : goodM l = true) {o m i : Int} (ho : 0 ≤ o ∧ o ≤ 9) (hi : 0 ≤ i ∧ i ≤ 9) : at_ (earlyM l o m) i ≤ if i = o then m else 10000 := by
  have := foldE_up l (fun x hx => m_mem hg hx) hi (startE_len o m)
  rw [startE_at ho hi] at this; exact this
theorem early_top {l : List Mail} (hg : goodM l = true) {o m i : Int} (ho : 0 ≤ o ∧ o ≤ 9) (hm : m ≤ 9999) (hi : 0 ≤ i ∧ i ≤ 9) : at_ (earlyM l o m) i ≤ 10000 := by
  have := early_up hg (m := m) ho hi
  split at this <;> omega
theorem late_top {l : List Mail} (hg : goodM l = true) {o m i : Int} (ho : 0 ≤ o ∧ o ≤ 9) (hm : m ≤ 9999) (hi : 0 ≤ i ∧ i ≤ 9) : at_ (lateM l o m) i ≤ 9999 := by
  have := foldL_top l (fun x hx => m_mem hg hx) (B := 9999) (fun x hx => by have := okM_of (m_mem hg hx); omega) hi (startL_len o m)
  rw [startL_at ho hi] at this
  unfold lateM; split at this <;> omega
/-- one comes in time exactly if one is not later than the latest minute -/
theorem dual {l : List Mail} (hg : goodM l = true) {o m p b : Int} (ho : 0 ≤ o ∧ o ≤ 9) (hp : 0 ≤ p ∧ p ≤ 9) (hm : 0 ≤ m ∧ m ≤ 9999) (hb : b ≤ 9999) : at_ (earlyM l o m) p ≤ b ↔ m ≤ at_ (lateM l p b) o := by
  have h := meets_all l (fun x hx => m_mem hg hx) (startE_len o m) (startL_len p b)
  constructor
  · intro h1
    obtain ⟨i, hi, h2⟩ := h.1 ⟨p, hp, by rw [startL_at hp hp, if_pos rfl]; exact h1⟩
    rw [startE_at ho hi] at h2
    split at h2
    · rename_i e; rw [e] at h2; exact h2
    · have := late_top hg hp hb hi
      unfold lateM at this; omega
  · intro h1
    obtain ⟨i, hi, h2⟩ := h.2 ⟨o, ho, by rw [startE_at ho ho, if_pos rfl]; exact h1⟩
    rw [startL_at hp hi] at h2
    split at h2
    · rename_i e; rw [e] at h2; exact h2
    · have := early_low hg ho hm.2 hi
      unfold earlyM at this; omega
end Go.Proofs.Ytfjcibkgbalkaaa.Q9Dual

/- Chapter 9: mails and routes: the plain functions of the program and of the reference agree, and the laws answer true. (Q9Cand) No condition but those of each theorem. -/
namespace Go.Proofs.Ytfjcibkgbalkaaa.Q9Cand
set_option linter.unusedVariables false
set_option linter.unusedSimpArgs false
open Go.RowKit
open Go.Proofs.Ytfjcibkgbalkaaa.GoP Go.Proofs.Ytfjcibkgbalkaaa.PlainStamp Go.Proofs.Ytfjcibkgbalkaaa.QBase Go.Proofs.Ytfjcibkgbalkaaa.Q9Dual Go.Proofs.Ytfjcibkgbalkaaa.Q9Arr Go.Proofs.Ytfjcibkgbalkaaa.Q9List Go.Proofs.Ytfjcibkgbalkaaa.Q9Mail Go.Proofs.Ytfjcibkgbalkaaa.QLoop Go.Proofs.Ytfjcibkgbalkaaa.PMail Go.Proofs.Ytfjcibkgbalkaaa.PIntA10

theorem split_at {l : List Mail} {k : Nat} {x : Mail} (h : l[k]? = some x) : l = l.take k ++ x :: l.drop (k + 1) := by
  obtain ⟨hk, e⟩ := List.getElem?_eq_some_iff.1 h
  rw [← e, ← List.drop_eq_getElem_cons hk, List.take_append_drop]
/-- those ahead of a mail leave no later -/
theorem aheadM {l : List Mail} (hg : goodM l = true) {k : Nat} {x : Mail} (hx : l[k]? = some x) : ∀ y ∈ l.take k, y.leave ≤ x.leave := by
  intro y hy
  obtain ⟨j, hj⟩ := List.getElem?_of_mem hy
  rw [List.getElem?_take] at hj
  split at hj
  · exact m_leave hg (by assumption) hj hx
  · exact absurd hj (by simp)
theorem late_cut {l : List Mail} {k : Nat} {x : Mail} (hx : l[k]? = some x) (p b : Int) : lateM l p b = (l.take k).foldr stepL (stepL x (lateM (l.drop (k + 1)) p b)) := by
  have h := split_at hx
  show l.foldr stepL (startL p b) = _
  conv => lhs; rw [h]
  rw [List.foldr_append, List.foldr_cons]; rfl
/-- whether one still comes in time behind a mail is told by those behind it alone -/
theorem late_behind {l : List Mail} (hg : goodM l = true) {k : Nat} {x : Mail} (hx : l[k]? = some x) (p b : Int) : x.arrive ≤ at_ (lateM l p b) x.to_ ↔ x.arrive ≤ at_ (lateM (l.drop (k + 1)) p b) x.to_ := by
  have hok := m_ok hg hx
  have hm := okM_of hok
  have hd := late_len (l.drop (k + 1)) p b
  have h1 : at_ (stepL x (lateM (l.drop (k + 1)) p b)) x.to_ = at_ (lateM (l.drop (k + 1)) p b) x.to_ := by
    rw [stepL_at hd hok hm.2.1, if_neg (fun q => hm.2.2.1 q.2.symm)]
  rw [late_cut hx p b]
  have hmem : ∀ y ∈ l.take k, okM y = true := fun y hy => m_mem hg (List.mem_of_mem_take hy)
  have h2 := foldL_up (l.take k) hmem hm.2.1 (t := stepL x (lateM (l.drop (k + 1)) p b)) (by rw [stepL_len, hd])
  have h3 := foldL_top (l.take k) hmem (aheadM hg hx) hm.2.1 (t := stepL x (lateM (l.drop (k + 1)) p b)) (by rw [stepL_len, hd])
  rw [h1] at h2 h3
  constructor
  · intro h; omega
  · intro h; omega
theorem late_from {l : List Mail} (hg : goodM l = true) {k : Nat} {x : Mail} (hx : l[k]? = some x) {p b : Int} (h : x.arrive ≤ at_ (lateM l p b) x.to_) : x.leave ≤ at_ (lateM l p b) x.from_ := by
  have hok := m_ok hg hx
  have hm := okM_of hok
  have hd := late_len (l.drop (k + 1)) p b
  have h1 := (late_behind hg hx p b).1 h
  rw [late_cut hx p b]
  have hmem : ∀ y ∈ l.take k, okM y = true := fun y hy => m_mem hg (List.mem_of_mem_take hy)
  refine Int.le_trans ?_ (foldL_up (l.take k) hmem hm.1 (by rw [stepL_len, hd]))
  rw [stepL_at hd hok hm.1, if_pos ⟨h1, rfl⟩]; omega
/-- with a mail one comes no earlier than without asking for it -/
theorem take_le {l : List Mail} (hg : goodM l = true) {k : Nat} {x : Mail} (hx : l[k]? = some x) {m p : Int} (hp : 0 ≤ p ∧ p ≤ 9) (hm : 0 ≤ m ∧ m ≤ x.leave) : at_ (earlyM l x.from_ m) p ≤ at_ (earlyM l x.to_ x.arrive) p := by
  have ho := okM_of (m_ok hg hx)
  obtain ⟨b, hb⟩ : ∃ b, b = at_ (earlyM l x.to_ x.arrive) p := ⟨_, rfl⟩
  rw [← hb]
  by_cases h : b ≤ 9999
  · have h1 := (dual hg ho.2.1 hp (by omega) h).1 (Int.le_of_eq hb.symm)
    have h2 := late_from hg hx h1
    exact (dual hg ho.1 hp (by omega) h).2 (by omega)
  · have := early_top hg (m := m) ho.1 (by omega) hp; omega
/-- where one may be later than at first, some mail leads on -/
theorem late_some (l : List Mail) (hl : ∀ x ∈ l, okM x = true) {p b o m : Int} (hp : 0 ≤ p ∧ p ≤ 9) (ho : 0 ≤ o ∧ o ≤ 9) (h0 : at_ (startL p b) o < m) (h : m ≤ at_ (lateM l p b) o) : ∃ x ∈ l, x.from_ = o ∧ m ≤ x.leave ∧ x.arrive ≤ at_ (lateM l p b) x.to_ := by
  induction l with
  | nil => exact absurd h (by simp only [lateM, List.foldr_nil]; omega)
  | cons x l ih =>
    have hok := hl x (List.mem_cons_self ..)
    have hm := okM_of hok
    have hlen := late_len l p b
    have e : lateM (x :: l) p b = stepL x (lateM l p b) := rfl
    by_cases h1 : m ≤ at_ (lateM l p b) o
    · obtain ⟨y, hy, h2, h3, h4⟩ := ih (fun y hy => hl y (List.mem_cons_of_mem _ hy)) h1
      refine ⟨y, List.mem_cons_of_mem _ hy, h2, h3, Int.le_trans h4 ?_⟩
      rw [e, stepL_at hlen hok (okM_of (hl y (List.mem_cons_of_mem _ hy))).2.1]
      split <;> omega
    · rw [e, stepL_at hlen hok ho] at h
      split at h
      · rename_i hc
        refine ⟨x, List.mem_cons_self .., hc.2.symm, by omega, ?_⟩
        rw [e, stepL_at hlen hok hm.2.1, if_neg (fun q => hm.2.2.1 q.2.symm)]
        exact hc.1
      · exact absurd h h1
/-- a mail that leads on from an office at a minute -/
def cand (l : List Mail) (p e o m : Int) (x : Mail) : Bool := decide (x.from_ = o ∧ m ≤ x.leave ∧ x.arrive ≤ at_ (lateM l p e) x.to_)
theorem cand_iff {l : List Mail} (hg : goodM l = true) {p e o m : Int} (hp : 0 ≤ p ∧ p ≤ 9) (hm : 0 ≤ m) (he : e ≤ 9999) (hE : at_ (earlyM l o m) p = e) {k : Nat} {x : Mail} (hx : l[k]? = some x) :
    cand l p e o m x = decide (x.from_ = o ∧ m ≤ x.leave ∧ at_ (earlyM l x.to_ x.arrive) p = e) := by
  have h1 := okM_of (m_ok hg hx)
  unfold cand
  congr 1
  rw [eq_iff_iff]
  constructor
  · rintro ⟨rfl, h3, h4⟩
    have h5 := (dual hg h1.2.1 hp (by omega) he).2 h4
    have h6 := take_le hg hx hp ⟨hm, h3⟩
    exact ⟨rfl, h3, by omega⟩
  · rintro ⟨h2, h3, h4⟩
    exact ⟨h2, h3, (dual hg h1.2.1 hp (by omega) he).1 (Int.le_of_eq h4)⟩
theorem cand_none {l : List Mail} (hg : goodM l = true) {p e o m : Int} (hp : 0 ≤ p ∧ p ≤ 9) (ho : 0 ≤ o ∧ o ≤ 9) (hm : 0 ≤ m) (he : e ≤ 9999) (hE : at_ (earlyM l o m) p = e) (hm9 : m ≤ 9999) :
    (∀ x ∈ l, cand l p e o m x = false) ↔ o = p ∧ m = e := by
  constructor
  · intro h
    have h1 := (dual hg ho hp ⟨hm, hm9⟩ he).1 (Int.le_of_eq hE)
    have hup := early_up hg (m := m) ho hp
    have hlow := early_low hg ho hm9 hp
    by_cases hop : o = p
    · rw [if_pos hop.symm] at hup; exact ⟨hop, by omega⟩
    · obtain ⟨x, hx, h2, h3, h4⟩ := late_some l (fun x hx => m_mem hg hx) hp ho (m := m) (by rw [startL_at hp ho, if_neg hop]; omega) h1
      have := h x hx
      unfold cand at this
      rw [decide_eq_true (show x.from_ = o ∧ m ≤ x.leave ∧ x.arrive ≤ at_ (lateM l p e) x.to_ from ⟨h2, h3, h4⟩)] at this
      exact absurd this (by simp)
  · rintro ⟨rfl, rfl⟩ x hx
    obtain ⟨k, hk⟩ := List.getElem?_of_mem hx
    have h1 := okM_of (m_mem hg hx)
    rw [cand_iff hg hp hm he hE hk, decide_eq_false]
    rintro ⟨h2, h3, h4⟩
    have := early_low hg h1.2.1 (m := x.arrive) (by omega) hp
    omega
end Go.Proofs.Ytfjcibkgbalkaaa.Q9Cand

/- Loops that test each place, and loops without a count. No condition. -/
namespace Go.Proofs.Ytfjcibkgbalkaaa.QAll
set_option linter.unusedVariables false
set_option linter.unusedSimpArgs false
open Go.RowKit
open Go.Proofs.Ytfjcibkgbalkaaa.GoP Go.Proofs.Ytfjcibkgbalkaaa.QBase Go.Proofs.Ytfjcibkgbalkaaa.QLoop

/-- each number below n is good -/
def allN (n : Nat) (p : Nat → Bool) : Bool := (List.range n).all p
theorem allN_iff {n : Nat} {p : Nat → Bool} : allN n p = true ↔ ∀ i, i < n → p i = true := by unfold allN; simp
theorem allN_no {n k : Nat} {p : Nat → Bool} (hk : k < n) (h : p k = false) : allN n p = false := by
  rw [Bool.eq_false_iff]; intro ha; rw [allN_iff.1 ha k hk] at h; exact absurd h (by simp)
theorem allN_eq {n m : Nat} {p q : Nat → Bool} (h : (∀ i, i < n → p i = true) ↔ (∀ i, i < m → q i = true)) : allN n p = allN m q := by
  rw [Bool.eq_iff_iff, allN_iff, allN_iff]; exact h
theorem all_cnt {ρ : Type} {n : Nat} {p : Nat → Bool} {no : ρ} {f : Nat → Unit → (Unit → Option ρ) → (Unit → Option ρ) → Option ρ} {fin : Unit → Option ρ}
    (step : ∀ k nx, k < n → (p k = false → f k () nx fin = some no) ∧ (p k = true → f k () nx fin = nx ())) : cntK f n 0 () fin = if allN n p = true then fin () else some no := by
  have key : ∀ m k, k + m = n → (∀ i, i < k → p i = true) → cntK f m k () fin = if allN n p = true then fin () else some no := by
    intro m
    induction m with
    | zero => intro k hk hu; obtain rfl : k = n := by omega
              rw [allN_iff.2 hu]; rfl
    | succ m ih =>
      intro k hk hu
      obtain ⟨h1, h2⟩ := step k (fun s' => cntK f m (k + 1) s' fin) (by omega)
      show f k () _ fin = _
      cases hp : p k with
      | false => rw [h1 hp, allN_no (by omega) hp]; rfl
      | true =>
        rw [h2 hp]
        refine ih (k + 1) (by omega) (fun i hi => ?_)
        by_cases he : i = k
        · rw [he]; exact hp
        · exact hu i (by omega)
  exact key n 0 (by omega) (fun i hi => by omega)
theorem lp_ex {σ ρ : Type} {f : σ → (σ → Option ρ) → (σ → Option ρ) → Option ρ} {fin : σ → Option ρ} {Q : ρ → Prop} {n : Nat} (I : Nat → σ → Prop)
    (step : ∀ k s nx, k < n → I k s → (∀ s', I (k + 1) s' → ∃ r, nx s' = some r ∧ Q r) → ∃ r, f s nx fin = some r ∧ Q r) (done : ∀ s nx, I n s → ∃ r, f s nx fin = some r ∧ Q r) :
    ∀ fuel k s, k ≤ n → n - k < fuel → I k s → ∃ r, loopK f fuel s fin = some r ∧ Q r := by
  intro fuel
  induction fuel with
  | zero => intro k s hk hf; omega
  | succ m ih =>
    intro k s hk hf hI
    show ∃ r, f s _ fin = some r ∧ Q r
    by_cases he : k = n
    · subst he; exact done s _ hI
    · exact step k s _ (by omega) hI (fun s' h' => ih (k + 1) s' (by omega) (by omega) h')
theorem all_lp {ρ : Type} {n : Nat} {p : Nat → Bool} {no : ρ} {f : Int → (Int → Option ρ) → (Int → Option ρ) → Option ρ} {fin : Int → Option ρ}
    (step : ∀ (k : Nat) nx, k < n → (p k = false → f (k : Int) nx fin = some no) ∧ (p k = true → f (k : Int) nx fin = nx ((k + 1 : Nat) : Int))) (stop : ∀ nx, f (n : Int) nx fin = fin (n : Int))
    (fuel : Nat) (hf : n < fuel) : loopK f fuel 0 fin = if allN n p = true then fin (n : Int) else some no := by
  have key : ∀ fuel k, k ≤ n → n - k < fuel → (∀ i, i < k → p i = true) → loopK f fuel (k : Int) fin = if allN n p = true then fin (n : Int) else some no := by
    intro fuel
    induction fuel with
    | zero => intro k hk hf; omega
    | succ m ih =>
      intro k hk hf hu
      show f (k : Int) _ fin = _
      by_cases he : k = n
      · subst he; rw [stop, allN_iff.2 hu]; rfl
      · obtain ⟨h1, h2⟩ := step k (fun s' => loopK f m s' fin) (by omega)
        cases hp : p k with
        | false => rw [h1 hp, allN_no (by omega) hp]; rfl
        | true =>
          rw [h2 hp]
          refine ih (k + 1) (by omega) (by omega) (fun i hi => ?_)
          by_cases he : i = k
          · rw [he]; exact hp
          · exact hu i (by omega)
  exact key fuel 0 (by omega) (by omega) (fun i hi => by omega)
theorem next_i {k : Nat} (h : k ≤ 9223372036854775806) : IntKind.i64.wrap ((k : Int) + 1) = ((k + 1 : Nat) : Int) := by rw [wrap_in (by omega) (by omega)]; omega
end Go.Proofs.Ytfjcibkgbalkaaa.QAll

/- Rising rows: what a rising row gives; loops that sum; loops from one on. No condition. -/
namespace Go.Proofs.Ytfjcibkgbalkaaa.QUp
set_option linter.unusedVariables false
set_option linter.unusedSimpArgs false
open Go.RowKit
open Go.Proofs.Ytfjcibkgbalkaaa.GoP Go.Proofs.Ytfjcibkgbalkaaa.QBase Go.Proofs.Ytfjcibkgbalkaaa.QLoop Go.Proofs.Ytfjcibkgbalkaaa.QAll

theorem upTo_at {α : Type} {ok : α → Bool} {id : α → Int} {l : List α} {n : Nat} (h : upTo ok id l n = true) {k : Nat} (hk : k < n) : upAt ok id l k = true := List.all_eq_true.1 h k (List.mem_range.2 hk)
theorem upTo_ok {α : Type} {ok : α → Bool} {id : α → Int} {l : List α} {n : Nat} (h : upTo ok id l n = true) {k : Nat} (hk : k < n) {x : α} (hx : l[k]? = some x) : ok x = true := by
  have := upTo_at h hk
  unfold upAt at this
  rw [hx] at this
  simp only [Bool.and_eq_true] at this
  exact this.1
theorem upTo_step {α : Type} {ok : α → Bool} {id : α → Int} {l : List α} {n : Nat} (h : upTo ok id l n = true) {k : Nat} (hk : k + 1 < n) {x y : α} (hx : l[k]? = some x) (hy : l[k + 1]? = some y) : id x < id y := by
  have := upTo_at h hk
  unfold upAt at this
  rw [hy] at this
  simp only [Nat.add_sub_cancel, hx, Bool.and_eq_true, Bool.or_eq_true, decide_eq_true_eq] at this
  rcases this.2 with h0 | h0
  · omega
  · exact h0
theorem upTo_lt {α : Type} {ok : α → Bool} {id : α → Int} {l : List α} {n : Nat} (h : upTo ok id l n = true) (hn : n ≤ l.length) {i : Nat} : ∀ d {x y : α}, i + d + 1 < n → l[i]? = some x → l[i + d + 1]? = some y → id x < id y := by
  intro d
  induction d with
  | zero => intro x y hk hx hy; exact upTo_step h hk hx hy
  | succ d ih =>
    intro x y hk hx hy
    obtain ⟨z, hz, _⟩ := at_lt (l := l) (k := i + d + 1) (by omega)
    have h1 := ih (by omega) hx hz
    have h2 := upTo_step (k := i + d + 1) h (by omega) hz (by rw [← hy]; rfl)
    omega
/-- rising numbers: the later one is greater -/
theorem up_less {α : Type} {ok : α → Bool} {id : α → Int} {l : List α} (h : upTo ok id l l.length = true) {i j : Nat} {x y : α} (hij : i < j) (hx : l[i]? = some x) (hy : l[j]? = some y) : id x < id y := by
  have hj := (List.getElem?_eq_some_iff.1 hy).1
  exact upTo_lt h (Nat.le_refl _) (j - i - 1) (by omega) hx (by rw [← hy]; congr 1; omega)
/-- a loop with fuel, from k on, by an invariant -/
theorem lp_is {σ ρ : Type} {f : σ → (σ → Option ρ) → (σ → Option ρ) → Option ρ} {fin : σ → Option ρ} {n : Nat} (r : ρ) (I : Nat → σ → Prop)
    (step : ∀ k s nx, k < n → I k s → (∀ s', I (k + 1) s' → nx s' = some r) → f s nx fin = some r) (done : ∀ s nx, I n s → f s nx fin = some r) (fuel : Nat) (k : Nat) (s : σ) (hk : k ≤ n) (hf : n - k < fuel) (hI : I k s) : loopK f fuel s fin = some r := by
  obtain ⟨r', h, rfl⟩ := lp_ex (Q := fun x => x = r) I (fun k s nx hk hI hn => ⟨r, step k s nx hk hI (fun s' h' => by obtain ⟨_, h, rfl⟩ := hn s' h'; exact h), rfl⟩) (fun s nx h => ⟨r, done s nx h, rfl⟩) fuel k s hk hf hI
  exact h
theorem most_eq (a b : Int) (h : (if b < a then a else b) = max a b := by omega) : (if b < a then a else b) = max a b := h
end Go.Proofs.Ytfjcibkgbalkaaa.QUp

/- Chapter 9: mails and routes: the plain functions of the program and of the reference agree, and the laws answer true. (Q9Late) No condition but those of each theorem. -/
namespace Go.Proofs.Ytfjcibkgbalkaaa.Q9Late
set_option linter.unusedVariables false
set_option linter.unusedSimpArgs false
open Go.RowKit
open Go.Proofs.Ytfjcibkgbalkaaa.GoP Go.Proofs.Ytfjcibkgbalkaaa.PlainStamp Go.Proofs.Ytfjcibkgbalkaaa.QBase Go.Proofs.Ytfjcibkgbalkaaa.QFoldS Go.Proofs.Ytfjcibkgbalkaaa.Q9Cand Go.Proofs.Ytfjcibkgbalkaaa.Q9Dual Go.Proofs.Ytfjcibkgbalkaaa.Q9Arr Go.Proofs.Ytfjcibkgbalkaaa.Q9List Go.Proofs.Ytfjcibkgbalkaaa.Q9Mail Go.Proofs.Ytfjcibkgbalkaaa.QUp Go.Proofs.Ytfjcibkgbalkaaa.QAll Go.Proofs.Ytfjcibkgbalkaaa.QLoop Go.Proofs.Ytfjcibkgbalkaaa.PMail Go.Proofs.Ytfjcibkgbalkaaa.PIntA10 Go.Proofs.Ytfjcibkgbalkaaa.GoA

theorem latest_eq {fuel : Nat} {l : List Mail} (hg : goodM l = true) {p : Int} (hp : 0 ≤ p ∧ p ≤ 9) (b : Int) (hf : 20 < fuel) : GiLatestMinutes.P fuel l p b = some (toA (lateM l p b)) := by
  have hlen := m_len hg
  simp only [GiLatestMinutes.P, filled_eq, Option.bind_some, un_eq, letK]
  rw [ten (by simp), idx_at (by simp) hp, Option.bind_some, wrap_in (by omega) (by omega)]
  refine lp_is (n := l.length) _ (fun k (s : List Int × Int) => s = (lateM (l.drop (l.length - k)) p b, (l.length : Int) - 1 - (k : Int))) ?_ ?_ fuel 0 _ (by omega) (by omega) ?_
  · intro k s nx hk hI hn
    subst hI
    have hq : l.length - k - 1 < l.length := by omega
    have hx : l[l.length - k - 1]? = some l[l.length - k - 1] := List.getElem?_eq_getElem hq
    have hi : idx l ((l.length : Int) - 1 - (k : Int)) = some l[l.length - k - 1] := by
      rw [show (l.length : Int) - 1 - (k : Int) = ((l.length - k - 1 : Nat) : Int) by omega, idx_nat, hx]
    have hd : lateM (l.drop (l.length - (k + 1))) p b = stepL l[l.length - k - 1] (lateM (l.drop (l.length - k)) p b) := by
      unfold lateM
      rw [show l.length - (k + 1) = l.length - k - 1 by omega, List.drop_eq_getElem_cons hq, List.foldr_cons, show l.length - k - 1 + 1 = l.length - k by omega]
    have hok := okM_of (m_ok hg hx)
    have h0 : (0 : Int) ≤ (l.length : Int) - 1 - (k : Int) := by omega
    simp only [GiLatestMinutes.l0, unp2_mk, letK, decide_eq_true h0, iteK_if, if_true, hi, Option.bind_some]
    have hn2 := hn (stepL l[l.length - k - 1] (lateM (l.drop (l.length - k)) p b), (l.length : Int) - 1 - (k : Int) - 1) (by rw [hd]; congr 1; omega)
    revert hok hn2
    generalize l[l.length - k - 1] = x
    intro hok hn2
    obtain ⟨c, d, e, g⟩ := x
    dsimp only at hok
    simp only [unMail, idx_at (late_len _ p b) hok.2.1, idx_at (late_len _ p b) hok.1, Option.bind_some]
    rw [wrap_in (by omega) (by omega)]
    unfold stepL at hn2
    dsimp only at hn2
    by_cases h : g ≤ at_ (lateM (l.drop (l.length - k)) p b) e
    · rw [if_pos h] at hn2; rw [if_pos (by simpa using h)]; exact hn2
    · rw [if_neg h] at hn2; rw [if_neg (by simpa using h)]; exact hn2
  · intro s nx hI
    subst hI
    have h0 : ¬ (0 : Int) ≤ (l.length : Int) - 1 - (l.length : Int) := by omega
    simp only [GiLatestMinutes.l0, unp2_mk, letK, decide_eq_false h0, iteK_if, Bool.false_eq_true, if_false, appK, GiLatestMinutes.e0, Nat.sub_self, List.drop_zero]
    rfl
  · simp [lateM]; rfl
end Go.Proofs.Ytfjcibkgbalkaaa.Q9Late

/- Chapter 9: mails and routes: the plain functions of the program and of the reference agree, and the laws answer true. (Q9Early) No condition but those of each theorem. -/
namespace Go.Proofs.Ytfjcibkgbalkaaa.Q9Early
set_option linter.unusedVariables false
set_option linter.unusedSimpArgs false
open Go.RowKit
open Go.Proofs.Ytfjcibkgbalkaaa.GoP Go.Proofs.Ytfjcibkgbalkaaa.PlainStamp Go.Proofs.Ytfjcibkgbalkaaa.QBase Go.Proofs.Ytfjcibkgbalkaaa.QFoldS Go.Proofs.Ytfjcibkgbalkaaa.Q9Dual Go.Proofs.Ytfjcibkgbalkaaa.Q9Arr Go.Proofs.Ytfjcibkgbalkaaa.Q9List Go.Proofs.Ytfjcibkgbalkaaa.Q9Mail Go.Proofs.Ytfjcibkgbalkaaa.QLoop Go.Proofs.Ytfjcibkgbalkaaa.PMail Go.Proofs.Ytfjcibkgbalkaaa.PIntA10 Go.Proofs.Ytfjcibkgbalkaaa.GoA

theorem least_eq (a b : Int) : GsL1Least.P a b = some (min a b) := by
  simp only [GsL1Least.P, letK, iteK_if]
  by_cases h : a < b
  · rw [if_pos (by simpa using h)]; congr 1; omega
  · rw [if_neg (by simpa using h)]; congr 1; omega
theorem earliest_eq {l : List Mail} (hg : goodM l = true) {o : Int} (ho : 0 ≤ o ∧ o ≤ 9) (m : Int) : GiEarliestMinutes.P l o m = some (toA (earlyM l o m)) := by
  simp only [GiEarliestMinutes.P, filled_eq, Option.bind_some, un_eq, letK]
  rw [ten (by simp), idx_at (by simp) ho, Option.bind_some, fold_cnt (g := stepE) (J := fun s => s.length = 10)]
  · rfl
  · intro k x s nx hx hs
    have hk : idx l (k : Int) = some x := by rw [idx_nat, hx]
    have hm := okM_of (m_ok hg hx)
    obtain ⟨a, b, c, d⟩ := x
    dsimp only at hm
    refine ⟨?_, by rw [stepE_len, hs]⟩
    simp only [GiEarliestMinutes.l0, letK, hk, Option.bind_some, unMail, idx_at hs hm.1, iteK_if, stepE]
    by_cases h : at_ s b ≤ a
    · simp [h, idx_at hs hm.2.1, appK]
    · simp [h, appK]
  · simp
theorem times_eq {l : List Mail} (hg : goodM l = true) {o : Int} (ho : 0 ≤ o ∧ o ≤ 9) (m : Int) : GsL9Times.P l o m = some (earlyM l o m) := by
  simp only [GsL9Times.P, letK]
  rw [guardK_pos (by omega)]
  have h10 : cntK GsL9Times.l0 (List.replicate 10 (0 : Int)).length 0 (List.replicate 10 (0 : Int)) (GsL9Times.e0 l o m) = GsL9Times.e0 l o m (List.replicate 10 10000) := rfl
  rw [h10]
  simp only [GsL9Times.e0, letK]
  rw [idx_at (by simp) ho, Option.bind_some, fold_cnt (g := stepE) (J := fun s => s.length = 10)]
  · rfl
  · intro k x s nx hx hs
    have hk : idx l (k : Int) = some x := by rw [idx_nat, hx]
    have hm := okM_of (m_ok hg hx)
    obtain ⟨a, b, c, d⟩ := x
    dsimp only at hm
    refine ⟨?_, by rw [stepE_len, hs]⟩
    simp only [GsL9Times.l1, letK, hk, Option.bind_some, unMail, idx_at hs hm.1, iteK_if, stepE]
    by_cases h : at_ s b ≤ a
    · simp [h, idx_at hs hm.2.1, appK, least_eq]
    · simp [h, appK]
  · simp
end Go.Proofs.Ytfjcibkgbalkaaa.Q9Early

/- Chapter 9: mails and routes: the plain functions of the program and of the reference agree, and the laws answer true. (Q9At) No condition but those of each theorem. -/
namespace Go.Proofs.Ytfjcibkgbalkaaa.Q9At
set_option linter.unusedVariables false
set_option linter.unusedSimpArgs false
open Go.RowKit
open Go.Proofs.Ytfjcibkgbalkaaa.GoP Go.Proofs.Ytfjcibkgbalkaaa.PlainStamp Go.Proofs.Ytfjcibkgbalkaaa.QBase Go.Proofs.Ytfjcibkgbalkaaa.Q9Early Go.Proofs.Ytfjcibkgbalkaaa.Q9Dual Go.Proofs.Ytfjcibkgbalkaaa.Q9Arr Go.Proofs.Ytfjcibkgbalkaaa.Q9List Go.Proofs.Ytfjcibkgbalkaaa.Q9Mail Go.Proofs.Ytfjcibkgbalkaaa.QLoop Go.Proofs.Ytfjcibkgbalkaaa.PMail Go.Proofs.Ytfjcibkgbalkaaa.PIntA10

def atRes (l : List Mail) (o m p : Int) : Int × Bool := if askM l o m = true ∧ inB p 0 9 = true ∧ at_ (earlyM l o m) p ≠ 10000 then (at_ (earlyM l o m) p, true) else (0, false)
theorem at_impl (l : List Mail) (hl : l.length ≤ 9223372036854775807) (o m p : Int) : GiEarliestAt.P l o m p = some (atRes l o m p) := by
  simp only [GiEarliestAt.P, canBegin_eq l hl, isOffice_eq, Option.bind_some, letK, joinK, appK, iteK_if, atRes]
  cases ha : askM l o m with
  | false => simp
  | true =>
    obtain ⟨hg, ho, hm⟩ := ask_of ha
    cases hp : inB p 0 9 with
    | false => simp
    | true =>
      have hp2 := inB_of hp
      simp only [Bool.not_true, Bool.false_eq_true, if_false, earliest_eq hg ho, Option.bind_some, un_eq, ten (early_len l o m), idx_at (early_len l o m) hp2]
      by_cases h : at_ (earlyM l o m) p = 10000 <;> simp [h]
theorem at_spec (l : List Mail) (hl : l.length ≤ 9223372036854775807) (o m p : Int) : GsEarliestAt.P l o m p = some (atRes l o m p) := by
  simp only [GsEarliestAt.P, l9Asked_eq l hl, l9Office_eq, Option.bind_some, letK, joinK, appK, iteK_if, atRes]
  cases ha : askM l o m with
  | false => simp
  | true =>
    obtain ⟨hg, ho, hm⟩ := ask_of ha
    cases hp : inB p 0 9 with
    | false => simp
    | true =>
      have hp2 := inB_of hp
      simp only [Bool.not_true, Bool.false_eq_true, if_false, times_eq hg ho, Option.bind_some, idx_at (early_len l o m) hp2]
      by_cases h : at_ (earlyM l o m) p = 10000 <;> simp [h]
end Go.Proofs.Ytfjcibkgbalkaaa.Q9At

/- Chapter 9: mails and routes: the plain functions of the program and of the reference agree, and the laws answer true. (Q9Drop) No condition but those of each theorem. -/
namespace Go.Proofs.Ytfjcibkgbalkaaa.Q9Drop
set_option linter.unusedVariables false
set_option linter.unusedSimpArgs false
open Go.RowKit
open Go.Proofs.Ytfjcibkgbalkaaa.GoP Go.Proofs.Ytfjcibkgbalkaaa.PlainStamp Go.Proofs.Ytfjcibkgbalkaaa.QBase Go.Proofs.Ytfjcibkgbalkaaa.QLoop

/-- a counted loop through a list, by what is still to come -/
theorem cnt_drop {α σ ρ : Type} {l : List α} {f : Nat → σ → (σ → Option ρ) → (σ → Option ρ) → Option ρ} {fin : σ → Option ρ} (F : List α → σ → Option ρ) (nil : ∀ s, F [] s = fin s)
    (cons : ∀ k x s nx, l[k]? = some x → (∀ s', nx s' = F (l.drop (k + 1)) s') → f k s nx fin = F (x :: l.drop (k + 1)) s) (s : σ) : cntK f l.length 0 s fin = F l s := by
  have key : ∀ m k s, k + m = l.length → cntK f m k s fin = F (l.drop k) s := by
    intro m
    induction m with
    | zero => intro k s hk; rw [List.drop_eq_nil_of_le (by omega), nil]; rfl
    | succ m ih =>
      intro k s hk
      have hlt : k < l.length := by omega
      have hd : l.drop k = l[k] :: l.drop (k + 1) := List.drop_eq_getElem_cons hlt
      rw [hd]
      exact cons k l[k] s _ (List.getElem?_eq_getElem hlt) (fun s' => ih (k + 1) s' (by omega))
  exact key l.length 0 s (by omega)
/-- the first place that is good, or none -/
theorem first_or (p : Nat → Bool) (n : Nat) : (∀ k, k < n → p k = false) ∨ ∃ k, k < n ∧ p k = true ∧ ∀ j, j < k → p j = false := by
  induction n with
  | zero => exact Or.inl (fun k h => by omega)
  | succ n ih =>
    rcases ih with h | ⟨k, h1, h2, h3⟩
    · cases hp : p n with
      | true => exact Or.inr ⟨n, by omega, hp, h⟩
      | false => exact Or.inl (fun k hk => by by_cases he : k = n; · rw [he]; exact hp
                                              · exact h k (by omega))
    · exact Or.inr ⟨k, by omega, h2, h3⟩
theorem cnt_none {σ ρ : Type} {f : Nat → σ → (σ → Option ρ) → (σ → Option ρ) → Option ρ} {fin : σ → Option ρ} {n : Nat} {s : σ} {p : Nat → Bool} (step : ∀ k nx, k < n → p k = false → f k s nx fin = nx s) (h : ∀ k, k < n → p k = false) : cntK f n 0 s fin = fin s := by
  have key : ∀ m k, k + m = n → cntK f m k s fin = fin s := by
    intro m
    induction m with
    | zero => intro k hk; rfl
    | succ m ih => intro k hk; show f k s _ fin = _; rw [step k _ (by omega) (h k (by omega))]; exact ih (k + 1) (by omega)
  exact key n 0 (by omega)
theorem cnt_first {σ ρ : Type} {f : Nat → σ → (σ → Option ρ) → (σ → Option ρ) → Option ρ} {fin : σ → Option ρ} {n : Nat} {s : σ} {p : Nat → Bool} {j : Nat} {r : Option ρ} (hj : j < n) (step : ∀ k nx, k < j → p k = false → f k s nx fin = nx s) (h : ∀ k, k < j → p k = false) (yes : ∀ nx, f j s nx fin = r) : cntK f n 0 s fin = r := by
  have key : ∀ d m k, k + d = j → k + m = n → cntK f m k s fin = r := by
    intro d
    induction d with
    | zero => intro m k hk hm
              obtain ⟨m, rfl⟩ : ∃ q, m = q + 1 := ⟨m - 1, by omega⟩
              obtain rfl : k = j := by omega
              exact yes _
    | succ d ih => intro m k hk hm
                   obtain ⟨m, rfl⟩ : ∃ q, m = q + 1 := ⟨m - 1, by omega⟩
                   show f k s _ fin = _
                   rw [step k _ (by omega) (h k (by omega))]
                   exact ih m (k + 1) (by omega) (by omega)
  exact key j n 0 (by omega) (by omega)
end Go.Proofs.Ytfjcibkgbalkaaa.Q9Drop

/- loop.example/g01062/impl.EndOfRoute as a plain function, and the contract of the program's: where the plain one has an answer, the program has it. Conditions: slices read as lists. -/
namespace Go.Proofs.Ytfjcibkgbalkaaa.GiEndOfRoute
set_option linter.unusedVariables false
set_option linter.unusedSimpArgs false
open Go.RowKit
open Go.Proofs.Ytfjcibkgbalkaaa.Rowed Go.Proofs.Ytfjcibkgbalkaaa.Turn Go.Proofs.Ytfjcibkgbalkaaa.Aid Go.Proofs.Ytfjcibkgbalkaaa.GoP Go.Proofs.Ytfjcibkgbalkaaa.GoM

def l0 (list : (List Go.Proofs.Ytfjcibkgbalkaaa.PMail.Mail)) (route : (List Int)) (k0 : Nat) (s : Int × Int) (nx0 bk0 : Int × Int → Option (Int × Int × Bool)) : Option (Int × Int × Bool) :=
  unp2 s fun office_11l0 end_12l0 =>
  Option.bind (idx route (k0 : Int)) fun (yt_19 : Int) =>
  letK (IntKind.i64.wrap ((list.length : Int) - 1)) fun (t_25 : Int) =>
  Option.bind (Go.Proofs.Ytfjcibkgbalkaaa.GiWithin.P yt_19 0 t_25) fun (t_26 : Bool) =>
  letK (!t_26) fun (t_27 : Bool) =>
  joinK (fun (t_37 : Bool) =>
  iteK t_37
  (some (0, 0, false))
  (Option.bind (idx list yt_19) fun (yt_43 : Go.Proofs.Ytfjcibkgbalkaaa.PMail.Mail) =>
  unMail yt_43 fun (t_43_leave : Int) (t_43_from_ : Int) (t_43_to_ : Int) (t_43_arrive : Int) =>
  Option.bind (idx list yt_19) fun (yt_48 : Go.Proofs.Ytfjcibkgbalkaaa.PMail.Mail) =>
  unMail yt_48 fun (t_48_leave : Int) (t_48_from_ : Int) (t_48_to_ : Int) (t_48_arrive : Int) =>
  appK nx0 (t_43_to_, t_48_arrive))) fun jt_37 => iteK t_27 (appK jt_37 true) (Option.bind (idx list yt_19) fun (yt_31 : Go.Proofs.Ytfjcibkgbalkaaa.PMail.Mail) =>
  unMail yt_31 fun (t_31_leave : Int) (t_31_from_ : Int) (t_31_to_ : Int) (t_31_arrive : Int) =>
  Option.bind (Go.Proofs.Ytfjcibkgbalkaaa.GiCanTake.P (Go.Proofs.Ytfjcibkgbalkaaa.PMail.Mail.mk t_31_leave t_31_from_ t_31_to_ t_31_arrive) office_11l0 end_12l0) fun (t_35 : Bool) =>
  letK (!t_35) fun (t_36 : Bool) =>
  appK jt_37 t_36)

def e0  (s : Int × Int) : Option (Int × Int × Bool) :=
  unp2 s fun office_11l0 end_12l0 =>
  some (office_11l0, end_12l0, true)

def P (list : (List Go.Proofs.Ytfjcibkgbalkaaa.PMail.Mail)) (from_1 : Int) (minute : Int) (route : (List Int)) : Option (Int × Int × Bool) :=
  Option.bind (Go.Proofs.Ytfjcibkgbalkaaa.GiCanBegin.P list from_1 minute) fun (t_6 : Bool) =>
  letK (!t_6) fun (t_7 : Bool) =>
  iteK t_7
  (some (0, 0, false))
  (cntK (l0 list route) (route.length) 0 (from_1, minute) (e0 ))

set_option maxRecDepth 100000 in
set_option maxHeartbeats 2000000 in
theorem C (list : (List Go.Proofs.Ytfjcibkgbalkaaa.PMail.Mail)) (from_1 : Int) (minute : Int) (route : (List Int)) (A0 : Option Addr) (c0 : Nat) (A3 : Option Addr) (c3 : Nat)  (w : World) (M0 : Hid (Cells w 4 A0 list.length (Go.Proofs.Ytfjcibkgbalkaaa.PMail.flat list))) (N0 : Hid (list.length ≤ 9223372036854775807)) (M3 : Hid (Cells w 1 A3 route.length (Go.Proofs.Ytfjcibkgbalkaaa.HelpInt.iv route))) (N3 : Hid (route.length ≤ 9223372036854775807))  {r0 : Int} {r1 : Int} {r2 : Bool} (H : Hid (P list from_1 minute route = some (r0, r1, r2))) :
    Calls Try.prog 38 #[.slice A0 list.length c0, .int .i64 from_1, .int .i64 minute, .slice A3 route.length c3] w (Gives (.tuple #[.int .i64 r0, .int .i64 r1, .bool r2]) w) := by
  have HB := Lib.hid (Below.refl w.heap.size w)
  unfold P at H
  have N0o := N0.out
  have N3o := N3.out
  go_enter Try.func38, Try.ntmps38
  replace H := bind_hid H
  obtain ⟨t_6, qt_6, H⟩ := H
  go_wp2_with fail
  go_at_call 96
  refine (Go.Proofs.Ytfjcibkgbalkaaa.GiCanBegin.C (list) (from_1) (minute) A0 c0 _   (Lib.hid (Cells.below M0.out HB.out)) N0 qt_6).mono ?_
  rintro e_t_6 wt_6 ⟨rfl, bt_6⟩
  have HBwt_6 := Lib.hid (Below.step HB.out bt_6)
  clear bt_6
  cases t_6 with
  | false =>
    replace H := let_hid H
    obtain ⟨t_7, ht_7, H⟩ := H
    obtain rfl : t_7 = true := ht_7.symm
    replace H := ite_t H
    cases ret_hid H
    go_wp2_with fail
    go_ret3
    exact ⟨rfl, HBwt_6.out⟩
  | true =>
    replace H := let_hid H
    obtain ⟨t_7, ht_7, H⟩ := H
    obtain rfl : t_7 = false := ht_7.symm
    replace H := ite_f H
    go_wp2_with fail
    go_loopg [24, 11, 12] (route.length) (fun m_ v24_ v11_ v12_ wr => ∃ (k0 : Nat) (office_11l0 : Int) (end_12l0 : Int), k0 + m_ = route.length ∧ v24_ = .int .i64 (k0 : Int) ∧ v11_ = .int .i64 office_11l0 ∧ v12_ = .int .i64 end_12l0 ∧ Hid (cntK (l0 list route) m_ k0 (office_11l0, end_12l0) (e0 ) = some (r0, r1, r2)) ∧ Hid (Below w.heap.size w wr))
    case atStart => exact ⟨0, _, _, by omega, rfl, rfl, rfl, H, HBwt_6⟩
    case round =>
      obtain ⟨k0, office_11l0, end_12l0, hkm0, rfl, rfl, rfl, H, HBwr0⟩ := hrel
      rename World => wr0
      cases gk with
      | zero =>
        obtain rfl : k0 = route.length := by omega
        have hc0 : decide (((route.length : Nat) : Int) < ((route.length : Nat) : Int)) = false := by simp
        replace H := cnt_zero H
        unfold e0 at H
        replace H := unp2_hid H
        cases ret_hid H
        go_wp2_with fail
        go_ret3
        exact ⟨rfl, HBwr0.out⟩
      | succ m0 =>
        have hlt0 : k0 < route.length := by omega
        have hc0 : decide ((k0 : Int) < ((route.length : Nat) : Int)) = true := by simp; omega
        replace H := cnt_succ H
        unfold l0 at H
        replace H := unp2_hid H
        replace H := idx_hid H
        obtain ⟨nt_19, yt_19, et_19, lt_19, gt_19, H⟩ := H
        obtain rfl : k0 = nt_19 := by omega
        clear et_19
        obtain ⟨ab_t_19, ao_t_19, zt_19, At_19, z_t_19, ct_19_0⟩ := Go.Proofs.Ytfjcibkgbalkaaa.HelpInt.Ints.at_ M3.out lt_19
        obtain rfl := Option.some.inj (gt_19.out.symm.trans z_t_19)
        subst At_19
        have ltt_19 := cell_lt ct_19_0
        replace ct_19_0 := cell_below HBwr0.out ct_19_0
        clear z_t_19
        have b0t_19 : (0 : Int) ≤ (k0 : Int) := by omega
        have b1t_19 : (k0 : Int) < ((route.length : Nat) : Int) := by omega
        have b2t_19 : ((k0 : Int)).toNat = k0 := by omega
        replace H := let_hid H
        obtain ⟨t_25, ht_25, H⟩ := H
        try have hv_t_25 : (list.length : Int) - 1 = t_25 := by rw [← ht_25]; exact (IntWalk.i64_in _ (by omega)).symm
        try have hv2_t_25 : IntKind.i64.wrap t_25 = t_25 := by rw [← hv_t_25]; exact IntWalk.i64_in _ (by omega)
        replace H := bind_hid H
        obtain ⟨t_26, qt_26, H⟩ := H
        go_wp2_with fail
        go_at_call 87
        refine (Go.Proofs.Ytfjcibkgbalkaaa.GiWithin.C (yt_19) (0) (t_25)  _    qt_26).mono ?_
        rintro e_t_26 wt_26 ⟨rfl, bt_26⟩
        have HBwt_26 := Lib.hid (Below.step HBwr0.out bt_26)
        replace ct_19_0 := cell_below bt_26 ct_19_0
        clear bt_26
        cases t_26 with
        | false =>
          replace H := let_hid H
          obtain ⟨t_27, ht_27, H⟩ := H
          obtain rfl : t_27 = true := ht_27.symm
          replace H := join_hid H
          replace H := ite_t H
          replace H := app_hid H
          replace H := ite_t H
          cases ret_hid H
          go_wp2_with fail
          go_ret3
          exact ⟨rfl, HBwt_26.out⟩
        | true =>
          replace H := let_hid H
          obtain ⟨t_27, ht_27, H⟩ := H
          obtain rfl : t_27 = false := ht_27.symm
          replace H := join_hid H
          replace H := ite_f H
          replace H := idx_hid H
          obtain ⟨nt_31, yt_31, et_31, lt_31, gt_31, H⟩ := H
          subst et_31
          obtain ⟨t_31_leave, t_31_from_, t_31_to_, t_31_arrive⟩ := yt_31
          replace H := unMail_hid H
          obtain ⟨ab_t_31, ao_t_31, zt_31, At_31, z_t_31, ct_31_0, ct_31_1, ct_31_2, ct_31_3⟩ := Go.Proofs.Ytfjcibkgbalkaaa.OMail.at_ M0.out lt_31
          obtain rfl := Option.some.inj (gt_31.out.symm.trans z_t_31)
          subst At_31
          have ltt_31 := cell_lt ct_31_0
          replace ct_31_0 := cell_below HBwt_26.out ct_31_0
          replace ct_31_1 := cell_below HBwt_26.out ct_31_1
          replace ct_31_2 := cell_below HBwt_26.out ct_31_2
          replace ct_31_3 := cell_below HBwt_26.out ct_31_3
          clear z_t_31
          have b0t_31 : (0 : Int) ≤ (nt_31 : Int) := by omega
          have b1t_31 : (nt_31 : Int) < ((list.length : Nat) : Int) := by omega
          have b2t_31 : ((nt_31 : Int)).toNat = nt_31 := by omega
          replace H := bind_hid H
          obtain ⟨t_35, qt_35, H⟩ := H
          go_wp2_with fail
          go_at_call 101
          refine (Go.Proofs.Ytfjcibkgbalkaaa.GiCanTake.C ((Go.Proofs.Ytfjcibkgbalkaaa.PMail.Mail.mk t_31_leave t_31_from_ t_31_to_ t_31_arrive)) (office_11l0) (end_12l0)  _    qt_35).mono ?_
          rintro e_t_35 wt_35 ⟨rfl, bt_35⟩
          have HBwt_35 := Lib.hid (Below.step HBwt_26.out bt_35)
          replace ct_19_0 := cell_below bt_35 ct_19_0
          replace ct_31_0 := cell_below bt_35 ct_31_0
          replace ct_31_1 := cell_below bt_35 ct_31_1
          replace ct_31_2 := cell_below bt_35 ct_31_2
          replace ct_31_3 := cell_below bt_35 ct_31_3
          clear bt_35
          cases t_35 with
          | false =>
            replace H := let_hid H
            obtain ⟨t_36, ht_36, H⟩ := H
            obtain rfl : t_36 = true := ht_36.symm
            replace H := app_hid H
            replace H := ite_t H
            cases ret_hid H
            go_wp2_with fail
            go_ret3
            exact ⟨rfl, HBwt_35.out⟩
          | true =>
            replace H := let_hid H
            obtain ⟨t_36, ht_36, H⟩ := H
            obtain rfl : t_36 = false := ht_36.symm
            replace H := app_hid H
            replace H := ite_f H
            go_wp2_with fail
            have Hct_19_0 := Lib.hid ct_19_0
            replace ct_19_0 := cell_regrown ct_19_0
            have Hct_31_0 := Lib.hid ct_31_0
            replace ct_31_0 := cell_regrown ct_31_0
            have Hct_31_1 := Lib.hid ct_31_1
            replace ct_31_1 := cell_regrown ct_31_1
            have Hct_31_2 := Lib.hid ct_31_2
            replace ct_31_2 := cell_regrown ct_31_2
            have Hct_31_3 := Lib.hid ct_31_3
            replace ct_31_3 := cell_regrown ct_31_3
            replace H := idx_hid H
            obtain ⟨nt_43, yt_43, et_43, lt_43, gt_43, H⟩ := H
            obtain rfl : nt_31 = nt_43 := by omega
            clear et_43
            obtain rfl := Option.some.inj (gt_31.out.symm.trans gt_43.out)
            clear gt_43 lt_43
            replace H := unMail_hid H
            replace H := idx_hid H
            obtain ⟨nt_48, yt_48, et_48, lt_48, gt_48, H⟩ := H
            obtain rfl : nt_31 = nt_48 := by omega
            clear et_48
            obtain rfl := Option.some.inj (gt_31.out.symm.trans gt_48.out)
            clear gt_48 lt_48
            replace H := unMail_hid H
            refine wp_region_quiet_below (by kernel_rfl) (by kernel_rfl) ?_
            repeat (go_big_quiet_step (fail))
            refine wpQuiet_nil ?_
            intro Y9 hY9
            replace hY9 := below_class hY9
            replace ct_19_0 := Hct_19_0.out
            clear Hct_19_0
            replace ct_31_0 := Hct_31_0.out
            clear Hct_31_0
            replace ct_31_1 := Hct_31_1.out
            clear Hct_31_1
            replace ct_31_2 := Hct_31_2.out
            clear Hct_31_2
            replace ct_31_3 := Hct_31_3.out
            clear Hct_31_3
            have HBY9 := Lib.hid (Below.step HBwt_35.out hY9)
            replace ct_19_0 := cell_below hY9 ct_19_0
            replace ct_31_0 := cell_below hY9 ct_31_0
            replace ct_31_1 := cell_below hY9 ct_31_1
            replace ct_31_2 := cell_below hY9 ct_31_2
            replace ct_31_3 := cell_below hY9 ct_31_3
            clear hY9
            replace H := app_hid H
            go_wp2_with fail
            go_roundg m0
            case measure => omega
            case rel => exact ⟨k0 + 1, _, _, by omega, by go_num, rfl, rfl, H, HBY9⟩
end Go.Proofs.Ytfjcibkgbalkaaa.GiEndOfRoute

/- loop.example/g01062/spec.l9End as a plain function, and the contract of the program's: where the plain one has an answer, the program has it. Conditions: slices read as lists. -/
namespace Go.Proofs.Ytfjcibkgbalkaaa.GsL9End
set_option linter.unusedVariables false
set_option linter.unusedSimpArgs false
open Go.RowKit
open Go.Proofs.Ytfjcibkgbalkaaa.Rowed Go.Proofs.Ytfjcibkgbalkaaa.Turn Go.Proofs.Ytfjcibkgbalkaaa.Aid Go.Proofs.Ytfjcibkgbalkaaa.GoP Go.Proofs.Ytfjcibkgbalkaaa.GoM

def l0 (list : (List Go.Proofs.Ytfjcibkgbalkaaa.PMail.Mail)) (route : (List Int)) (k0 : Nat) (s : Int × Int) (nx0 bk0 : Int × Int → Option (Int × Int × Bool)) : Option (Int × Int × Bool) :=
  unp2 s fun from_1l0 minute_2l0 =>
  Option.bind (idx route (k0 : Int)) fun (yt_10 : Int) =>
  letK (decide (yt_10 < 0)) fun (t_12 : Bool) =>
  joinK (fun (t_21 : Bool) =>
  iteK t_21
  (some (0, 0, false))
  (Option.bind (idx route (k0 : Int)) fun (yt_28 : Int) =>
  Option.bind (idx list yt_28) fun (yt_30 : Go.Proofs.Ytfjcibkgbalkaaa.PMail.Mail) =>
  unMail yt_30 fun (t_30_leave : Int) (t_30_from_ : Int) (t_30_to_ : Int) (t_30_arrive : Int) =>
  letK (t_30_from_ != from_1l0) fun (t_37 : Bool) =>
  joinK (fun (t_43 : Bool) =>
  iteK t_43
  (some (0, 0, false))
  (appK nx0 (t_30_to_, t_30_arrive))) fun jt_43 => iteK t_37 (appK jt_43 true) (letK (decide (t_30_leave < minute_2l0)) fun (t_42 : Bool) =>
  appK jt_43 t_42))) fun jt_21 => iteK t_12 (appK jt_21 true) (Option.bind (idx route (k0 : Int)) fun (yt_16 : Int) =>
  letK (decide ((list.length : Int) ≤ yt_16)) fun (t_20 : Bool) =>
  appK jt_21 t_20)

def e0  (s : Int × Int) : Option (Int × Int × Bool) :=
  unp2 s fun from_1l0 minute_2l0 =>
  some (from_1l0, minute_2l0, true)

def P (list : (List Go.Proofs.Ytfjcibkgbalkaaa.PMail.Mail)) (from_1 : Int) (minute : Int) (route : (List Int)) : Option (Int × Int × Bool) :=
  cntK (l0 list route) (route.length) 0 (from_1, minute) (e0 )

set_option maxRecDepth 100000 in
set_option maxHeartbeats 2000000 in
theorem C (list : (List Go.Proofs.Ytfjcibkgbalkaaa.PMail.Mail)) (from_1 : Int) (minute : Int) (route : (List Int)) (A0 : Option Addr) (c0 : Nat) (A3 : Option Addr) (c3 : Nat)  (w : World) (M0 : Hid (Cells w 4 A0 list.length (Go.Proofs.Ytfjcibkgbalkaaa.PMail.flat list))) (N0 : Hid (list.length ≤ 9223372036854775807)) (M3 : Hid (Cells w 1 A3 route.length (Go.Proofs.Ytfjcibkgbalkaaa.HelpInt.iv route))) (N3 : Hid (route.length ≤ 9223372036854775807))  {r0 : Int} {r1 : Int} {r2 : Bool} (H : Hid (P list from_1 minute route = some (r0, r1, r2))) :
    Calls Try.prog 105 #[.slice A0 list.length c0, .int .i64 from_1, .int .i64 minute, .slice A3 route.length c3] w (Gives (.tuple #[.int .i64 r0, .int .i64 r1, .bool r2]) w) := by
  have HB := Lib.hid (Below.refl w.heap.size w)
  unfold P at H
  have N0o := N0.out
  have N3o := N3.out
  go_enter Try.func105, Try.ntmps105
  go_wp2_with fail
  go_loopg [11, 1, 2] (route.length) (fun m_ v11_ v1_ v2_ wr => ∃ (k0 : Nat) (from_1l0 : Int) (minute_2l0 : Int), k0 + m_ = route.length ∧ v11_ = .int .i64 (k0 : Int) ∧ v1_ = .int .i64 from_1l0 ∧ v2_ = .int .i64 minute_2l0 ∧ Hid (cntK (l0 list route) m_ k0 (from_1l0, minute_2l0) (e0 ) = some (r0, r1, r2)) ∧ Hid (Below w.heap.size w wr))
  case atStart => exact ⟨0, _, _, by omega, rfl, rfl, rfl, H, HB⟩
  case round =>
    obtain ⟨k0, from_1l0, minute_2l0, hkm0, rfl, rfl, rfl, H, HBwr0⟩ := hrel
    rename World => wr0
    cases gk with
    | zero =>
      obtain rfl : k0 = route.length := by omega
      have hc0 : decide (((route.length : Nat) : Int) < ((route.length : Nat) : Int)) = false := by simp
      replace H := cnt_zero H
      unfold e0 at H
      replace H := unp2_hid H
      cases ret_hid H
      go_wp2_with fail
      go_ret3
      exact ⟨rfl, HBwr0.out⟩
    | succ m0 =>
      have hlt0 : k0 < route.length := by omega
      have hc0 : decide ((k0 : Int) < ((route.length : Nat) : Int)) = true := by simp; omega
      replace H := cnt_succ H
      unfold l0 at H
      replace H := unp2_hid H
      replace H := idx_hid H
      obtain ⟨nt_10, yt_10, et_10, lt_10, gt_10, H⟩ := H
      obtain rfl : k0 = nt_10 := by omega
      clear et_10
      obtain ⟨ab_t_10, ao_t_10, zt_10, At_10, z_t_10, ct_10_0⟩ := Go.Proofs.Ytfjcibkgbalkaaa.HelpInt.Ints.at_ M3.out lt_10
      obtain rfl := Option.some.inj (gt_10.out.symm.trans z_t_10)
      subst At_10
      have ltt_10 := cell_lt ct_10_0
      replace ct_10_0 := cell_below HBwr0.out ct_10_0
      clear z_t_10
      have b0t_10 : (0 : Int) ≤ (k0 : Int) := by omega
      have b1t_10 : (k0 : Int) < ((route.length : Nat) : Int) := by omega
      have b2t_10 : ((k0 : Int)).toNat = k0 := by omega
      replace H := let_hid H
      obtain ⟨t_12, ht_12, H⟩ := H
      replace H := join_hid H
      cases t_12 with
      | false =>
        replace H := ite_f H
        replace H := idx_hid H
        obtain ⟨nt_16, yt_16, et_16, lt_16, gt_16, H⟩ := H
        obtain rfl : k0 = nt_16 := by omega
        clear et_16
        obtain rfl := Option.some.inj (gt_10.out.symm.trans gt_16.out)
        clear gt_16 lt_16
        replace H := let_hid H
        obtain ⟨t_20, ht_20, H⟩ := H
        replace H := app_hid H
        cases t_20 with
        | false =>
          replace H := ite_f H
          replace H := idx_hid H
          obtain ⟨nt_28, yt_28, et_28, lt_28, gt_28, H⟩ := H
          obtain rfl : k0 = nt_28 := by omega
          clear et_28
          obtain rfl := Option.some.inj (gt_10.out.symm.trans gt_28.out)
          clear gt_28 lt_28
          replace H := idx_hid H
          obtain ⟨nt_30, yt_30, et_30, lt_30, gt_30, H⟩ := H
          subst et_30
          have nc_309 : ¬ (nt_30 < 0) := by have := of_decide_eq_false ht_12; omega
          have nc_310 : ¬ (list.length ≤ nt_30) := by have := of_decide_eq_false ht_20; omega
          obtain ⟨t_30_leave, t_30_from_, t_30_to_, t_30_arrive⟩ := yt_30
          replace H := unMail_hid H
          obtain ⟨ab_t_30, ao_t_30, zt_30, At_30, z_t_30, ct_30_0, ct_30_1, ct_30_2, ct_30_3⟩ := Go.Proofs.Ytfjcibkgbalkaaa.OMail.at_ M0.out lt_30
          obtain rfl := Option.some.inj (gt_30.out.symm.trans z_t_30)
          subst At_30
          have ltt_30 := cell_lt ct_30_0
          replace ct_30_0 := cell_below HBwr0.out ct_30_0
          replace ct_30_1 := cell_below HBwr0.out ct_30_1
          replace ct_30_2 := cell_below HBwr0.out ct_30_2
          replace ct_30_3 := cell_below HBwr0.out ct_30_3
          clear z_t_30
          have b0t_30 : (0 : Int) ≤ (nt_30 : Int) := by omega
          have b1t_30 : (nt_30 : Int) < ((list.length : Nat) : Int) := by omega
          have b2t_30 : ((nt_30 : Int)).toNat = nt_30 := by omega
          obtain ⟨w_x_32, hw_x_32⟩ : ∃ x, wr0.alloc (.cells #[.int .i64 t_30_leave, .int .i64 t_30_from_, .int .i64 t_30_to_, .int .i64 t_30_arrive] 95) = x := ⟨_, rfl⟩
          have bw_x_32 : Below wr0.heap.size wr0 w_x_32 := by rw [← hw_x_32]; exact (Below.refl _ _).alloc (Nat.le_refl _) _
          have HBw_x_32 := Lib.hid (Below.step HBwr0.out bw_x_32)
          have ct_10_0__311 := cell_below bw_x_32 ct_10_0
          have ct_30_0__312 := cell_below bw_x_32 ct_30_0
          have ct_30_1__313 := cell_below bw_x_32 ct_30_1
          have ct_30_2__314 := cell_below bw_x_32 ct_30_2
          have ct_30_3__315 := cell_below bw_x_32 ct_30_3
          clear bw_x_32
          have kx_32_0 : w_x_32.cell? ⟨wr0.heap.size, 0, none⟩ = some (.int .i64 t_30_leave) := by rw [← hw_x_32]; exact box_new _ _ _ 0 _ rfl
          have kx_32_1 : w_x_32.cell? ⟨wr0.heap.size, 1, none⟩ = some (.int .i64 t_30_from_) := by rw [← hw_x_32]; exact box_new _ _ _ 1 _ rfl
          have kx_32_2 : w_x_32.cell? ⟨wr0.heap.size, 2, none⟩ = some (.int .i64 t_30_to_) := by rw [← hw_x_32]; exact box_new _ _ _ 2 _ rfl
          have kx_32_3 : w_x_32.cell? ⟨wr0.heap.size, 3, none⟩ = some (.int .i64 t_30_arrive) := by rw [← hw_x_32]; exact box_new _ _ _ 3 _ rfl
          replace H := let_hid H
          obtain ⟨t_37, ht_37, H⟩ := H
          replace H := join_hid H
          cases t_37 with
          | false =>
            replace H := ite_f H
            replace H := let_hid H
            obtain ⟨t_42, ht_42, H⟩ := H
            replace H := app_hid H
            cases t_42 with
            | false =>
              replace H := ite_f H
              replace H := app_hid H
              go_wp2_with fail
              clear ct_10_0 ct_30_0 ct_30_1 ct_30_2 ct_30_3
              go_roundg m0
              case measure => omega
              case rel => exact ⟨k0 + 1, _, _, by omega, by go_num, rfl, rfl, H, HBw_x_32⟩
            | true =>
              replace H := ite_t H
              cases ret_hid H
              go_wp2_with fail
              go_ret3
              exact ⟨rfl, HBw_x_32.out⟩
          | true =>
            replace H := ite_t H
            replace H := app_hid H
            replace H := ite_t H
            cases ret_hid H
            go_wp2_with fail
            go_ret3
            exact ⟨rfl, HBw_x_32.out⟩
        | true =>
          replace H := ite_t H
          cases ret_hid H
          go_wp2_with fail
          go_ret3
          exact ⟨rfl, HBwr0.out⟩
      | true =>
        replace H := ite_t H
        replace H := app_hid H
        replace H := ite_t H
        cases ret_hid H
        go_wp2_with fail
        go_ret3
        exact ⟨rfl, HBwr0.out⟩
end Go.Proofs.Ytfjcibkgbalkaaa.GsL9End

/- loop.example/g01062/spec.EndOfRoute as a plain function, and the contract of the program's: where the plain one has an answer, the program has it. Conditions: slices read as lists. -/
namespace Go.Proofs.Ytfjcibkgbalkaaa.GsEndOfRoute
set_option linter.unusedVariables false
set_option linter.unusedSimpArgs false
open Go.RowKit
open Go.Proofs.Ytfjcibkgbalkaaa.Rowed Go.Proofs.Ytfjcibkgbalkaaa.Turn Go.Proofs.Ytfjcibkgbalkaaa.Aid Go.Proofs.Ytfjcibkgbalkaaa.GoP Go.Proofs.Ytfjcibkgbalkaaa.GoM

def P (list : (List Go.Proofs.Ytfjcibkgbalkaaa.PMail.Mail)) (from_1 : Int) (minute : Int) (route : (List Int)) : Option (Int × Int × Bool) :=
  Option.bind (Go.Proofs.Ytfjcibkgbalkaaa.GsL9Asked.P list from_1 minute) fun (t_6 : Bool) =>
  letK (!t_6) fun (t_7 : Bool) =>
  iteK t_7
  (some (0, 0, false))
  (bind3 (Go.Proofs.Ytfjcibkgbalkaaa.GsL9End.P list from_1 minute route) fun (t_15a : Int) (t_15b : Int) (t_15c : Bool) =>
  some (t_15a, t_15b, t_15c))

set_option maxRecDepth 100000 in
set_option maxHeartbeats 2000000 in
theorem C (list : (List Go.Proofs.Ytfjcibkgbalkaaa.PMail.Mail)) (from_1 : Int) (minute : Int) (route : (List Int)) (A0 : Option Addr) (c0 : Nat) (A3 : Option Addr) (c3 : Nat)  (w : World) (M0 : Hid (Cells w 4 A0 list.length (Go.Proofs.Ytfjcibkgbalkaaa.PMail.flat list))) (N0 : Hid (list.length ≤ 9223372036854775807)) (M3 : Hid (Cells w 1 A3 route.length (Go.Proofs.Ytfjcibkgbalkaaa.HelpInt.iv route))) (N3 : Hid (route.length ≤ 9223372036854775807))  {r0 : Int} {r1 : Int} {r2 : Bool} (H : Hid (P list from_1 minute route = some (r0, r1, r2))) :
    Calls Try.prog 44 #[.slice A0 list.length c0, .int .i64 from_1, .int .i64 minute, .slice A3 route.length c3] w (Gives (.tuple #[.int .i64 r0, .int .i64 r1, .bool r2]) w) := by
  have HB := Lib.hid (Below.refl w.heap.size w)
  unfold P at H
  have N0o := N0.out
  have N3o := N3.out
  go_enter Try.func44, Try.ntmps44
  replace H := bind_hid H
  obtain ⟨t_6, qt_6, H⟩ := H
  go_wp2_with fail
  go_at_call 99
  refine (Go.Proofs.Ytfjcibkgbalkaaa.GsL9Asked.C (list) (from_1) (minute) A0 c0 _   (Lib.hid (Cells.below M0.out HB.out)) N0 qt_6).mono ?_
  rintro e_t_6 wt_6 ⟨rfl, bt_6⟩
  have HBwt_6 := Lib.hid (Below.step HB.out bt_6)
  clear bt_6
  cases t_6 with
  | false =>
    replace H := let_hid H
    obtain ⟨t_7, ht_7, H⟩ := H
    obtain rfl : t_7 = true := ht_7.symm
    replace H := ite_t H
    cases ret_hid H
    go_wp2_with fail
    go_ret3
    exact ⟨rfl, HBwt_6.out⟩
  | true =>
    replace H := let_hid H
    obtain ⟨t_7, ht_7, H⟩ := H
    obtain rfl : t_7 = false := ht_7.symm
    replace H := ite_f H
    replace H := bind3_hid H
    obtain ⟨t_15a, t_15b, t_15c, qt_15, H⟩ := H
    go_wp2_with fail
    go_at_call 105
    refine (Go.Proofs.Ytfjcibkgbalkaaa.GsL9End.C (list) (from_1) (minute) (route) A0 c0 A3 c3 _   (Lib.hid (Cells.below M0.out HBwt_6.out)) N0 (Lib.hid (Cells.below M3.out HBwt_6.out)) N3 qt_15).mono ?_
    rintro e_t_15 wt_15 ⟨rfl, bt_15⟩
    have HBwt_15 := Lib.hid (Below.step HBwt_6.out bt_15)
    clear bt_15
    cases ret_hid H
    go_wp2_with fail
    go_ret3
    exact ⟨rfl, HBwt_15.out⟩
end Go.Proofs.Ytfjcibkgbalkaaa.GsEndOfRoute

/- loop.example/g01062/impl.IsRoute as a plain function, and the contract of the program's: where the plain one has an answer, the program has it. Conditions: slices read as lists. -/
namespace Go.Proofs.Ytfjcibkgbalkaaa.GiIsRoute
set_option linter.unusedVariables false
set_option linter.unusedSimpArgs false
open Go.RowKit
open Go.Proofs.Ytfjcibkgbalkaaa.Rowed Go.Proofs.Ytfjcibkgbalkaaa.Turn Go.Proofs.Ytfjcibkgbalkaaa.Aid Go.Proofs.Ytfjcibkgbalkaaa.GoP Go.Proofs.Ytfjcibkgbalkaaa.GoM

def P (list : (List Go.Proofs.Ytfjcibkgbalkaaa.PMail.Mail)) (from_1 : Int) (minute : Int) (route : (List Int)) : Option (Bool × Bool) :=
  Option.bind (Go.Proofs.Ytfjcibkgbalkaaa.GiCanBegin.P list from_1 minute) fun (t_5 : Bool) =>
  letK (!t_5) fun (t_6 : Bool) =>
  joinK (fun (t_11 : Bool) =>
  iteK t_11
  (some (false, false))
  (bind3 (Go.Proofs.Ytfjcibkgbalkaaa.GiEndOfRoute.P list from_1 minute route) fun (t_18a : Int) (t_18b : Int) (t_18c : Bool) =>
  some (t_18c, true))) fun jt_11 => iteK t_6 (appK jt_11 true) (letK (decide (20 < (route.length : Int))) fun (t_10 : Bool) =>
  appK jt_11 t_10)

set_option maxRecDepth 100000 in
set_option maxHeartbeats 2000000 in
theorem C (list : (List Go.Proofs.Ytfjcibkgbalkaaa.PMail.Mail)) (from_1 : Int) (minute : Int) (route : (List Int)) (A0 : Option Addr) (c0 : Nat) (A3 : Option Addr) (c3 : Nat)  (w : World) (M0 : Hid (Cells w 4 A0 list.length (Go.Proofs.Ytfjcibkgbalkaaa.PMail.flat list))) (N0 : Hid (list.length ≤ 9223372036854775807)) (M3 : Hid (Cells w 1 A3 route.length (Go.Proofs.Ytfjcibkgbalkaaa.HelpInt.iv route))) (N3 : Hid (route.length ≤ 9223372036854775807))  {r0 : Bool} {r1 : Bool} (H : Hid (P list from_1 minute route = some (r0, r1))) :
    Calls Try.prog 42 #[.slice A0 list.length c0, .int .i64 from_1, .int .i64 minute, .slice A3 route.length c3] w (Gives (.tuple #[.bool r0, .bool r1]) w) := by
  have HB := Lib.hid (Below.refl w.heap.size w)
  unfold P at H
  have N0o := N0.out
  have N3o := N3.out
  go_enter Try.func42, Try.ntmps42
  replace H := bind_hid H
  obtain ⟨t_5, qt_5, H⟩ := H
  go_wp2_with fail
  go_at_call 96
  refine (Go.Proofs.Ytfjcibkgbalkaaa.GiCanBegin.C (list) (from_1) (minute) A0 c0 _   (Lib.hid (Cells.below M0.out HB.out)) N0 qt_5).mono ?_
  rintro e_t_5 wt_5 ⟨rfl, bt_5⟩
  have HBwt_5 := Lib.hid (Below.step HB.out bt_5)
  clear bt_5
  cases t_5 with
  | false =>
    replace H := let_hid H
    obtain ⟨t_6, ht_6, H⟩ := H
    obtain rfl : t_6 = true := ht_6.symm
    replace H := join_hid H
    replace H := ite_t H
    replace H := app_hid H
    replace H := ite_t H
    cases ret_hid H
    go_wp2_with fail
    go_ret2
    exact ⟨rfl, HBwt_5.out⟩
  | true =>
    replace H := let_hid H
    obtain ⟨t_6, ht_6, H⟩ := H
    obtain rfl : t_6 = false := ht_6.symm
    replace H := join_hid H
    replace H := ite_f H
    replace H := let_hid H
    obtain ⟨t_10, ht_10, H⟩ := H
    replace H := app_hid H
    cases t_10 with
    | false =>
      have nht_10 : ¬ (20 < route.length) := by have := of_decide_eq_false ht_10; omega
      replace H := ite_f H
      replace H := bind3_hid H
      obtain ⟨t_18a, t_18b, t_18c, qt_18, H⟩ := H
      go_wp2_with fail
      go_at_call 38
      refine (Go.Proofs.Ytfjcibkgbalkaaa.GiEndOfRoute.C (list) (from_1) (minute) (route) A0 c0 A3 c3 _   (Lib.hid (Cells.below M0.out HBwt_5.out)) N0 (Lib.hid (Cells.below M3.out HBwt_5.out)) N3 qt_18).mono ?_
      rintro e_t_18 wt_18 ⟨rfl, bt_18⟩
      have HBwt_18 := Lib.hid (Below.step HBwt_5.out bt_18)
      clear bt_18
      cases ret_hid H
      go_wp2_with fail
      go_ret2
      exact ⟨rfl, HBwt_18.out⟩
    | true =>
      have nht_10 : 20 < route.length := by have := of_decide_eq_true ht_10; omega
      replace H := ite_t H
      cases ret_hid H
      go_wp2_with fail
      go_ret2
      exact ⟨rfl, HBwt_5.out⟩
end Go.Proofs.Ytfjcibkgbalkaaa.GiIsRoute

/- loop.example/g01062/spec.IsRoute as a plain function, and the contract of the program's: where the plain one has an answer, the program has it. Conditions: slices read as lists. -/
namespace Go.Proofs.Ytfjcibkgbalkaaa.GsIsRoute
set_option linter.unusedVariables false
set_option linter.unusedSimpArgs false
open Go.RowKit
open Go.Proofs.Ytfjcibkgbalkaaa.Rowed Go.Proofs.Ytfjcibkgbalkaaa.Turn Go.Proofs.Ytfjcibkgbalkaaa.Aid Go.Proofs.Ytfjcibkgbalkaaa.GoP Go.Proofs.Ytfjcibkgbalkaaa.GoM

def P (list : (List Go.Proofs.Ytfjcibkgbalkaaa.PMail.Mail)) (from_1 : Int) (minute : Int) (route : (List Int)) : Option (Bool × Bool) :=
  Option.bind (Go.Proofs.Ytfjcibkgbalkaaa.GsL9Asked.P list from_1 minute) fun (t_5 : Bool) =>
  letK (!t_5) fun (t_6 : Bool) =>
  joinK (fun (t_11 : Bool) =>
  iteK t_11
  (some (false, false))
  (bind3 (Go.Proofs.Ytfjcibkgbalkaaa.GsL9End.P list from_1 minute route) fun (t_18a : Int) (t_18b : Int) (t_18c : Bool) =>
  some (t_18c, true))) fun jt_11 => iteK t_6 (appK jt_11 true) (letK (decide (20 < (route.length : Int))) fun (t_10 : Bool) =>
  appK jt_11 t_10)

set_option maxRecDepth 100000 in
set_option maxHeartbeats 2000000 in
theorem C (list : (List Go.Proofs.Ytfjcibkgbalkaaa.PMail.Mail)) (from_1 : Int) (minute : Int) (route : (List Int)) (A0 : Option Addr) (c0 : Nat) (A3 : Option Addr) (c3 : Nat)  (w : World) (M0 : Hid (Cells w 4 A0 list.length (Go.Proofs.Ytfjcibkgbalkaaa.PMail.flat list))) (N0 : Hid (list.length ≤ 9223372036854775807)) (M3 : Hid (Cells w 1 A3 route.length (Go.Proofs.Ytfjcibkgbalkaaa.HelpInt.iv route))) (N3 : Hid (route.length ≤ 9223372036854775807))  {r0 : Bool} {r1 : Bool} (H : Hid (P list from_1 minute route = some (r0, r1))) :
    Calls Try.prog 43 #[.slice A0 list.length c0, .int .i64 from_1, .int .i64 minute, .slice A3 route.length c3] w (Gives (.tuple #[.bool r0, .bool r1]) w) := by
  have HB := Lib.hid (Below.refl w.heap.size w)
  unfold P at H
  have N0o := N0.out
  have N3o := N3.out
  go_enter Try.func43, Try.ntmps43
  replace H := bind_hid H
  obtain ⟨t_5, qt_5, H⟩ := H
  go_wp2_with fail
  go_at_call 99
  refine (Go.Proofs.Ytfjcibkgbalkaaa.GsL9Asked.C (list) (from_1) (minute) A0 c0 _   (Lib.hid (Cells.below M0.out HB.out)) N0 qt_5).mono ?_
  rintro e_t_5 wt_5 ⟨rfl, bt_5⟩
  have HBwt_5 := Lib.hid (Below.step HB.out bt_5)
  clear bt_5
  cases t_5 with
  | false =>
    replace H := let_hid H
    obtain ⟨t_6, ht_6, H⟩ := H
    obtain rfl : t_6 = true := ht_6.symm
    replace H := join_hid H
    replace H := ite_t H
    replace H := app_hid H
    replace H := ite_t H
    cases ret_hid H
    go_wp2_with fail
    go_ret2
    exact ⟨rfl, HBwt_5.out⟩
  | true =>
    replace H := let_hid H
    obtain ⟨t_6, ht_6, H⟩ := H
    obtain rfl : t_6 = false := ht_6.symm
    replace H := join_hid H
    replace H := ite_f H
    replace H := let_hid H
    obtain ⟨t_10, ht_10, H⟩ := H
    replace H := app_hid H
    cases t_10 with
    | false =>
      have nht_10 : ¬ (20 < route.length) := by have := of_decide_eq_false ht_10; omega
      replace H := ite_f H
      replace H := bind3_hid H
      obtain ⟨t_18a, t_18b, t_18c, qt_18, H⟩ := H
      go_wp2_with fail
      go_at_call 105
      refine (Go.Proofs.Ytfjcibkgbalkaaa.GsL9End.C (list) (from_1) (minute) (route) A0 c0 A3 c3 _   (Lib.hid (Cells.below M0.out HBwt_5.out)) N0 (Lib.hid (Cells.below M3.out HBwt_5.out)) N3 qt_18).mono ?_
      rintro e_t_18 wt_18 ⟨rfl, bt_18⟩
      have HBwt_18 := Lib.hid (Below.step HBwt_5.out bt_18)
      clear bt_18
      cases ret_hid H
      go_wp2_with fail
      go_ret2
      exact ⟨rfl, HBwt_18.out⟩
    | true =>
      have nht_10 : 20 < route.length := by have := of_decide_eq_true ht_10; omega
      replace H := ite_t H
      cases ret_hid H
      go_wp2_with fail
      go_ret2
      exact ⟨rfl, HBwt_5.out⟩
end Go.Proofs.Ytfjcibkgbalkaaa.GsIsRoute

/- Chapter 9: mails and routes: the plain functions of the program and of the reference agree, and the laws answer true. (Q9End) No condition but those of each theorem. -/
namespace Go.Proofs.Ytfjcibkgbalkaaa.Q9End
set_option linter.unusedVariables false
set_option linter.unusedSimpArgs false
open Go.RowKit
open Go.Proofs.Ytfjcibkgbalkaaa.GoP Go.Proofs.Ytfjcibkgbalkaaa.PlainStamp Go.Proofs.Ytfjcibkgbalkaaa.QBase Go.Proofs.Ytfjcibkgbalkaaa.Q9Drop Go.Proofs.Ytfjcibkgbalkaaa.Q9List Go.Proofs.Ytfjcibkgbalkaaa.Q9Mail Go.Proofs.Ytfjcibkgbalkaaa.QLoop Go.Proofs.Ytfjcibkgbalkaaa.PMail

/-- where a list of numbers ends, if it is a route -/
def endF (l : List Mail) : List Int → Int → Int → Option (Int × Int)
  | [], o, m => some (o, m)
  | i :: r, o, m => if 0 ≤ i then (match l[i.toNat]? with | none => none | some x => if x.from_ = o ∧ m ≤ x.leave then endF l r x.to_ x.arrive else none) else none
def endRes (l : List Mail) (r : List Int) (s : Int × Int) : Option (Int × Int × Bool) := some (match endF l r s.1 s.2 with | none => (0, 0, false) | some (a, b) => (a, b, true))
theorem canTake_eq (x : Mail) (o m : Int) : GiCanTake.P x o m = some (decide (x.from_ = o ∧ m ≤ x.leave)) := by
  obtain ⟨a, b, c, d⟩ := x
  simp only [GiCanTake.P, unMail, letK, joinK, appK, iteK_if]
  by_cases h1 : b = o <;> by_cases h2 : m ≤ a <;> simp [h1, h2]
theorem end_loop (l : List Mail) (hl : l.length ≤ 9223372036854775807) (r : List Int) (s : Int × Int) : cntK (GiEndOfRoute.l0 l r) r.length 0 s GiEndOfRoute.e0 = endRes l r s := by
  refine cnt_drop (endRes l) (fun s => rfl) (fun k i s nx hi hn => ?_) s
  obtain ⟨o, m⟩ := s
  have hx : idx r (k : Int) = some i := by rw [idx_nat, hi]
  simp only [GiEndOfRoute.l0, unp2_mk, hx, Option.bind_some, letK, within_eq, canTake_eq, joinK, appK, iteK_if]
  rw [wrap_in (by omega) (by omega)]
  unfold endRes
  simp only [endF]
  by_cases h0 : 0 ≤ i
  · by_cases h1 : i ≤ (l.length : Int) - 1
    · have hb : inB i 0 ((l.length : Int) - 1) = true := by unfold inB; simp [h0, h1]
      have hk : i.toNat < l.length := by omega
      have hl2 : l[i.toNat]? = some l[i.toNat] := List.getElem?_eq_getElem hk
      have hl3 : idx l i = some l[i.toNat] := by unfold idx; rw [if_pos h0, hl2]
      rw [hb, hl3, hl2]
      generalize l[i.toNat] = x
      obtain ⟨a, b, c, d⟩ := x
      simp only [Option.bind_some, unMail, Bool.not_true, Bool.false_eq_true, if_false, if_pos h0, hn]
      by_cases hc : b = o ∧ m ≤ a
      · simp [hc, endRes]
      · simp [hc]
    · have hb : inB i 0 ((l.length : Int) - 1) = false := by unfold inB; simp [h1]
      have hl2 : l[i.toNat]? = none := List.getElem?_eq_none (by omega)
      rw [hb, hl2, if_pos h0]; rfl
  · have hb : inB i 0 ((l.length : Int) - 1) = false := by unfold inB; simp [h0]
    rw [hb, if_neg h0]; rfl
theorem l9End_eq (l : List Mail) (r : List Int) (o m : Int) : GsL9End.P l o m r = endRes l r (o, m) := by
  simp only [GsL9End.P]
  refine cnt_drop (endRes l) (fun s => rfl) (fun k i s nx hi hn => ?_) _
  obtain ⟨o, m⟩ := s
  have hx : idx r (k : Int) = some i := by rw [idx_nat, hi]
  simp only [GsL9End.l0, unp2_mk, hx, Option.bind_some, letK, joinK, appK, iteK_if]
  unfold endRes
  simp only [endF]
  by_cases h0 : 0 ≤ i
  · have h0' : ¬ i < 0 := by omega
    by_cases h1 : i < (l.length : Int)
    · have hk : i.toNat < l.length := by omega
      have hl2 : l[i.toNat]? = some l[i.toNat] := List.getElem?_eq_getElem hk
      have hl3 : idx l i = some l[i.toNat] := by unfold idx; rw [if_pos h0, hl2]
      have h1' : ¬ (l.length : Int) ≤ i := by omega
      rw [hl3, hl2]
      generalize l[i.toNat] = x
      obtain ⟨a, b, c, d⟩ := x
      simp only [Option.bind_some, unMail, if_pos h0, hn, decide_eq_false h0', decide_eq_false h1', Bool.false_eq_true, if_false]
      by_cases hb : b = o
      · by_cases hc : m ≤ a
        · have : ¬ a < m := by omega
          simp [hb, hc, this, endRes]
        · have : a < m := by omega
          simp [hb, hc, this]
      · simp [hb]
    · have hl2 : l[i.toNat]? = none := List.getElem?_eq_none (by omega)
      have h1' : (l.length : Int) ≤ i := by omega
      rw [hl2, if_pos h0]
      simp [h0', h1']
  · have h0' : i < 0 := by omega
    simp [h0', h0]
def endA (l : List Mail) (o m : Int) (r : List Int) : Int × Int × Bool := if askM l o m = true then (match endF l r o m with | none => (0, 0, false) | some (a, b) => (a, b, true)) else (0, 0, false)
theorem end_impl (l : List Mail) (hl : l.length ≤ 9223372036854775807) (o m : Int) (r : List Int) : GiEndOfRoute.P l o m r = some (endA l o m r) := by
  simp only [GiEndOfRoute.P, canBegin_eq l hl, Option.bind_some, letK, iteK_if, end_loop l hl, endA, endRes]
  cases askM l o m <;> rfl
theorem end_spec (l : List Mail) (hl : l.length ≤ 9223372036854775807) (o m : Int) (r : List Int) : GsEndOfRoute.P l o m r = some (endA l o m r) := by
  simp only [GsEndOfRoute.P, l9Asked_eq l hl, Option.bind_some, letK, iteK_if, l9End_eq, endA, endRes]
  cases askM l o m with
  | false => rfl
  | true =>
    cases endF l r o m with
    | none => rfl
    | some p => rfl
def isRt (l : List Mail) (o m : Int) (r : List Int) : Bool × Bool := if askM l o m = true ∧ r.length ≤ 20 then ((endF l r o m).isSome, true) else (false, false)
theorem rt_impl (l : List Mail) (hl : l.length ≤ 9223372036854775807) (o m : Int) (r : List Int) : GiIsRoute.P l o m r = some (isRt l o m r) := by
  simp only [GiIsRoute.P, canBegin_eq l hl, end_impl l hl, Option.bind_some, letK, joinK, appK, iteK_if, isRt, endA]
  cases askM l o m with
  | false => simp
  | true =>
    by_cases hr : r.length ≤ 20
    · have h2 : ¬ (20 : Int) < (r.length : Int) := by omega
      simp only [Bool.not_true, Bool.false_eq_true, if_false, decide_eq_false h2, if_true, hr, and_self]
      cases endF l r o m with
      | none => rfl
      | some p => rfl
    · have h2 : (20 : Int) < (r.length : Int) := by omega
      simp [hr, h2]
theorem rt_spec (l : List Mail) (hl : l.length ≤ 9223372036854775807) (o m : Int) (r : List Int) : GsIsRoute.P l o m r = some (isRt l o m r) := by
  simp only [GsIsRoute.P, l9Asked_eq l hl, l9End_eq, Option.bind_some, letK, joinK, appK, iteK_if, isRt, endRes]
  cases askM l o m with
  | false => simp
  | true =>
    by_cases hr : r.length ≤ 20
    · have h2 : ¬ (20 : Int) < (r.length : Int) := by omega
      simp only [Bool.not_true, Bool.false_eq_true, if_false, decide_eq_false h2, if_true, hr, and_self]
      cases endF l r o m with
      | none => rfl
      | some p => rfl
    · have h2 : (20 : Int) < (r.length : Int) := by omega
      simp [hr, h2]
end Go.Proofs.Ytfjcibkgbalkaaa.Q9End

/- Chapter 9: mails and routes: the plain functions of the program and of the reference agree, and the laws answer true. (Q9Best) No condition but those of each theorem. -/
namespace Go.Proofs.Ytfjcibkgbalkaaa.Q9Best
set_option linter.unusedVariables false
set_option linter.unusedSimpArgs false
open Go.RowKit
open Go.Proofs.Ytfjcibkgbalkaaa.GoP Go.Proofs.Ytfjcibkgbalkaaa.PlainStamp Go.Proofs.Ytfjcibkgbalkaaa.QBase Go.Proofs.Ytfjcibkgbalkaaa.Q9Late Go.Proofs.Ytfjcibkgbalkaaa.Q9Early Go.Proofs.Ytfjcibkgbalkaaa.Q9At Go.Proofs.Ytfjcibkgbalkaaa.QFoldS Go.Proofs.Ytfjcibkgbalkaaa.Q9Drop Go.Proofs.Ytfjcibkgbalkaaa.Q9End Go.Proofs.Ytfjcibkgbalkaaa.Q9Cand Go.Proofs.Ytfjcibkgbalkaaa.Q9Dual Go.Proofs.Ytfjcibkgbalkaaa.Q9Arr Go.Proofs.Ytfjcibkgbalkaaa.Q9List Go.Proofs.Ytfjcibkgbalkaaa.Q9Mail Go.Proofs.Ytfjcibkgbalkaaa.QUp Go.Proofs.Ytfjcibkgbalkaaa.QAll Go.Proofs.Ytfjcibkgbalkaaa.QLoop Go.Proofs.Ytfjcibkgbalkaaa.PMail Go.Proofs.Ytfjcibkgbalkaaa.PIntA10 Go.Proofs.Ytfjcibkgbalkaaa.GoA

/-- the round of both: the first mail that leads on, or the end -/
theorem both {l : List Mail} (hg : goodM l = true) {p e : Int} (hp : 0 ≤ p ∧ p ≤ 9) (he : 0 ≤ e ∧ e ≤ 9999) : ∀ (fuel : Nat) (o m : Int) (acc : List Int), (0 ≤ o ∧ o ≤ 9) → (0 ≤ m ∧ m ≤ e) → at_ (earlyM l o m) p = e → (acc.length : Int) ≤ m → e - m < (fuel : Int) →
    ∃ r, loopK (GiFirstRoute.l0 l (lateM l p e)) fuel (o, m, acc) GiFirstRoute.e0 = some (acc ++ r) ∧ loopK (GsBestRoute.l0 l p e) fuel (o, m, acc) GsBestRoute.e0 = some (acc ++ r, true) ∧ endF l r o m = some (p, e) ∧ (r.length : Int) ≤ e - m := by
  intro fuel
  induction fuel with
  | zero => intro o m acc _ _ _ _ hf; omega
  | succ n ih =>
    intro o m acc ho hm hE hacc hf
    have hlen := m_len hg
    have step : ∀ (k : Nat) (x : Mail), l[k]? = some x → cand l p e o m x = true → ∃ r, loopK (GiFirstRoute.l0 l (lateM l p e)) n (x.to_, x.arrive, acc ++ [(k : Int)]) GiFirstRoute.e0 = some (acc ++ [(k : Int)] ++ r) ∧ loopK (GsBestRoute.l0 l p e) n (x.to_, x.arrive, acc ++ [(k : Int)]) GsBestRoute.e0 = some (acc ++ [(k : Int)] ++ r, true) ∧ endF l r x.to_ x.arrive = some (p, e) ∧ (r.length : Int) ≤ e - x.arrive ∧ x.from_ = o ∧ m ≤ x.leave ∧ x.leave < x.arrive := by
      intro k x hx hc
      have hx1 := okM_of (m_ok hg hx)
      rw [cand_iff hg hp hm.1 he.2 hE hx] at hc
      obtain ⟨h1, h2, h3⟩ := of_decide_eq_true hc
      have h4 := early_low hg hx1.2.1 (m := x.arrive) (by omega) hp
      obtain ⟨r, r1, r2, r3, r4⟩ := ih x.to_ x.arrive (acc ++ [(k : Int)]) hx1.2.1 (by omega) h3 (by simp; omega) (by omega)
      exact ⟨r, r1, r2, r3, r4, h1, h2, hx1.2.2.2.2.1⟩
    -- a round of the program's inner loop
    have inner1 : ∀ (k : Nat) nx, k < l.length → (match l[k]? with | none => false | some x => cand l p e o m x) = false → GiFirstRoute.l1 l (lateM l p e) (fun s' => loopK (GiFirstRoute.l0 l (lateM l p e)) n s' GiFirstRoute.e0) k (o, m, acc) nx GiFirstRoute.e1 = nx (o, m, acc) := by
      intro k nx hk hc
      have hx : l[k]? = some l[k] := List.getElem?_eq_getElem hk
      have hi : idx l (k : Int) = some l[k] := by rw [idx_nat, hx]
      have hx1 := okM_of (m_ok hg hx)
      rw [hx] at hc
      try dsimp only at hc
      revert hi hx1 hc
      generalize l[k] = x
      intro hc hi hx1
      obtain ⟨a, b, c, d⟩ := x
      try dsimp only at hx1
      unfold cand at hc
      have hc2 := of_decide_eq_false hc
      try dsimp only at hc2
      simp only [GiFirstRoute.l1, unp3_mk, hi, Option.bind_some, unMail, canTake_eq, joinK, appK, iteK_if, idx_at (late_len l p e) hx1.2.1, letK]
      by_cases h1 : b = o ∧ m ≤ a
      · have h2 : ¬ d ≤ at_ (lateM l p e) c := fun q => hc2 ⟨h1.1, h1.2, q⟩
        simp [h1, h2]
      · simp [h1]
    have inner2 : ∀ (k : Nat) nx, k < l.length → (match l[k]? with | none => false | some x => cand l p e o m x) = false → GsBestRoute.l1 l p e k (o, m, acc) nx (GsBestRoute.e1 (fun s' => loopK (GsBestRoute.l0 l p e) n s' GsBestRoute.e0)) = nx (o, m, acc) := by
      intro k nx hk hc
      have hx : l[k]? = some l[k] := List.getElem?_eq_getElem hk
      have hi : idx l (k : Int) = some l[k] := by rw [idx_nat, hx]
      have hx1 := okM_of (m_ok hg hx)
      have hci := cand_iff hg hp hm.1 he.2 hE hx
      rw [hx] at hc
      try dsimp only at hc
      rw [hci] at hc
      revert hi hx1 hc
      generalize l[k] = x
      intro hc hi hx1
      obtain ⟨a, b, c, d⟩ := x
      try dsimp only at hx1
      have hc2 := of_decide_eq_false hc
      try dsimp only at hc2
      simp only [GsBestRoute.l1, unp3_mk, hi, Option.bind_some, unMail, joinK, appK, iteK_if, letK, times_eq hg hx1.2.1, idx_at (early_len l c d) hp]
      by_cases h1 : b = o
      · by_cases h2 : m ≤ a
        · have h3 : ¬ at_ (earlyM l c d) p = e := fun q => hc2 ⟨h1, h2, q⟩
          simp [h1, h2, h3]
        · simp [h1, h2]
      · simp [h1]
    show ∃ r, GiFirstRoute.l0 l (lateM l p e) (o, m, acc) (fun s' => loopK (GiFirstRoute.l0 l (lateM l p e)) n s' GiFirstRoute.e0) GiFirstRoute.e0 = some (acc ++ r) ∧ GsBestRoute.l0 l p e (o, m, acc) (fun s' => loopK (GsBestRoute.l0 l p e) n s' GsBestRoute.e0) GsBestRoute.e0 = some (acc ++ r, true) ∧ _
    have hnone := cand_none hg hp ho hm.1 he.2 hE (by omega)
    rcases first_or (fun k => match l[k]? with | none => false | some x => cand l p e o m x) l.length with h | ⟨k, hk, hk2, hk3⟩
    · have hend := hnone.1 (fun x hx => by
        obtain ⟨k, hk⟩ := List.getElem?_of_mem hx
        have := h k (List.getElem?_eq_some_iff.1 hk).1
        rw [hk] at this; exact this)
      obtain ⟨rfl, rfl⟩ := hend
      refine ⟨[], ?_, ?_, rfl, by simp⟩
      · simp only [GiFirstRoute.l0, unp3_mk]
        rw [cnt_none inner1 h]; simp [GiFirstRoute.e1, unp3_mk]
      · simp [GsBestRoute.l0, unp3_mk, letK, joinK, appK, iteK_if, GsBestRoute.e0]
    · have hx : l[k]? = some l[k] := List.getElem?_eq_getElem hk
      have hi : idx l (k : Int) = some l[k] := by rw [idx_nat, hx]
      have hx1 := okM_of (m_ok hg hx)
      have hci := cand_iff hg hp hm.1 he.2 hE hx
      rw [hx] at hk2
      try dsimp only at hk2
      obtain ⟨r, r1, r2, r3, r4, r5, r6, r7⟩ := step k l[k] hx hk2
      refine ⟨(k : Int) :: r, ?_, ?_, ?_, ?_⟩
      · rw [show acc ++ (k : Int) :: r = acc ++ [(k : Int)] ++ r by simp]
        simp only [GiFirstRoute.l0, unp3_mk]
        refine cnt_first (p := fun k => match l[k]? with | none => false | some x => cand l p e o m x) hk (fun k nx h1 h2 => inner1 k nx (by omega) h2) hk3 (fun nx => ?_)
        rw [← r1]
        unfold cand at hk2
        have hc2 := of_decide_eq_true hk2
        clear r1 r2 r3 r4 hk2 hci hx
        revert hi hx1 hc2
        generalize l[k] = x
        intro hi hx1 hc2
        obtain ⟨a, b, c, d⟩ := x
        dsimp only at hx1 hc2
        simp only [GiFirstRoute.l1, unp3_mk, hi, Option.bind_some, unMail, canTake_eq, joinK, appK, iteK_if, idx_at (late_len l p e) hx1.2.1, letK]
        rw [guardK_pos (by omega)]
        simp [hc2]
      · rw [show acc ++ (k : Int) :: r = acc ++ [(k : Int)] ++ r by simp]
        have hne : ¬ (o = p ∧ m = e) := by
          intro q
          have := hnone.2 q l[k] (List.mem_of_getElem? hx)
          rw [this] at hk2; exact absurd hk2 (by simp)
        simp only [GsBestRoute.l0, unp3_mk, letK, joinK, appK, iteK_if]
        have hgo : cntK (GsBestRoute.l1 l p e) l.length 0 (o, m, acc) (GsBestRoute.e1 (fun s' => loopK (GsBestRoute.l0 l p e) n s' GsBestRoute.e0)) = some (acc ++ [(k : Int)] ++ r, true) := by
          refine cnt_first (p := fun k => match l[k]? with | none => false | some x => cand l p e o m x) hk (fun k nx h1 h2 => inner2 k nx (by omega) h2) hk3 (fun nx => ?_)
          rw [← r2]
          rw [hci] at hk2
          have hc2 := of_decide_eq_true hk2
          clear r1 r2 r3 r4 hk2 hci hx
          revert hi hx1 hc2
          generalize l[k] = x
          intro hi hx1 hc2
          obtain ⟨a, b, c, d⟩ := x
          dsimp only at hx1 hc2
          simp only [GsBestRoute.l1, unp3_mk, hi, Option.bind_some, unMail, joinK, appK, iteK_if, letK, times_eq hg hx1.2.1, idx_at (early_len l c d) hp]
          rw [guardK_pos (by omega)]
          simp [hc2, GsBestRoute.e1, unp3_mk, appK]
        by_cases h1 : o = p
        · have h2 : ¬ m = e := fun q => hne ⟨h1, q⟩
          simp [h1, h2] at hgo ⊢
          exact hgo
        · simp [h1] at hgo ⊢
          exact hgo
      · simp only [endF]
        rw [if_pos (by omega), show ((k : Int)).toNat = k by omega, hx]
        dsimp only
        rw [if_pos ⟨r5, r6⟩]; exact r3
      · simp; omega
theorem best_both {fuel : Nat} (l : List Mail) (hl : l.length ≤ 9223372036854775807) (o m p : Int) (hf : 10000 < fuel) : ∃ r ok, GiBestRoute.P fuel l o m p = some (r, ok) ∧ GsBestRoute.P fuel l o m p = some (r, ok) ∧ r.length ≤ 10000 ∧ ok = (atRes l o m p).2 ∧ (ok = true → endF l r o m = some (p, (atRes l o m p).1)) := by
  simp only [GiBestRoute.P, GsBestRoute.P, at_impl l hl, at_spec l hl]
  by_cases h : askM l o m = true ∧ inB p 0 9 = true ∧ at_ (earlyM l o m) p ≠ 10000
  · have hr : atRes l o m p = (at_ (earlyM l o m) p, true) := by unfold atRes; rw [if_pos h]
    obtain ⟨h1, h2, h3⟩ := h
    obtain ⟨hg, ho, hm⟩ := ask_of h1
    have hp := inB_of h2
    have htop := early_top hg (m := m) ho hm.2 hp
    have hlow := early_low hg (m := m) ho hm.2 hp
    rw [hr]
    obtain ⟨r, r1, r2, r3, r4⟩ := both hg hp (e := at_ (earlyM l o m) p) (by omega) fuel o m [] ho (by omega) rfl (by simp; omega) (by omega)
    rw [List.nil_append] at r1 r2
    refine ⟨r, true, ?_, ?_, by omega, rfl, fun _ => r3⟩
    · simp only [bind2_some, letK, iteK_if, Bool.not_true, Bool.false_eq_true, if_false, latest_eq hg hp _ (show 20 < fuel by omega), Option.bind_some, un_eq, GiFirstRoute.P]
      rw [ten (late_len l p _), r1]; rfl
    · simp only [bind2_some, letK, iteK_if, Bool.not_true, Bool.false_eq_true, if_false]
      exact r2
  · have hr : atRes l o m p = (0, false) := by unfold atRes; rw [if_neg h]
    rw [hr]
    exact ⟨[], false, rfl, rfl, by simp, rfl, fun q => absurd q (by simp)⟩
end Go.Proofs.Ytfjcibkgbalkaaa.Q9Best

/- The laws' helpers on Mail and on slices of it as plain functions: copied, equal, their bulk. No condition. -/
namespace Go.Proofs.Ytfjcibkgbalkaaa.QHMailE
set_option linter.unusedVariables false
set_option linter.unusedSimpArgs false
open Go.RowKit
open Go.Proofs.Ytfjcibkgbalkaaa.GoP Go.Proofs.Ytfjcibkgbalkaaa.QBase Go.Proofs.Ytfjcibkgbalkaaa.QLoop Go.Proofs.Ytfjcibkgbalkaaa.PMail

theorem toOne (s : Mail) : GlToMail.P s = some s := by cases s; rfl
theorem eqOne (s : Mail) : GlEqMail.P s s = some true := by
  obtain ⟨x0, x1, x2, x3⟩ := s
  simp [GlEqMail.P, unMail, letK, joinK, appK, iteK_if]
theorem toS (l : List Mail) (hl : l.length ≤ 1048576) : GlToMailS.P l = some l := by
  simp only [GlToMailS.P, letK]
  rw [guardK_pos (by omega)]
  refine cnt_is l (fun k s => s = l.take k ++ List.replicate (l.length - k) (Mail.mk 0 0 0 0)) ?_ ?_ _ (by simp)
  · intro k s nx hk hI hn
    obtain ⟨x, hx, hi⟩ := at_lt (l := l) (k := k) hk
    have hlen : s.length = l.length := by rw [hI]; simp; omega
    obtain ⟨z, hz, hj⟩ := at_lt (l := s) (k := k) (by omega)
    simp only [GlToMailS.l0, hi, hj, toOne, Option.bind_some, unMail, letK, appK]
    refine hn _ ?_
    rw [hI, take_next hx, List.set_append_right _ _ (by simp; omega)]
    have hr : l.length - k = (l.length - (k + 1)) + 1 := by omega
    rw [hr, List.replicate_succ, List.append_assoc]
    simp [show k - min k l.length = 0 by omega]
  · intro s hI
    rw [hI]; simp [GlToMailS.e0, letK]
theorem eqS (l : List Mail) : GlEqMailS.P l l = some true := by
  simp only [GlEqMailS.P, letK, iteK_if]
  rw [if_neg (by simp)]
  refine cnt_is true (fun _ _ => True) ?_ (fun s _ => rfl) () trivial
  intro k s nx hk _ hn
  obtain ⟨x, hx, hi⟩ := at_lt (l := l) (k := k) hk
  simp only [GlEqMailS.l0, hi, Option.bind_some, unMail, eqOne, letK, appK, iteK_if]
  exact hn () trivial
theorem szS (l : List Mail) (hl : l.length ≤ 9223372036854775807) : GlSzMailS.P l 1048576 = some (if l.length ≤ 1048576 then 1048576 - (l.length : Int) else -1) := by
  simp only [GlSzMailS.P, letK, iteK_if]
  rw [wrap_in (by omega) (by omega)]
  by_cases h : l.length ≤ 1048576
  · rw [if_neg (by simp; omega), if_pos h]
  · rw [if_pos (by simp; omega), if_neg h]
end Go.Proofs.Ytfjcibkgbalkaaa.QHMailE

/- The laws' helper that marks a slice of Mail as a plain function. No condition. -/
namespace Go.Proofs.Ytfjcibkgbalkaaa.QHMail
set_option linter.unusedVariables false
set_option linter.unusedSimpArgs false
open Go.RowKit
open Go.Proofs.Ytfjcibkgbalkaaa.GoP Go.Proofs.Ytfjcibkgbalkaaa.QBase Go.Proofs.Ytfjcibkgbalkaaa.QLoop Go.Proofs.Ytfjcibkgbalkaaa.PMail 
theorem set_at {α : Type} {l : List α} {k : Nat} (x : α) (h : k < l.length) : idx (l.set k x) (k : Int) = some x := by rw [idx_nat, List.getElem?_set_self h]
theorem markS (l : List Mail) (hl : l.length ≤ 1048576) : ∃ v l', GlMarkMailS.P l 1 = some (v, l') ∧ 0 ≤ v := by
  obtain ⟨⟨v, l'⟩, h, hv⟩ : ∃ r : Int × List Mail, GlMarkMailS.P l 1 = some r ∧ 0 ≤ r.1 := by
    simp only [GlMarkMailS.P]
    refine cnt_ex (n := l.length) (Q := fun r : Int × List Mail => 0 ≤ r.1) (fun k (s : List Mail × Int) => s.1.length = l.length ∧ s.2 = 4 * (k : Int) + 1) ?_ ?_ l.length 0 (l, 1) (by omega) ⟨rfl, rfl⟩
    · rintro k ⟨a, b⟩ nx hk ⟨h1, h2⟩ hn
      dsimp only at h1 h2
      obtain ⟨x, hx, hi⟩ := at_lt (l := a) (k := k) (by omega)
      have ha : k < a.length := by omega
      have w1 : IntKind.i64.wrap (b + 1) = b + 1 := wrap_in (by omega) (by omega)
      have w2 : IntKind.i64.wrap (b + 1 + 1) = b + 1 + 1 := wrap_in (by omega) (by omega)
      have w3 : IntKind.i64.wrap (b + 1 + 1 + 1) = b + 1 + 1 + 1 := wrap_in (by omega) (by omega)
      have w4 : IntKind.i64.wrap (b + 1 + 1 + 1 + 1) = b + 1 + 1 + 1 + 1 := wrap_in (by omega) (by omega)
      simp (disch := simp [ha]) only [GlMarkMailS.l0, unp2, hi, set_at, Option.bind_some, unMail, letK, appK, w1, w2, w3, w4]
      exact hn _ ⟨by simpa using h1, by dsimp only; omega⟩
    · rintro ⟨a, b⟩ ⟨h1, h2⟩
      exact ⟨_, rfl, by dsimp only at h2 ⊢; omega⟩
  exact ⟨v, l', h, hv⟩
end Go.Proofs.Ytfjcibkgbalkaaa.QHMail

/- The laws' helpers on slices of ints as plain functions: equal, marked, held. Condition: at most 2^40 numbers. -/
namespace Go.Proofs.Ytfjcibkgbalkaaa.QInt
set_option linter.unusedVariables false
set_option linter.unusedSimpArgs false
open Go.RowKit
open Go.Proofs.Ytfjcibkgbalkaaa.GoP Go.Proofs.Ytfjcibkgbalkaaa.QBase Go.Proofs.Ytfjcibkgbalkaaa.QLoop

theorem eqI (l : List Int) : GlEqIntS.P l l = some true := by
  simp only [GlEqIntS.P, letK, iteK_if]
  rw [if_neg (by simp)]
  refine cnt_is true (fun _ _ => True) ?_ (fun s _ => rfl) () trivial
  intro k s nx hk _ hn
  obtain ⟨x, hx, hi⟩ := at_lt (l := l) (k := k) hk
  simp only [GlEqIntS.l0, hi, Option.bind_some, letK, appK, iteK_if]
  rw [if_neg (by simp)]
  exact hn () trivial
/-- 1, 2, 3 .. -/
def ups (n : Nat) : List Int := (List.range n).map (fun i : Nat => (i : Int) + 1)
theorem ups_at {n k : Nat} (h : k < n) : (ups n)[k]? = some ((k : Int) + 1) := by unfold ups; simp [h]
theorem ups_len (n : Nat) : (ups n).length = n := by simp [ups]
theorem markI (l : List Int) (hl : l.length ≤ 1099511627776) : GlMarkIntS.P l 1 = some ((l.length : Int) + 1, ups l.length) := by
  simp only [GlMarkIntS.P]
  refine cnt_is _ (fun k s => s.1.length = l.length ∧ s.2 = (k : Int) + 1 ∧ ∀ i, i < k → s.1[i]? = some ((i : Int) + 1)) ?_ ?_ (l, 1) ⟨rfl, rfl, fun i hi => by omega⟩
  · rintro k ⟨a, b⟩ nx hk ⟨h1, h2, h3⟩ hn
    dsimp only at h1 h2 h3
    obtain ⟨x, hx, hi⟩ := at_lt (l := a) (k := k) (by omega)
    simp only [GlMarkIntS.l0, unp2, hi, Option.bind_some, letK, appK]
    rw [wrap_in (by omega) (by omega)]
    refine hn _ ⟨by simpa using h1, by dsimp only; omega, fun i hi2 => ?_⟩
    dsimp only
    by_cases he : i = k
    · subst he; rw [List.getElem?_set_self (by omega), h2]
    · rw [List.getElem?_set_ne (by omega)]; exact h3 i (by omega)
  · rintro ⟨a, b⟩ ⟨h1, h2, h3⟩
    dsimp only at h1 h2 h3
    have : a = ups l.length := by
      apply List.ext_getElem?
      intro i
      by_cases hi : i < l.length
      · rw [h3 i hi, ups_at hi]
      · rw [List.getElem?_eq_none (by omega), List.getElem?_eq_none (by rw [ups_len]; omega)]
    simp only [GlMarkIntS.e0, unp2]
    rw [this, h2]
theorem heldI (n : Nat) (hl : n ≤ 1099511627776) : GlHeldIntS.P (ups n) 1 = some ((n : Int) + 1) := by
  simp only [GlHeldIntS.P]
  refine cnt_is _ (fun k s => s = (k : Int) + 1) ?_ ?_ 1 rfl
  · intro k s nx hk hI hn
    rw [ups_len] at hk
    have hi : idx (ups n) (k : Int) = some ((k : Int) + 1) := by rw [idx_nat, ups_at hk]
    simp only [GlHeldIntS.l0, hi, Option.bind_some, letK, appK, iteK_if]
    rw [if_neg (by simp [hI]), wrap_in (by omega) (by omega)]
    exact hn _ (by omega)
  · intro s hI
    simp only [GlHeldIntS.e0, letK]
    rw [hI, ups_len]
/-- a loop that gathers -/
theorem gather {α β R : Type} {l : List α} {p : α → Bool} {g : α → β} {f : Nat → List β → (List β → Option R) → (List β → Option R) → Option R} {fin : List β → Option R} (hl : l.length ≤ 1099511627776)
    (step : ∀ k nx x s, l[k]? = some x → s.length ≤ 1099511627776 → f k s nx fin = nx (if p x then s ++ [g x] else s)) : cntK f l.length 0 [] fin = fin ((l.filter p).map g) := by
  have key : ∀ m k, k + m = l.length → cntK f m k (((l.take k).filter p).map g) fin = fin ((l.filter p).map g) := by
    intro m
    induction m with
    | zero => intro k hk; obtain rfl : k = l.length := by omega
              rw [List.take_of_length_le (Nat.le_refl _)]; rfl
    | succ m ih =>
      intro k hk
      obtain ⟨x, hx, _⟩ := at_lt (l := l) (k := k) (by omega)
      show f k _ _ fin = _
      have hle : (((l.take k).filter p).map g).length ≤ 1099511627776 := by
        rw [List.length_map]
        have := List.length_filter_le p (l.take k)
        rw [List.length_take] at this
        omega
      rw [step k _ x _ hx hle, ← ih (k + 1) (by omega), take_next hx, List.filter_append, List.map_append]
      cases hp : p x <;> simp [List.filter, hp]
  exact key l.length 0 (by omega)
end Go.Proofs.Ytfjcibkgbalkaaa.QInt

/- Chapter 9: mails and routes: the plain functions of the program and of the reference agree, and the laws answer true. (QL9Best) No condition but those of each theorem. -/
namespace Go.Proofs.Ytfjcibkgbalkaaa.QL9Best
set_option linter.unusedVariables false
set_option linter.unusedSimpArgs false
open Go.RowKit
open Go.Proofs.Ytfjcibkgbalkaaa.GoP Go.Proofs.Ytfjcibkgbalkaaa.PlainStamp Go.Proofs.Ytfjcibkgbalkaaa.QBase Go.Proofs.Ytfjcibkgbalkaaa.Q9Best Go.Proofs.Ytfjcibkgbalkaaa.Q9List Go.Proofs.Ytfjcibkgbalkaaa.QLoop Go.Proofs.Ytfjcibkgbalkaaa.PMail Go.Proofs.Ytfjcibkgbalkaaa.QHMailE Go.Proofs.Ytfjcibkgbalkaaa.QHMail Go.Proofs.Ytfjcibkgbalkaaa.QInt

theorem law_best {fuel : Nat} (l : List Mail) (o m p : Int) (hl : l.length ≤ 9223372036854775807) (hf : 10000 < fuel) : GlFnExactBestRoute.P fuel l o m p = some true := by
  simp only [GlFnExactBestRoute.P, szS l hl, Option.bind_some, letK, iteK_if]
  by_cases hb : l.length ≤ 1048576
  · rw [if_neg (by rw [if_pos hb]; simp; omega)]
    obtain ⟨a, c, h1, h2, hlen, _⟩ := best_both l hl o m p hf
    obtain ⟨v2, l2, hm, hv2⟩ := markS l hb
    have hv3 : ¬ v2 < 0 := by omega
    have hv4 : ¬ (a.length : Int) + 1 < 0 := by omega
    simp [toS l hb, h1, h2, bind2, joinK, appK, iteK_if, eqS, eqI, hm, hv3, markI a (by omega), heldI a.length (by omega), hv4]
  · rw [if_pos (by rw [if_neg hb]; simp)]
end Go.Proofs.Ytfjcibkgbalkaaa.QL9Best

