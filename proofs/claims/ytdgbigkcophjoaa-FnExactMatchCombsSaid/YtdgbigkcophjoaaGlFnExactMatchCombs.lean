/- loop.example/g01062/laws.FnExactMatchCombs as a plain function, and the contract of the program's: where the plain one has an answer, the program has it. Conditions: slices read as lists. -/
import Derived.Test.YtdgbigkcophjoaaChecked
import Derived.Test.YtdgbigkcophjoaaGoM
import Derived.Test.YtdgbigkcophjoaaGoRComb
import Derived.Test.YtdgbigkcophjoaaGlSzCombS
import Derived.Test.YtdgbigkcophjoaaGlToCombS
import Derived.Test.YtdgbigkcophjoaaGsMatchCombs
import Derived.Test.YtdgbigkcophjoaaGiMatchCombs
import Derived.Test.YtdgbigkcophjoaaGlEqIntS
import Derived.Test.YtdgbigkcophjoaaGlEqCombS
import Derived.Test.YtdgbigkcophjoaaGlMarkCombS
import Derived.Test.YtdgbigkcophjoaaGlMarkIntS
import Derived.Test.YtdgbigkcophjoaaGlHeldIntS
import Derived.WalkKit
import Derived.WalkSpells
import Derived.WalkLawsBesides
import Derived.BigQuiet
import Derived.OwnWalk
import Derived.Deep.LoopGhost
import Derived.Deep.QuietTactic
import Derived.IntWalk
import Derived.Lib.QuietBelow
namespace Go.Proofs.Ytdgbigkcophjoaa.GlFnExactMatchCombs
set_option linter.unusedVariables false
set_option linter.unusedSimpArgs false
open Go.RowKit
open Go.Proofs.Ytdgbigkcophjoaa.Rowed Go.Proofs.Ytdgbigkcophjoaa.Turn Go.Proofs.Ytdgbigkcophjoaa.Aid Go.Proofs.Ytdgbigkcophjoaa.GoP Go.Proofs.Ytdgbigkcophjoaa.GoM

def P (aList : (List Go.Proofs.Ytdgbigkcophjoaa.PComb.Comb)) (aWide : Int) (aHigh : Int) (aOff : Int) : Option (Bool) :=
  Option.bind (Go.Proofs.Ytdgbigkcophjoaa.GlSzCombS.P aList 1048576) fun (t_4 : Int) =>
  letK (decide (t_4 < 0)) fun (t_7 : Bool) =>
  iteK t_7
  (some true)
  (Option.bind (Go.Proofs.Ytdgbigkcophjoaa.GlToCombS.P aList) fun (t_10 : (List Go.Proofs.Ytdgbigkcophjoaa.PComb.Comb)) =>
  bind2 (Go.Proofs.Ytdgbigkcophjoaa.GsMatchCombs.P t_10 aWide aHigh aOff) fun (t_14a : (List Int)) (t_14b : Bool) =>
  Option.bind (Go.Proofs.Ytdgbigkcophjoaa.GlToCombS.P aList) fun (t_21 : (List Go.Proofs.Ytdgbigkcophjoaa.PComb.Comb)) =>
  bind2 (Go.Proofs.Ytdgbigkcophjoaa.GiMatchCombs.P t_21 aWide aHigh aOff) fun (t_27a : (List Int)) (t_27b : Bool) =>
  Option.bind (Go.Proofs.Ytdgbigkcophjoaa.GlEqIntS.P t_27a t_14a) fun (t_35 : Bool) =>
  letK (!t_35) fun (t_36 : Bool) =>
  joinK (fun (t_41 : Bool) =>
  iteK t_41
  (some false)
  (Option.bind (Go.Proofs.Ytdgbigkcophjoaa.GlToCombS.P aList) fun (t_45 : (List Go.Proofs.Ytdgbigkcophjoaa.PComb.Comb)) =>
  Option.bind (Go.Proofs.Ytdgbigkcophjoaa.GlEqCombS.P t_21 t_45) fun (t_46 : Bool) =>
  letK (!t_46) fun (t_47 : Bool) =>
  iteK t_47
  (some false)
  (bind2 (Go.Proofs.Ytdgbigkcophjoaa.GlMarkCombS.P t_21 1) fun (t_52 : Int) (lt_52 : (List Go.Proofs.Ytdgbigkcophjoaa.PComb.Comb)) =>
  letK (decide (t_52 < 0)) fun (t_55 : Bool) =>
  joinK (fun (t_61 : Bool) =>
  joinK (fun (t_66 : Bool) =>
  iteK t_66
  (some false)
  (bind2 (Go.Proofs.Ytdgbigkcophjoaa.GlMarkIntS.P t_27a 1) fun (t_71 : Int) (lt_71 : (List Int)) =>
  Option.bind (Go.Proofs.Ytdgbigkcophjoaa.GlHeldIntS.P lt_71 1) fun (t_76 : Int) =>
  letK (decide (t_76 < 0)) fun (t_79 : Bool) =>
  iteK t_79
  (some false)
  (letK (t_76 != t_71) fun (t_83 : Bool) =>
  iteK t_83
  (some false)
  (Option.bind (Go.Proofs.Ytdgbigkcophjoaa.GlToCombS.P aList) fun (t_86 : (List Go.Proofs.Ytdgbigkcophjoaa.PComb.Comb)) =>
  bind2 (Go.Proofs.Ytdgbigkcophjoaa.GiMatchCombs.P t_86 aWide aHigh aOff) fun (t_90a : (List Int)) (t_90b : Bool) =>
  Option.bind (Go.Proofs.Ytdgbigkcophjoaa.GlEqIntS.P t_90a t_14a) fun (t_98 : Bool) =>
  letK (!t_98) fun (t_99 : Bool) =>
  joinK (fun (t_104 : Bool) =>
  iteK t_104
  (some false)
  (Option.bind (Go.Proofs.Ytdgbigkcophjoaa.GlHeldIntS.P lt_71 1) fun (t_109 : Int) =>
  letK (decide (t_109 < 0)) fun (t_112 : Bool) =>
  iteK t_112
  (some false)
  (letK (t_109 != t_71) fun (t_116 : Bool) =>
  iteK t_116
  (some false)
  (some true)))) fun jt_104 => iteK t_99 (appK jt_104 true) (letK (!(t_90b == t_14b)) fun (t_103 : Bool) =>
  appK jt_104 t_103))))) fun jt_66 => iteK t_61 (appK jt_66 true) (letK (!(t_27b == t_14b)) fun (t_65 : Bool) =>
  appK jt_66 t_65)) fun jt_61 => iteK t_55 (appK jt_61 true) (Option.bind (Go.Proofs.Ytdgbigkcophjoaa.GlEqIntS.P t_27a t_14a) fun (t_59 : Bool) =>
  letK (!t_59) fun (t_60 : Bool) =>
  appK jt_61 t_60)))) fun jt_41 => iteK t_36 (appK jt_41 true) (letK (!(t_27b == t_14b)) fun (t_40 : Bool) =>
  appK jt_41 t_40))

set_option maxRecDepth 100000 in
set_option maxHeartbeats 2000000 in
theorem C (aList : (List Go.Proofs.Ytdgbigkcophjoaa.PComb.Comb)) (aWide : Int) (aHigh : Int) (aOff : Int) (A0 : Option Addr) (c0 : Nat)  (w : World) (M0 : Hid (Cells w 4 A0 aList.length (Go.Proofs.Ytdgbigkcophjoaa.PComb.flat aList))) (N0 : Hid (aList.length ≤ 9223372036854775807))  {r : Bool} (H : Hid (P aList aWide aHigh aOff = some r)) :
    Calls Try.prog 13 #[.slice A0 aList.length c0, .int .i64 aWide, .int .i64 aHigh, .int .i64 aOff] w (Gives (.bool r) w) := by
  have HB := Lib.hid (Below.refl w.heap.size w)
  unfold P at H
  have N0o := N0.out
  go_enter Try.func13, Try.ntmps13
  replace H := bind_hid H
  obtain ⟨t_4, qt_4, H⟩ := H
  go_wp2_with fail
  go_at_call 46
  refine (Go.Proofs.Ytdgbigkcophjoaa.GlSzCombS.C (aList) (1048576) A0 c0 _   (Lib.hid (Cells.below M0.out HB.out)) N0 qt_4).mono ?_
  rintro e_t_4 wt_4 ⟨rfl, bt_4⟩
  have HBwt_4 := Lib.hid (Below.step HB.out bt_4)
  clear bt_4
  replace H := let_hid H
  obtain ⟨t_7, ht_7, H⟩ := H
  cases t_7 with
  | false =>
    replace H := ite_f H
    replace H := bind_hid H
    obtain ⟨t_10, qt_10, H⟩ := H
    go_wp2_with fail
    go_at_call 48
    refine (Go.Proofs.Ytdgbigkcophjoaa.GlToCombS.C (aList) A0 c0 _   (Lib.hid (Cells.below M0.out HBwt_4.out)) N0 qt_10).mono ?_
    rintro e_t_10 wt_10 ⟨At_10, ct_10, rfl, ot_10, bt_10⟩
    have Ot_10 := Lib.hid (own_lower ot_10 HBwt_4.out.size)
    clear ot_10
    have HBwt_10 := Lib.hid (Below.step HBwt_4.out bt_10)
    clear bt_10
    replace H := bind2_hid H
    obtain ⟨t_14a, t_14b, qt_14, H⟩ := H
    go_wp2_with fail
    go_at_call 51
    refine (Go.Proofs.Ytdgbigkcophjoaa.GsMatchCombs.C (t_10) (aWide) (aHigh) (aOff) At_10 ct_10 _   (Lib.hid (own_cells Ot_10.out)) (Lib.hid (own_max Ot_10.out)) qt_14).mono ?_
    rintro e_t_14 wt_14 ⟨At_14a, ct_14a, rfl, ot_14a, bt_14⟩
    have Dt_14a_t_10 := Lib.hid (apart_call ot_14a Ot_10.out)
    have Ot_14a := Lib.hid (own_lower ot_14a HBwt_10.out.size)
    clear ot_14a
    have HBwt_14 := Lib.hid (Below.step HBwt_10.out bt_14)
    replace Ot_10 := Lib.hid (own_below Ot_10.out bt_14)
    clear bt_14
    replace H := bind_hid H
    obtain ⟨t_21, qt_21, H⟩ := H
    go_wp2_with fail
    go_at_call 48
    refine (Go.Proofs.Ytdgbigkcophjoaa.GlToCombS.C (aList) A0 c0 _   (Lib.hid (Cells.below M0.out HBwt_14.out)) N0 qt_21).mono ?_
    rintro e_t_21 wt_21 ⟨At_21, ct_21, rfl, ot_21, bt_21⟩
    have Dt_21_t_10 := Lib.hid (apart_call ot_21 Ot_10.out)
    have Dt_21_t_14a := Lib.hid (apart_call ot_21 Ot_14a.out)
    have Ot_21 := Lib.hid (own_lower ot_21 HBwt_14.out.size)
    clear ot_21
    have HBwt_21 := Lib.hid (Below.step HBwt_14.out bt_21)
    replace Ot_10 := Lib.hid (own_below Ot_10.out bt_21)
    replace Ot_14a := Lib.hid (own_below Ot_14a.out bt_21)
    clear bt_21
    replace H := bind2_hid H
    obtain ⟨t_27a, t_27b, qt_27, H⟩ := H
    go_wp2_with fail
    go_at_call 52
    refine (Go.Proofs.Ytdgbigkcophjoaa.GiMatchCombs.C (t_21) (aWide) (aHigh) (aOff) At_21 ct_21 _   (Lib.hid (own_cells Ot_21.out)) (Lib.hid (own_max Ot_21.out)) qt_27).mono ?_
    rintro e_t_27 wt_27 ⟨At_27a, ct_27a, rfl, ot_27a, bt_27⟩
    have Dt_27a_t_10 := Lib.hid (apart_call ot_27a Ot_10.out)
    have Dt_27a_t_14a := Lib.hid (apart_call ot_27a Ot_14a.out)
    have Dt_27a_t_21 := Lib.hid (apart_call ot_27a Ot_21.out)
    have Ot_27a := Lib.hid (own_lower ot_27a HBwt_21.out.size)
    clear ot_27a
    have HBwt_27 := Lib.hid (Below.step HBwt_21.out bt_27)
    replace Ot_10 := Lib.hid (own_below Ot_10.out bt_27)
    replace Ot_14a := Lib.hid (own_below Ot_14a.out bt_27)
    replace Ot_21 := Lib.hid (own_below Ot_21.out bt_27)
    clear bt_27
    replace H := bind_hid H
    obtain ⟨t_35, qt_35, H⟩ := H
    go_wp2_with fail
    go_at_call 23
    refine (Go.Proofs.Ytdgbigkcophjoaa.GlEqIntS.C (t_27a) (t_14a) At_27a ct_27a At_14a ct_14a _   (Lib.hid (own_cells Ot_27a.out)) (Lib.hid (own_max Ot_27a.out)) (Lib.hid (own_cells Ot_14a.out)) (Lib.hid (own_max Ot_14a.out)) qt_35).mono ?_
    rintro e_t_35 wt_35 ⟨rfl, bt_35⟩
    have HBwt_35 := Lib.hid (Below.step HBwt_27.out bt_35)
    replace Ot_10 := Lib.hid (own_below Ot_10.out bt_35)
    replace Ot_14a := Lib.hid (own_below Ot_14a.out bt_35)
    replace Ot_21 := Lib.hid (own_below Ot_21.out bt_35)
    replace Ot_27a := Lib.hid (own_below Ot_27a.out bt_35)
    clear bt_35
    cases t_35 with
    | false =>
      replace H := let_hid H
      obtain ⟨t_36, ht_36, H⟩ := H
      obtain rfl : t_36 = true := ht_36.symm
      replace H := join_hid H
      replace H := ite_t H
      replace H := app_hid H
      replace H := ite_t H
      obtain rfl := ret_hid H
      go_wp2_with fail
      go_ret
      exact ⟨rfl, HBwt_35.out⟩
    | true =>
      replace H := let_hid H
      obtain ⟨t_36, ht_36, H⟩ := H
      obtain rfl : t_36 = false := ht_36.symm
      replace H := join_hid H
      replace H := ite_f H
      replace H := let_hid H
      obtain ⟨t_40, ht_40, H⟩ := H
      replace H := app_hid H
      cases t_40 with
      | false =>
        replace H := ite_f H
        replace H := bind_hid H
        obtain ⟨t_45, qt_45, H⟩ := H
        go_wp2_with fail
        go_at_call 48
        refine (Go.Proofs.Ytdgbigkcophjoaa.GlToCombS.C (aList) A0 c0 _   (Lib.hid (Cells.below M0.out HBwt_35.out)) N0 qt_45).mono ?_
        rintro e_t_45 wt_45 ⟨At_45, ct_45, rfl, ot_45, bt_45⟩
        have Dt_45_t_10 := Lib.hid (apart_call ot_45 Ot_10.out)
        have Dt_45_t_14a := Lib.hid (apart_call ot_45 Ot_14a.out)
        have Dt_45_t_21 := Lib.hid (apart_call ot_45 Ot_21.out)
        have Dt_45_t_27a := Lib.hid (apart_call ot_45 Ot_27a.out)
        have Ot_45 := Lib.hid (own_lower ot_45 HBwt_35.out.size)
        clear ot_45
        have HBwt_45 := Lib.hid (Below.step HBwt_35.out bt_45)
        replace Ot_10 := Lib.hid (own_below Ot_10.out bt_45)
        replace Ot_14a := Lib.hid (own_below Ot_14a.out bt_45)
        replace Ot_21 := Lib.hid (own_below Ot_21.out bt_45)
        replace Ot_27a := Lib.hid (own_below Ot_27a.out bt_45)
        clear bt_45
        replace H := bind_hid H
        obtain ⟨t_46, qt_46, H⟩ := H
        go_wp2_with fail
        go_at_call 50
        refine (Go.Proofs.Ytdgbigkcophjoaa.GlEqCombS.C (t_21) (t_45) At_21 ct_21 At_45 ct_45 _   (Lib.hid (own_cells Ot_21.out)) (Lib.hid (own_max Ot_21.out)) (Lib.hid (own_cells Ot_45.out)) (Lib.hid (own_max Ot_45.out)) qt_46).mono ?_
        rintro e_t_46 wt_46 ⟨rfl, bt_46⟩
        have HBwt_46 := Lib.hid (Below.step HBwt_45.out bt_46)
        replace Ot_10 := Lib.hid (own_below Ot_10.out bt_46)
        replace Ot_14a := Lib.hid (own_below Ot_14a.out bt_46)
        replace Ot_21 := Lib.hid (own_below Ot_21.out bt_46)
        replace Ot_27a := Lib.hid (own_below Ot_27a.out bt_46)
        replace Ot_45 := Lib.hid (own_below Ot_45.out bt_46)
        clear bt_46
        cases t_46 with
        | false =>
          replace H := let_hid H
          obtain ⟨t_47, ht_47, H⟩ := H
          obtain rfl : t_47 = true := ht_47.symm
          replace H := ite_t H
          obtain rfl := ret_hid H
          go_wp2_with fail
          go_ret
          exact ⟨rfl, HBwt_46.out⟩
        | true =>
          replace H := let_hid H
          obtain ⟨t_47, ht_47, H⟩ := H
          obtain rfl : t_47 = false := ht_47.symm
          replace H := ite_f H
          replace H := bind2_hid H
          obtain ⟨t_52, lt_52, qt_52, H⟩ := H
          go_wp2_with fail
          go_at_call 53
          refine (Go.Proofs.Ytdgbigkcophjoaa.GlMarkCombS.C (t_21) (1) At_21 ct_21 w.heap.size _   Ot_21 (Lib.hid (own_max Ot_21.out))   qt_52).mono ?_
          rintro e_t_52 wt_52 ⟨rfl, ot_52, nt_52, gt_52⟩
          have Pt_52 := Lib.hid ot_52
          have Gt_52 := Lib.hid gt_52
          replace nt_52 := Lib.hid nt_52
          clear ot_52 gt_52
          have HBwt_52 := Lib.hid (HBwt_46.out.grown Gt_52.out HBwt_46.out.size (fun q hq => (Ot_21.out.lt q hq).1))
          replace Ot_10 := Lib.hid (own_other Ot_10.out Gt_52.out Dt_21_t_10.out)
          replace Ot_14a := Lib.hid (own_other Ot_14a.out Gt_52.out Dt_21_t_14a.out)
          replace Ot_27a := Lib.hid (own_other Ot_27a.out Gt_52.out (Apart.symm Dt_27a_t_21.out))
          replace Ot_45 := Lib.hid (own_other Ot_45.out Gt_52.out (Apart.symm Dt_45_t_21.out))
          clear Ot_21 Gt_52
          replace H := let_hid H
          obtain ⟨t_55, ht_55, H⟩ := H
          replace H := join_hid H
          cases t_55 with
          | false =>
            replace H := ite_f H
            replace H := bind_hid H
            obtain ⟨t_59, qt_59, H⟩ := H
            go_wp2_with fail
            go_at_call 23
            refine (Go.Proofs.Ytdgbigkcophjoaa.GlEqIntS.C (t_27a) (t_14a) At_27a ct_27a At_14a ct_14a _   (Lib.hid (own_cells Ot_27a.out)) (Lib.hid (own_max Ot_27a.out)) (Lib.hid (own_cells Ot_14a.out)) (Lib.hid (own_max Ot_14a.out)) qt_59).mono ?_
            rintro e_t_59 wt_59 ⟨rfl, bt_59⟩
            have HBwt_59 := Lib.hid (Below.step HBwt_52.out bt_59)
            replace Ot_10 := Lib.hid (own_below Ot_10.out bt_59)
            replace Ot_14a := Lib.hid (own_below Ot_14a.out bt_59)
            replace Pt_52 := Lib.hid (own_below Pt_52.out bt_59)
            replace Ot_27a := Lib.hid (own_below Ot_27a.out bt_59)
            replace Ot_45 := Lib.hid (own_below Ot_45.out bt_59)
            clear bt_59
            cases t_59 with
            | false =>
              replace H := let_hid H
              obtain ⟨t_60, ht_60, H⟩ := H
              obtain rfl : t_60 = true := ht_60.symm
              replace H := app_hid H
              replace H := join_hid H
              replace H := ite_t H
              replace H := app_hid H
              replace H := ite_t H
              obtain rfl := ret_hid H
              go_wp2_with fail
              go_ret
              exact ⟨rfl, HBwt_59.out⟩
            | true =>
              replace H := let_hid H
              obtain ⟨t_60, ht_60, H⟩ := H
              obtain rfl : t_60 = false := ht_60.symm
              replace H := app_hid H
              replace H := join_hid H
              replace H := ite_f H
              replace H := let_hid H
              obtain ⟨t_65, ht_65, H⟩ := H
              obtain rfl := ht_40.symm.trans ht_65
              replace H := app_hid H
              replace H := ite_f H
              replace H := bind2_hid H
              obtain ⟨t_71, lt_71, qt_71, H⟩ := H
              go_wp2_with fail
              go_at_call 25
              refine (Go.Proofs.Ytdgbigkcophjoaa.GlMarkIntS.C (t_27a) (1) At_27a ct_27a w.heap.size _   Ot_27a (Lib.hid (own_max Ot_27a.out))   qt_71).mono ?_
              rintro e_t_71 wt_71 ⟨rfl, ot_71, nt_71, gt_71⟩
              have Pt_71 := Lib.hid ot_71
              have Gt_71 := Lib.hid gt_71
              replace nt_71 := Lib.hid nt_71
              clear ot_71 gt_71
              have HBwt_71 := Lib.hid (HBwt_59.out.grown Gt_71.out HBwt_59.out.size (fun q hq => (Ot_27a.out.lt q hq).1))
              replace Ot_10 := Lib.hid (own_other Ot_10.out Gt_71.out Dt_27a_t_10.out)
              replace Ot_14a := Lib.hid (own_other Ot_14a.out Gt_71.out Dt_27a_t_14a.out)
              replace Pt_52 := Lib.hid (own_other Pt_52.out Gt_71.out Dt_27a_t_21.out)
              replace Ot_45 := Lib.hid (own_other Ot_45.out Gt_71.out (Apart.symm Dt_45_t_27a.out))
              clear Ot_27a Gt_71
              replace H := bind_hid H
              obtain ⟨t_76, qt_76, H⟩ := H
              go_wp2_with fail
              have hc_ := nt_71.out
              have hv_ : (Value.slice At_27a t_27a.length ct_27a : Value) = Value.slice At_27a lt_71.length ct_27a := by rw [hc_]
              try rw [hv_]
              replace Pt_71 := Lib.hid (own_len hc_ Pt_71.out)
              clear hc_ hv_
              go_wp2_with fail
              go_at_call 26
              refine (Go.Proofs.Ytdgbigkcophjoaa.GlHeldIntS.C (lt_71) (1) At_27a ct_27a _   (Lib.hid (own_cells Pt_71.out)) (Lib.hid (own_max Pt_71.out)) qt_76).mono ?_
              rintro e_t_76 wt_76 ⟨rfl, bt_76⟩
              have HBwt_76 := Lib.hid (Below.step HBwt_71.out bt_76)
              replace Ot_10 := Lib.hid (own_below Ot_10.out bt_76)
              replace Ot_14a := Lib.hid (own_below Ot_14a.out bt_76)
              replace Pt_52 := Lib.hid (own_below Pt_52.out bt_76)
              replace Pt_71 := Lib.hid (own_below Pt_71.out bt_76)
              replace Ot_45 := Lib.hid (own_below Ot_45.out bt_76)
              clear bt_76
              replace H := let_hid H
              obtain ⟨t_79, ht_79, H⟩ := H
              cases t_79 with
              | false =>
                replace H := ite_f H
                replace H := let_hid H
                obtain ⟨t_83, ht_83, H⟩ := H
                cases t_83 with
                | false =>
                  replace H := ite_f H
                  replace H := bind_hid H
                  obtain ⟨t_86, qt_86, H⟩ := H
                  go_wp2_with fail
                  go_at_call 48
                  refine (Go.Proofs.Ytdgbigkcophjoaa.GlToCombS.C (aList) A0 c0 _   (Lib.hid (Cells.below M0.out HBwt_76.out)) N0 qt_86).mono ?_
                  rintro e_t_86 wt_86 ⟨At_86, ct_86, rfl, ot_86, bt_86⟩
                  have Dt_86_t_10 := Lib.hid (apart_call ot_86 Ot_10.out)
                  have Dt_86_t_14a := Lib.hid (apart_call ot_86 Ot_14a.out)
                  have Dt_86_t_21 := Lib.hid (apart_call ot_86 Pt_52.out)
                  have Dt_86_t_27a := Lib.hid (apart_call ot_86 Pt_71.out)
                  have Dt_86_t_45 := Lib.hid (apart_call ot_86 Ot_45.out)
                  have Ot_86 := Lib.hid (own_lower ot_86 HBwt_76.out.size)
                  clear ot_86
                  have HBwt_86 := Lib.hid (Below.step HBwt_76.out bt_86)
                  replace Ot_10 := Lib.hid (own_below Ot_10.out bt_86)
                  replace Ot_14a := Lib.hid (own_below Ot_14a.out bt_86)
                  replace Pt_52 := Lib.hid (own_below Pt_52.out bt_86)
                  replace Pt_71 := Lib.hid (own_below Pt_71.out bt_86)
                  replace Ot_45 := Lib.hid (own_below Ot_45.out bt_86)
                  clear bt_86
                  replace H := bind2_hid H
                  obtain ⟨t_90a, t_90b, qt_90, H⟩ := H
                  go_wp2_with fail
                  go_at_call 52
                  refine (Go.Proofs.Ytdgbigkcophjoaa.GiMatchCombs.C (t_86) (aWide) (aHigh) (aOff) At_86 ct_86 _   (Lib.hid (own_cells Ot_86.out)) (Lib.hid (own_max Ot_86.out)) qt_90).mono ?_
                  rintro e_t_90 wt_90 ⟨At_90a, ct_90a, rfl, ot_90a, bt_90⟩
                  have Dt_90a_t_10 := Lib.hid (apart_call ot_90a Ot_10.out)
                  have Dt_90a_t_14a := Lib.hid (apart_call ot_90a Ot_14a.out)
                  have Dt_90a_t_21 := Lib.hid (apart_call ot_90a Pt_52.out)
                  have Dt_90a_t_27a := Lib.hid (apart_call ot_90a Pt_71.out)
                  have Dt_90a_t_45 := Lib.hid (apart_call ot_90a Ot_45.out)
                  have Dt_90a_t_86 := Lib.hid (apart_call ot_90a Ot_86.out)
                  have Ot_90a := Lib.hid (own_lower ot_90a HBwt_86.out.size)
                  clear ot_90a
                  have HBwt_90 := Lib.hid (Below.step HBwt_86.out bt_90)
                  replace Ot_10 := Lib.hid (own_below Ot_10.out bt_90)
                  replace Ot_14a := Lib.hid (own_below Ot_14a.out bt_90)
                  replace Pt_52 := Lib.hid (own_below Pt_52.out bt_90)
                  replace Pt_71 := Lib.hid (own_below Pt_71.out bt_90)
                  replace Ot_45 := Lib.hid (own_below Ot_45.out bt_90)
                  replace Ot_86 := Lib.hid (own_below Ot_86.out bt_90)
                  clear bt_90
                  replace H := bind_hid H
                  obtain ⟨t_98, qt_98, H⟩ := H
                  go_wp2_with fail
                  go_at_call 23
                  refine (Go.Proofs.Ytdgbigkcophjoaa.GlEqIntS.C (t_90a) (t_14a) At_90a ct_90a At_14a ct_14a _   (Lib.hid (own_cells Ot_90a.out)) (Lib.hid (own_max Ot_90a.out)) (Lib.hid (own_cells Ot_14a.out)) (Lib.hid (own_max Ot_14a.out)) qt_98).mono ?_
                  rintro e_t_98 wt_98 ⟨rfl, bt_98⟩
                  have HBwt_98 := Lib.hid (Below.step HBwt_90.out bt_98)
                  replace Ot_10 := Lib.hid (own_below Ot_10.out bt_98)
                  replace Ot_14a := Lib.hid (own_below Ot_14a.out bt_98)
                  replace Pt_52 := Lib.hid (own_below Pt_52.out bt_98)
                  replace Pt_71 := Lib.hid (own_below Pt_71.out bt_98)
                  replace Ot_45 := Lib.hid (own_below Ot_45.out bt_98)
                  replace Ot_86 := Lib.hid (own_below Ot_86.out bt_98)
                  replace Ot_90a := Lib.hid (own_below Ot_90a.out bt_98)
                  clear bt_98
                  cases t_98 with
                  | false =>
                    replace H := let_hid H
                    obtain ⟨t_99, ht_99, H⟩ := H
                    obtain rfl : t_99 = true := ht_99.symm
                    replace H := join_hid H
                    replace H := ite_t H
                    replace H := app_hid H
                    replace H := ite_t H
                    obtain rfl := ret_hid H
                    go_wp2_with fail
                    go_ret
                    exact ⟨rfl, HBwt_98.out⟩
                  | true =>
                    replace H := let_hid H
                    obtain ⟨t_99, ht_99, H⟩ := H
                    obtain rfl : t_99 = false := ht_99.symm
                    replace H := join_hid H
                    replace H := ite_f H
                    replace H := let_hid H
                    obtain ⟨t_103, ht_103, H⟩ := H
                    replace H := app_hid H
                    cases t_103 with
                    | false =>
                      replace H := ite_f H
                      replace H := bind_hid H
                      obtain ⟨t_109, qt_109, H⟩ := H
                      go_wp2_with fail
                      go_at_call 26
                      refine (Go.Proofs.Ytdgbigkcophjoaa.GlHeldIntS.C (lt_71) (1) At_27a ct_27a _   (Lib.hid (own_cells Pt_71.out)) (Lib.hid (own_max Pt_71.out)) qt_109).mono ?_
                      rintro e_t_109 wt_109 ⟨rfl, bt_109⟩
                      have HBwt_109 := Lib.hid (Below.step HBwt_98.out bt_109)
                      replace Ot_10 := Lib.hid (own_below Ot_10.out bt_109)
                      replace Ot_14a := Lib.hid (own_below Ot_14a.out bt_109)
                      replace Pt_52 := Lib.hid (own_below Pt_52.out bt_109)
                      replace Pt_71 := Lib.hid (own_below Pt_71.out bt_109)
                      replace Ot_45 := Lib.hid (own_below Ot_45.out bt_109)
                      replace Ot_86 := Lib.hid (own_below Ot_86.out bt_109)
                      replace Ot_90a := Lib.hid (own_below Ot_90a.out bt_109)
                      clear bt_109
                      replace H := let_hid H
                      obtain ⟨t_112, ht_112, H⟩ := H
                      cases t_112 with
                      | false =>
                        replace H := ite_f H
                        replace H := let_hid H
                        obtain ⟨t_116, ht_116, H⟩ := H
                        cases t_116 with
                        | false =>
                          replace H := ite_f H
                          obtain rfl := ret_hid H
                          go_wp2_with fail
                          go_ret
                          exact ⟨rfl, HBwt_109.out⟩
                        | true =>
                          replace H := ite_t H
                          obtain rfl := ret_hid H
                          go_wp2_with fail
                          go_ret
                          exact ⟨rfl, HBwt_109.out⟩
                      | true =>
                        replace H := ite_t H
                        obtain rfl := ret_hid H
                        go_wp2_with fail
                        go_ret
                        exact ⟨rfl, HBwt_109.out⟩
                    | true =>
                      replace H := ite_t H
                      obtain rfl := ret_hid H
                      go_wp2_with fail
                      go_ret
                      exact ⟨rfl, HBwt_98.out⟩
                | true =>
                  replace H := ite_t H
                  obtain rfl := ret_hid H
                  go_wp2_with fail
                  go_ret
                  exact ⟨rfl, HBwt_76.out⟩
              | true =>
                replace H := ite_t H
                obtain rfl := ret_hid H
                go_wp2_with fail
                go_ret
                exact ⟨rfl, HBwt_76.out⟩
          | true =>
            replace H := ite_t H
            replace H := app_hid H
            replace H := join_hid H
            replace H := ite_t H
            replace H := app_hid H
            replace H := ite_t H
            obtain rfl := ret_hid H
            go_wp2_with fail
            go_ret
            exact ⟨rfl, HBwt_52.out⟩
      | true =>
        replace H := ite_t H
        obtain rfl := ret_hid H
        go_wp2_with fail
        go_ret
        exact ⟨rfl, HBwt_35.out⟩
  | true =>
    replace H := ite_t H
    obtain rfl := ret_hid H
    go_wp2_with fail
    go_ret
    exact ⟨rfl, HBwt_4.out⟩
end Go.Proofs.Ytdgbigkcophjoaa.GlFnExactMatchCombs
