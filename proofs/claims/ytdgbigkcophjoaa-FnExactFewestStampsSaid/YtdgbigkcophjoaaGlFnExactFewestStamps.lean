/- loop.example/g01062/laws.FnExactFewestStamps as a plain function, and the contract of the program's: where the plain one has an answer, the program has it. Conditions: slices read as lists. -/
import Derived.Test.YtdgbigkcophjoaaChecked
import Derived.Test.YtdgbigkcophjoaaGoM
import Derived.Test.YtdgbigkcophjoaaGoRStamp
import Derived.Test.YtdgbigkcophjoaaGlSzStampS
import Derived.Test.YtdgbigkcophjoaaGlToStampS
import Derived.Test.YtdgbigkcophjoaaGsFewestStamps
import Derived.Test.YtdgbigkcophjoaaGiFewestStamps
import Derived.Test.YtdgbigkcophjoaaGlEqIntS
import Derived.Test.YtdgbigkcophjoaaGlEqStampS
import Derived.Test.YtdgbigkcophjoaaGlMarkStampS
import Derived.Test.YtdgbigkcophjoaaGlMarkIntS
import Derived.Test.YtdgbigkcophjoaaGlHeldIntS
import Derived.WalkKit
import Derived.WalkSpells
import Derived.WalkLawsBesides
import Derived.BigQuiet
import Derived.OwnWalk
import Derived.Deep.LoopGhost
import Derived.Deep.QuietTactic
import Derived.IntWalk
import Derived.Lib.QuietBelow
namespace Go.Proofs.Ytdgbigkcophjoaa.GlFnExactFewestStamps
set_option linter.unusedVariables false
set_option linter.unusedSimpArgs false
open Go.RowKit
open Go.Proofs.Ytdgbigkcophjoaa.Rowed Go.Proofs.Ytdgbigkcophjoaa.Turn Go.Proofs.Ytdgbigkcophjoaa.Aid Go.Proofs.Ytdgbigkcophjoaa.GoP Go.Proofs.Ytdgbigkcophjoaa.GoM

def P (fuel : Nat) (aList : (List Go.Proofs.Ytdgbigkcophjoaa.PlainStamp.St)) (aRate : Int) (aYear : Int) : Option (Bool) :=
  Option.bind (Go.Proofs.Ytdgbigkcophjoaa.GlSzStampS.P aList 1048576) fun (t_4 : Int) =>
  letK (decide (t_4 < 0)) fun (t_7 : Bool) =>
  iteK t_7
  (some true)
  (Option.bind (Go.Proofs.Ytdgbigkcophjoaa.GlToStampS.P aList) fun (t_10 : (List Go.Proofs.Ytdgbigkcophjoaa.PlainStamp.St)) =>
  bind2 (Go.Proofs.Ytdgbigkcophjoaa.GsFewestStamps.P fuel t_10 aRate aYear) fun (t_13a : (List Int)) (t_13b : Bool) =>
  Option.bind (Go.Proofs.Ytdgbigkcophjoaa.GlToStampS.P aList) fun (t_20 : (List Go.Proofs.Ytdgbigkcophjoaa.PlainStamp.St)) =>
  bind2 (Go.Proofs.Ytdgbigkcophjoaa.GiFewestStamps.P fuel t_20 aRate aYear) fun (t_25a : (List Int)) (t_25b : Bool) =>
  Option.bind (Go.Proofs.Ytdgbigkcophjoaa.GlEqIntS.P t_25a t_13a) fun (t_33 : Bool) =>
  letK (!t_33) fun (t_34 : Bool) =>
  joinK (fun (t_39 : Bool) =>
  iteK t_39
  (some false)
  (Option.bind (Go.Proofs.Ytdgbigkcophjoaa.GlToStampS.P aList) fun (t_43 : (List Go.Proofs.Ytdgbigkcophjoaa.PlainStamp.St)) =>
  Option.bind (Go.Proofs.Ytdgbigkcophjoaa.GlEqStampS.P t_20 t_43) fun (t_44 : Bool) =>
  letK (!t_44) fun (t_45 : Bool) =>
  iteK t_45
  (some false)
  (bind2 (Go.Proofs.Ytdgbigkcophjoaa.GlMarkStampS.P t_20 1) fun (t_50 : Int) (lt_50 : (List Go.Proofs.Ytdgbigkcophjoaa.PlainStamp.St)) =>
  letK (decide (t_50 < 0)) fun (t_53 : Bool) =>
  joinK (fun (t_59 : Bool) =>
  joinK (fun (t_64 : Bool) =>
  iteK t_64
  (some false)
  (bind2 (Go.Proofs.Ytdgbigkcophjoaa.GlMarkIntS.P t_25a 1) fun (t_69 : Int) (lt_69 : (List Int)) =>
  Option.bind (Go.Proofs.Ytdgbigkcophjoaa.GlHeldIntS.P lt_69 1) fun (t_74 : Int) =>
  letK (decide (t_74 < 0)) fun (t_77 : Bool) =>
  iteK t_77
  (some false)
  (letK (t_74 != t_69) fun (t_81 : Bool) =>
  iteK t_81
  (some false)
  (Option.bind (Go.Proofs.Ytdgbigkcophjoaa.GlToStampS.P aList) fun (t_84 : (List Go.Proofs.Ytdgbigkcophjoaa.PlainStamp.St)) =>
  bind2 (Go.Proofs.Ytdgbigkcophjoaa.GiFewestStamps.P fuel t_84 aRate aYear) fun (t_87a : (List Int)) (t_87b : Bool) =>
  Option.bind (Go.Proofs.Ytdgbigkcophjoaa.GlEqIntS.P t_87a t_13a) fun (t_95 : Bool) =>
  letK (!t_95) fun (t_96 : Bool) =>
  joinK (fun (t_101 : Bool) =>
  iteK t_101
  (some false)
  (Option.bind (Go.Proofs.Ytdgbigkcophjoaa.GlHeldIntS.P lt_69 1) fun (t_106 : Int) =>
  letK (decide (t_106 < 0)) fun (t_109 : Bool) =>
  iteK t_109
  (some false)
  (letK (t_106 != t_69) fun (t_113 : Bool) =>
  iteK t_113
  (some false)
  (some true)))) fun jt_101 => iteK t_96 (appK jt_101 true) (letK (!(t_87b == t_13b)) fun (t_100 : Bool) =>
  appK jt_101 t_100))))) fun jt_64 => iteK t_59 (appK jt_64 true) (letK (!(t_25b == t_13b)) fun (t_63 : Bool) =>
  appK jt_64 t_63)) fun jt_59 => iteK t_53 (appK jt_59 true) (Option.bind (Go.Proofs.Ytdgbigkcophjoaa.GlEqIntS.P t_25a t_13a) fun (t_57 : Bool) =>
  letK (!t_57) fun (t_58 : Bool) =>
  appK jt_59 t_58)))) fun jt_39 => iteK t_34 (appK jt_39 true) (letK (!(t_25b == t_13b)) fun (t_38 : Bool) =>
  appK jt_39 t_38))

set_option maxRecDepth 100000 in
set_option maxHeartbeats 2000000 in
theorem C (fuel : Nat) (aList : (List Go.Proofs.Ytdgbigkcophjoaa.PlainStamp.St)) (aRate : Int) (aYear : Int) (A0 : Option Addr) (c0 : Nat)  (w : World) (M0 : Hid (Cells w 4 A0 aList.length (Go.Proofs.Ytdgbigkcophjoaa.PlainStamp.flat aList))) (N0 : Hid (aList.length ≤ 9223372036854775807))  {r : Bool} (H : Hid (P fuel aList aRate aYear = some r)) :
    Calls Try.prog 4 #[.slice A0 aList.length c0, .int .i64 aRate, .int .i64 aYear] w (Gives (.bool r) w) := by
  have HB := Lib.hid (Below.refl w.heap.size w)
  unfold P at H
  have N0o := N0.out
  go_enter Try.func4, Try.ntmps4
  replace H := bind_hid H
  obtain ⟨t_4, qt_4, H⟩ := H
  go_wp2_with fail
  go_at_call 16
  refine (Go.Proofs.Ytdgbigkcophjoaa.GlSzStampS.C (aList) (1048576) A0 c0 _   (Lib.hid (Cells.below M0.out HB.out)) N0 qt_4).mono ?_
  rintro e_t_4 wt_4 ⟨rfl, bt_4⟩
  have HBwt_4 := Lib.hid (Below.step HB.out bt_4)
  clear bt_4
  replace H := let_hid H
  obtain ⟨t_7, ht_7, H⟩ := H
  cases t_7 with
  | false =>
    replace H := ite_f H
    replace H := bind_hid H
    obtain ⟨t_10, qt_10, H⟩ := H
    go_wp2_with fail
    go_at_call 18
    refine (Go.Proofs.Ytdgbigkcophjoaa.GlToStampS.C (aList) A0 c0 _   (Lib.hid (Cells.below M0.out HBwt_4.out)) N0 qt_10).mono ?_
    rintro e_t_10 wt_10 ⟨At_10, ct_10, rfl, ot_10, bt_10⟩
    have Ot_10 := Lib.hid (own_lower ot_10 HBwt_4.out.size)
    clear ot_10
    have HBwt_10 := Lib.hid (Below.step HBwt_4.out bt_10)
    clear bt_10
    replace H := bind2_hid H
    obtain ⟨t_13a, t_13b, qt_13, H⟩ := H
    go_wp2_with fail
    go_at_call 21
    refine (Go.Proofs.Ytdgbigkcophjoaa.GsFewestStamps.C fuel (t_10) (aRate) (aYear) At_10 ct_10 _   (Lib.hid (own_cells Ot_10.out)) (Lib.hid (own_max Ot_10.out)) (Lib.hid (own_room Ot_10.out)) qt_13).mono ?_
    rintro e_t_13 wt_13 ⟨At_13a, ct_13a, rfl, ot_13a, bt_13⟩
    have Dt_13a_t_10 := Lib.hid (apart_call ot_13a Ot_10.out)
    have Ot_13a := Lib.hid (own_lower ot_13a HBwt_10.out.size)
    clear ot_13a
    have HBwt_13 := Lib.hid (Below.step HBwt_10.out bt_13)
    replace Ot_10 := Lib.hid (own_below Ot_10.out bt_13)
    clear bt_13
    replace H := bind_hid H
    obtain ⟨t_20, qt_20, H⟩ := H
    go_wp2_with fail
    go_at_call 18
    refine (Go.Proofs.Ytdgbigkcophjoaa.GlToStampS.C (aList) A0 c0 _   (Lib.hid (Cells.below M0.out HBwt_13.out)) N0 qt_20).mono ?_
    rintro e_t_20 wt_20 ⟨At_20, ct_20, rfl, ot_20, bt_20⟩
    have Dt_20_t_10 := Lib.hid (apart_call ot_20 Ot_10.out)
    have Dt_20_t_13a := Lib.hid (apart_call ot_20 Ot_13a.out)
    have Ot_20 := Lib.hid (own_lower ot_20 HBwt_13.out.size)
    clear ot_20
    have HBwt_20 := Lib.hid (Below.step HBwt_13.out bt_20)
    replace Ot_10 := Lib.hid (own_below Ot_10.out bt_20)
    replace Ot_13a := Lib.hid (own_below Ot_13a.out bt_20)
    clear bt_20
    replace H := bind2_hid H
    obtain ⟨t_25a, t_25b, qt_25, H⟩ := H
    go_wp2_with fail
    go_at_call 22
    refine (Go.Proofs.Ytdgbigkcophjoaa.GiFewestStamps.C fuel (t_20) (aRate) (aYear) At_20 ct_20 _   (Lib.hid (own_cells Ot_20.out)) (Lib.hid (own_max Ot_20.out)) qt_25).mono ?_
    rintro e_t_25 wt_25 ⟨At_25a, ct_25a, rfl, ot_25a, bt_25⟩
    have Dt_25a_t_10 := Lib.hid (apart_call ot_25a Ot_10.out)
    have Dt_25a_t_13a := Lib.hid (apart_call ot_25a Ot_13a.out)
    have Dt_25a_t_20 := Lib.hid (apart_call ot_25a Ot_20.out)
    have Ot_25a := Lib.hid (own_lower ot_25a HBwt_20.out.size)
    clear ot_25a
    have HBwt_25 := Lib.hid (Below.step HBwt_20.out bt_25)
    replace Ot_10 := Lib.hid (own_below Ot_10.out bt_25)
    replace Ot_13a := Lib.hid (own_below Ot_13a.out bt_25)
    replace Ot_20 := Lib.hid (own_below Ot_20.out bt_25)
    clear bt_25
    replace H := bind_hid H
    obtain ⟨t_33, qt_33, H⟩ := H
    go_wp2_with fail
    go_at_call 23
    refine (Go.Proofs.Ytdgbigkcophjoaa.GlEqIntS.C (t_25a) (t_13a) At_25a ct_25a At_13a ct_13a _   (Lib.hid (own_cells Ot_25a.out)) (Lib.hid (own_max Ot_25a.out)) (Lib.hid (own_cells Ot_13a.out)) (Lib.hid (own_max Ot_13a.out)) qt_33).mono ?_
    rintro e_t_33 wt_33 ⟨rfl, bt_33⟩
    have HBwt_33 := Lib.hid (Below.step HBwt_25.out bt_33)
    replace Ot_10 := Lib.hid (own_below Ot_10.out bt_33)
    replace Ot_13a := Lib.hid (own_below Ot_13a.out bt_33)
    replace Ot_20 := Lib.hid (own_below Ot_20.out bt_33)
    replace Ot_25a := Lib.hid (own_below Ot_25a.out bt_33)
    clear bt_33
    cases t_33 with
    | false =>
      replace H := let_hid H
      obtain ⟨t_34, ht_34, H⟩ := H
      obtain rfl : t_34 = true := ht_34.symm
      replace H := join_hid H
      replace H := ite_t H
      replace H := app_hid H
      replace H := ite_t H
      obtain rfl := ret_hid H
      go_wp2_with fail
      go_ret
      exact ⟨rfl, HBwt_33.out⟩
    | true =>
      replace H := let_hid H
      obtain ⟨t_34, ht_34, H⟩ := H
      obtain rfl : t_34 = false := ht_34.symm
      replace H := join_hid H
      replace H := ite_f H
      replace H := let_hid H
      obtain ⟨t_38, ht_38, H⟩ := H
      replace H := app_hid H
      cases t_38 with
      | false =>
        replace H := ite_f H
        replace H := bind_hid H
        obtain ⟨t_43, qt_43, H⟩ := H
        go_wp2_with fail
        go_at_call 18
        refine (Go.Proofs.Ytdgbigkcophjoaa.GlToStampS.C (aList) A0 c0 _   (Lib.hid (Cells.below M0.out HBwt_33.out)) N0 qt_43).mono ?_
        rintro e_t_43 wt_43 ⟨At_43, ct_43, rfl, ot_43, bt_43⟩
        have Dt_43_t_10 := Lib.hid (apart_call ot_43 Ot_10.out)
        have Dt_43_t_13a := Lib.hid (apart_call ot_43 Ot_13a.out)
        have Dt_43_t_20 := Lib.hid (apart_call ot_43 Ot_20.out)
        have Dt_43_t_25a := Lib.hid (apart_call ot_43 Ot_25a.out)
        have Ot_43 := Lib.hid (own_lower ot_43 HBwt_33.out.size)
        clear ot_43
        have HBwt_43 := Lib.hid (Below.step HBwt_33.out bt_43)
        replace Ot_10 := Lib.hid (own_below Ot_10.out bt_43)
        replace Ot_13a := Lib.hid (own_below Ot_13a.out bt_43)
        replace Ot_20 := Lib.hid (own_below Ot_20.out bt_43)
        replace Ot_25a := Lib.hid (own_below Ot_25a.out bt_43)
        clear bt_43
        replace H := bind_hid H
        obtain ⟨t_44, qt_44, H⟩ := H
        go_wp2_with fail
        go_at_call 20
        refine (Go.Proofs.Ytdgbigkcophjoaa.GlEqStampS.C (t_20) (t_43) At_20 ct_20 At_43 ct_43 _   (Lib.hid (own_cells Ot_20.out)) (Lib.hid (own_max Ot_20.out)) (Lib.hid (own_cells Ot_43.out)) (Lib.hid (own_max Ot_43.out)) qt_44).mono ?_
        rintro e_t_44 wt_44 ⟨rfl, bt_44⟩
        have HBwt_44 := Lib.hid (Below.step HBwt_43.out bt_44)
        replace Ot_10 := Lib.hid (own_below Ot_10.out bt_44)
        replace Ot_13a := Lib.hid (own_below Ot_13a.out bt_44)
        replace Ot_20 := Lib.hid (own_below Ot_20.out bt_44)
        replace Ot_25a := Lib.hid (own_below Ot_25a.out bt_44)
        replace Ot_43 := Lib.hid (own_below Ot_43.out bt_44)
        clear bt_44
        cases t_44 with
        | false =>
          replace H := let_hid H
          obtain ⟨t_45, ht_45, H⟩ := H
          obtain rfl : t_45 = true := ht_45.symm
          replace H := ite_t H
          obtain rfl := ret_hid H
          go_wp2_with fail
          go_ret
          exact ⟨rfl, HBwt_44.out⟩
        | true =>
          replace H := let_hid H
          obtain ⟨t_45, ht_45, H⟩ := H
          obtain rfl : t_45 = false := ht_45.symm
          replace H := ite_f H
          replace H := bind2_hid H
          obtain ⟨t_50, lt_50, qt_50, H⟩ := H
          go_wp2_with fail
          go_at_call 24
          refine (Go.Proofs.Ytdgbigkcophjoaa.GlMarkStampS.C (t_20) (1) At_20 ct_20 w.heap.size _   Ot_20 (Lib.hid (own_max Ot_20.out))   qt_50).mono ?_
          rintro e_t_50 wt_50 ⟨rfl, ot_50, nt_50, gt_50⟩
          have Pt_50 := Lib.hid ot_50
          have Gt_50 := Lib.hid gt_50
          replace nt_50 := Lib.hid nt_50
          clear ot_50 gt_50
          have HBwt_50 := Lib.hid (HBwt_44.out.grown Gt_50.out HBwt_44.out.size (fun q hq => (Ot_20.out.lt q hq).1))
          replace Ot_10 := Lib.hid (own_other Ot_10.out Gt_50.out Dt_20_t_10.out)
          replace Ot_13a := Lib.hid (own_other Ot_13a.out Gt_50.out Dt_20_t_13a.out)
          replace Ot_25a := Lib.hid (own_other Ot_25a.out Gt_50.out (Apart.symm Dt_25a_t_20.out))
          replace Ot_43 := Lib.hid (own_other Ot_43.out Gt_50.out (Apart.symm Dt_43_t_20.out))
          clear Ot_20 Gt_50
          replace H := let_hid H
          obtain ⟨t_53, ht_53, H⟩ := H
          replace H := join_hid H
          cases t_53 with
          | false =>
            replace H := ite_f H
            replace H := bind_hid H
            obtain ⟨t_57, qt_57, H⟩ := H
            go_wp2_with fail
            go_at_call 23
            refine (Go.Proofs.Ytdgbigkcophjoaa.GlEqIntS.C (t_25a) (t_13a) At_25a ct_25a At_13a ct_13a _   (Lib.hid (own_cells Ot_25a.out)) (Lib.hid (own_max Ot_25a.out)) (Lib.hid (own_cells Ot_13a.out)) (Lib.hid (own_max Ot_13a.out)) qt_57).mono ?_
            rintro e_t_57 wt_57 ⟨rfl, bt_57⟩
            have HBwt_57 := Lib.hid (Below.step HBwt_50.out bt_57)
            replace Ot_10 := Lib.hid (own_below Ot_10.out bt_57)
            replace Ot_13a := Lib.hid (own_below Ot_13a.out bt_57)
            replace Pt_50 := Lib.hid (own_below Pt_50.out bt_57)
            replace Ot_25a := Lib.hid (own_below Ot_25a.out bt_57)
            replace Ot_43 := Lib.hid (own_below Ot_43.out bt_57)
            clear bt_57
            cases t_57 with
            | false =>
              replace H := let_hid H
              obtain ⟨t_58, ht_58, H⟩ := H
              obtain rfl : t_58 = true := ht_58.symm
              replace H := app_hid H
              replace H := join_hid H
              replace H := ite_t H
              replace H := app_hid H
              replace H := ite_t H
              obtain rfl := ret_hid H
              go_wp2_with fail
              go_ret
              exact ⟨rfl, HBwt_57.out⟩
            | true =>
              replace H := let_hid H
              obtain ⟨t_58, ht_58, H⟩ := H
              obtain rfl : t_58 = false := ht_58.symm
              replace H := app_hid H
              replace H := join_hid H
              replace H := ite_f H
              replace H := let_hid H
              obtain ⟨t_63, ht_63, H⟩ := H
              obtain rfl := ht_38.symm.trans ht_63
              replace H := app_hid H
              replace H := ite_f H
              replace H := bind2_hid H
              obtain ⟨t_69, lt_69, qt_69, H⟩ := H
              go_wp2_with fail
              go_at_call 25
              refine (Go.Proofs.Ytdgbigkcophjoaa.GlMarkIntS.C (t_25a) (1) At_25a ct_25a w.heap.size _   Ot_25a (Lib.hid (own_max Ot_25a.out))   qt_69).mono ?_
              rintro e_t_69 wt_69 ⟨rfl, ot_69, nt_69, gt_69⟩
              have Pt_69 := Lib.hid ot_69
              have Gt_69 := Lib.hid gt_69
              replace nt_69 := Lib.hid nt_69
              clear ot_69 gt_69
              have HBwt_69 := Lib.hid (HBwt_57.out.grown Gt_69.out HBwt_57.out.size (fun q hq => (Ot_25a.out.lt q hq).1))
              replace Ot_10 := Lib.hid (own_other Ot_10.out Gt_69.out Dt_25a_t_10.out)
              replace Ot_13a := Lib.hid (own_other Ot_13a.out Gt_69.out Dt_25a_t_13a.out)
              replace Pt_50 := Lib.hid (own_other Pt_50.out Gt_69.out Dt_25a_t_20.out)
              replace Ot_43 := Lib.hid (own_other Ot_43.out Gt_69.out (Apart.symm Dt_43_t_25a.out))
              clear Ot_25a Gt_69
              replace H := bind_hid H
              obtain ⟨t_74, qt_74, H⟩ := H
              go_wp2_with fail
              have hc_ := nt_69.out
              have hv_ : (Value.slice At_25a t_25a.length ct_25a : Value) = Value.slice At_25a lt_69.length ct_25a := by rw [hc_]
              try rw [hv_]
              replace Pt_69 := Lib.hid (own_len hc_ Pt_69.out)
              clear hc_ hv_
              go_wp2_with fail
              go_at_call 26
              refine (Go.Proofs.Ytdgbigkcophjoaa.GlHeldIntS.C (lt_69) (1) At_25a ct_25a _   (Lib.hid (own_cells Pt_69.out)) (Lib.hid (own_max Pt_69.out)) qt_74).mono ?_
              rintro e_t_74 wt_74 ⟨rfl, bt_74⟩
              have HBwt_74 := Lib.hid (Below.step HBwt_69.out bt_74)
              replace Ot_10 := Lib.hid (own_below Ot_10.out bt_74)
              replace Ot_13a := Lib.hid (own_below Ot_13a.out bt_74)
              replace Pt_50 := Lib.hid (own_below Pt_50.out bt_74)
              replace Pt_69 := Lib.hid (own_below Pt_69.out bt_74)
              replace Ot_43 := Lib.hid (own_below Ot_43.out bt_74)
              clear bt_74
              replace H := let_hid H
              obtain ⟨t_77, ht_77, H⟩ := H
              cases t_77 with
              | false =>
                replace H := ite_f H
                replace H := let_hid H
                obtain ⟨t_81, ht_81, H⟩ := H
                cases t_81 with
                | false =>
                  replace H := ite_f H
                  replace H := bind_hid H
                  obtain ⟨t_84, qt_84, H⟩ := H
                  go_wp2_with fail
                  go_at_call 18
                  refine (Go.Proofs.Ytdgbigkcophjoaa.GlToStampS.C (aList) A0 c0 _   (Lib.hid (Cells.below M0.out HBwt_74.out)) N0 qt_84).mono ?_
                  rintro e_t_84 wt_84 ⟨At_84, ct_84, rfl, ot_84, bt_84⟩
                  have Dt_84_t_10 := Lib.hid (apart_call ot_84 Ot_10.out)
                  have Dt_84_t_13a := Lib.hid (apart_call ot_84 Ot_13a.out)
                  have Dt_84_t_20 := Lib.hid (apart_call ot_84 Pt_50.out)
                  have Dt_84_t_25a := Lib.hid (apart_call ot_84 Pt_69.out)
                  have Dt_84_t_43 := Lib.hid (apart_call ot_84 Ot_43.out)
                  have Ot_84 := Lib.hid (own_lower ot_84 HBwt_74.out.size)
                  clear ot_84
                  have HBwt_84 := Lib.hid (Below.step HBwt_74.out bt_84)
                  replace Ot_10 := Lib.hid (own_below Ot_10.out bt_84)
                  replace Ot_13a := Lib.hid (own_below Ot_13a.out bt_84)
                  replace Pt_50 := Lib.hid (own_below Pt_50.out bt_84)
                  replace Pt_69 := Lib.hid (own_below Pt_69.out bt_84)
                  replace Ot_43 := Lib.hid (own_below Ot_43.out bt_84)
                  clear bt_84
                  replace H := bind2_hid H
                  obtain ⟨t_87a, t_87b, qt_87, H⟩ := H
                  go_wp2_with fail
                  go_at_call 22
                  refine (Go.Proofs.Ytdgbigkcophjoaa.GiFewestStamps.C fuel (t_84) (aRate) (aYear) At_84 ct_84 _   (Lib.hid (own_cells Ot_84.out)) (Lib.hid (own_max Ot_84.out)) qt_87).mono ?_
                  rintro e_t_87 wt_87 ⟨At_87a, ct_87a, rfl, ot_87a, bt_87⟩
                  have Dt_87a_t_10 := Lib.hid (apart_call ot_87a Ot_10.out)
                  have Dt_87a_t_13a := Lib.hid (apart_call ot_87a Ot_13a.out)
                  have Dt_87a_t_20 := Lib.hid (apart_call ot_87a Pt_50.out)
                  have Dt_87a_t_25a := Lib.hid (apart_call ot_87a Pt_69.out)
                  have Dt_87a_t_43 := Lib.hid (apart_call ot_87a Ot_43.out)
                  have Dt_87a_t_84 := Lib.hid (apart_call ot_87a Ot_84.out)
                  have Ot_87a := Lib.hid (own_lower ot_87a HBwt_84.out.size)
                  clear ot_87a
                  have HBwt_87 := Lib.hid (Below.step HBwt_84.out bt_87)
                  replace Ot_10 := Lib.hid (own_below Ot_10.out bt_87)
                  replace Ot_13a := Lib.hid (own_below Ot_13a.out bt_87)
                  replace Pt_50 := Lib.hid (own_below Pt_50.out bt_87)
                  replace Pt_69 := Lib.hid (own_below Pt_69.out bt_87)
                  replace Ot_43 := Lib.hid (own_below Ot_43.out bt_87)
                  replace Ot_84 := Lib.hid (own_below Ot_84.out bt_87)
                  clear bt_87
                  replace H := bind_hid H
                  obtain ⟨t_95, qt_95, H⟩ := H
                  go_wp2_with fail
                  go_at_call 23
                  refine (Go.Proofs.Ytdgbigkcophjoaa.GlEqIntS.C (t_87a) (t_13a) At_87a ct_87a At_13a ct_13a _   (Lib.hid (own_cells Ot_87a.out)) (Lib.hid (own_max Ot_87a.out)) (Lib.hid (own_cells Ot_13a.out)) (Lib.hid (own_max Ot_13a.out)) qt_95).mono ?_
                  rintro e_t_95 wt_95 ⟨rfl, bt_95⟩
                  have HBwt_95 := Lib.hid (Below.step HBwt_87.out bt_95)
                  replace Ot_10 := Lib.hid (own_below Ot_10.out bt_95)
                  replace Ot_13a := Lib.hid (own_below Ot_13a.out bt_95)
                  replace Pt_50 := Lib.hid (own_below Pt_50.out bt_95)
                  replace Pt_69 := Lib.hid (own_below Pt_69.out bt_95)
                  replace Ot_43 := Lib.hid (own_below Ot_43.out bt_95)
                  replace Ot_84 := Lib.hid (own_below Ot_84.out bt_95)
                  replace Ot_87a := Lib.hid (own_below Ot_87a.out bt_95)
                  clear bt_95
                  cases t_95 with
                  | false =>
                    replace H := let_hid H
                    obtain ⟨t_96, ht_96, H⟩ := H
                    obtain rfl : t_96 = true := ht_96.symm
                    replace H := join_hid H
                    replace H := ite_t H
                    replace H := app_hid H
                    replace H := ite_t H
                    obtain rfl := ret_hid H
                    go_wp2_with fail
                    go_ret
                    exact ⟨rfl, HBwt_95.out⟩
                  | true =>
                    replace H := let_hid H
                    obtain ⟨t_96, ht_96, H⟩ := H
                    obtain rfl : t_96 = false := ht_96.symm
                    replace H := join_hid H
                    replace H := ite_f H
                    replace H := let_hid H
                    obtain ⟨t_100, ht_100, H⟩ := H
                    replace H := app_hid H
                    cases t_100 with
                    | false =>
                      replace H := ite_f H
                      replace H := bind_hid H
                      obtain ⟨t_106, qt_106, H⟩ := H
                      go_wp2_with fail
                      go_at_call 26
                      refine (Go.Proofs.Ytdgbigkcophjoaa.GlHeldIntS.C (lt_69) (1) At_25a ct_25a _   (Lib.hid (own_cells Pt_69.out)) (Lib.hid (own_max Pt_69.out)) qt_106).mono ?_
                      rintro e_t_106 wt_106 ⟨rfl, bt_106⟩
                      have HBwt_106 := Lib.hid (Below.step HBwt_95.out bt_106)
                      replace Ot_10 := Lib.hid (own_below Ot_10.out bt_106)
                      replace Ot_13a := Lib.hid (own_below Ot_13a.out bt_106)
                      replace Pt_50 := Lib.hid (own_below Pt_50.out bt_106)
                      replace Pt_69 := Lib.hid (own_below Pt_69.out bt_106)
                      replace Ot_43 := Lib.hid (own_below Ot_43.out bt_106)
                      replace Ot_84 := Lib.hid (own_below Ot_84.out bt_106)
                      replace Ot_87a := Lib.hid (own_below Ot_87a.out bt_106)
                      clear bt_106
                      replace H := let_hid H
                      obtain ⟨t_109, ht_109, H⟩ := H
                      cases t_109 with
                      | false =>
                        replace H := ite_f H
                        replace H := let_hid H
                        obtain ⟨t_113, ht_113, H⟩ := H
                        cases t_113 with
                        | false =>
                          replace H := ite_f H
                          obtain rfl := ret_hid H
                          go_wp2_with fail
                          go_ret
                          exact ⟨rfl, HBwt_106.out⟩
                        | true =>
                          replace H := ite_t H
                          obtain rfl := ret_hid H
                          go_wp2_with fail
                          go_ret
                          exact ⟨rfl, HBwt_106.out⟩
                      | true =>
                        replace H := ite_t H
                        obtain rfl := ret_hid H
                        go_wp2_with fail
                        go_ret
                        exact ⟨rfl, HBwt_106.out⟩
                    | true =>
                      replace H := ite_t H
                      obtain rfl := ret_hid H
                      go_wp2_with fail
                      go_ret
                      exact ⟨rfl, HBwt_95.out⟩
                | true =>
                  replace H := ite_t H
                  obtain rfl := ret_hid H
                  go_wp2_with fail
                  go_ret
                  exact ⟨rfl, HBwt_74.out⟩
              | true =>
                replace H := ite_t H
                obtain rfl := ret_hid H
                go_wp2_with fail
                go_ret
                exact ⟨rfl, HBwt_74.out⟩
          | true =>
            replace H := ite_t H
            replace H := app_hid H
            replace H := join_hid H
            replace H := ite_t H
            replace H := app_hid H
            replace H := ite_t H
            obtain rfl := ret_hid H
            go_wp2_with fail
            go_ret
            exact ⟨rfl, HBwt_50.out⟩
      | true =>
        replace H := ite_t H
        obtain rfl := ret_hid H
        go_wp2_with fail
        go_ret
        exact ⟨rfl, HBwt_33.out⟩
  | true =>
    replace H := ite_t H
    obtain rfl := ret_hid H
    go_wp2_with fail
    go_ret
    exact ⟨rfl, HBwt_4.out⟩
end Go.Proofs.Ytdgbigkcophjoaa.GlFnExactFewestStamps
