/- loop.example/g01062/laws.FnExactSameGauges as a plain function, and the contract of the program's: where the plain one has an answer, the program has it. Conditions: slices read as lists. -/
import Derived.Test.YtdgbigkcophjoaaChecked
import Derived.Test.YtdgbigkcophjoaaGoM
import Derived.Test.YtdgbigkcophjoaaGoRComb
import Derived.Test.YtdgbigkcophjoaaGoN
import Derived.Test.YtdgbigkcophjoaaGlSzCombS
import Derived.Test.YtdgbigkcophjoaaGlToCombS
import Derived.Test.YtdgbigkcophjoaaGsSameGauges
import Derived.Test.YtdgbigkcophjoaaGiSameGauges
import Derived.Test.YtdgbigkcophjoaaGlEqIntSS
import Derived.Test.YtdgbigkcophjoaaGlEqCombS
import Derived.Test.YtdgbigkcophjoaaGlMarkCombS
import Derived.Test.YtdgbigkcophjoaaGlMarkIntSS
import Derived.Test.YtdgbigkcophjoaaGlHeldIntSS
import Derived.WalkKit
import Derived.WalkSpells
import Derived.WalkLawsBesides
import Derived.BigQuiet
import Derived.OwnWalk
import Derived.Deep.LoopGhost
import Derived.Deep.QuietTactic
import Derived.IntWalk
import Derived.Lib.QuietBelow
namespace Go.Proofs.Ytdgbigkcophjoaa.GlFnExactSameGauges
set_option linter.unusedVariables false
set_option linter.unusedSimpArgs false
open Go.RowKit
open Go.Proofs.Ytdgbigkcophjoaa.Rowed Go.Proofs.Ytdgbigkcophjoaa.Turn Go.Proofs.Ytdgbigkcophjoaa.Aid Go.Proofs.Ytdgbigkcophjoaa.GoP Go.Proofs.Ytdgbigkcophjoaa.GoM

def P (aList : (List Go.Proofs.Ytdgbigkcophjoaa.PComb.Comb)) : Option (Bool) :=
  Option.bind (Go.Proofs.Ytdgbigkcophjoaa.GlSzCombS.P aList 1048576) fun (t_4 : Int) =>
  letK (decide (t_4 < 0)) fun (t_7 : Bool) =>
  iteK t_7
  (some true)
  (Option.bind (Go.Proofs.Ytdgbigkcophjoaa.GlToCombS.P aList) fun (t_10 : (List Go.Proofs.Ytdgbigkcophjoaa.PComb.Comb)) =>
  bind2 (Go.Proofs.Ytdgbigkcophjoaa.GsSameGauges.P t_10) fun (t_11a : (List (List Int))) (t_11b : Bool) =>
  Option.bind (Go.Proofs.Ytdgbigkcophjoaa.GlToCombS.P aList) fun (t_18 : (List Go.Proofs.Ytdgbigkcophjoaa.PComb.Comb)) =>
  bind2 (Go.Proofs.Ytdgbigkcophjoaa.GiSameGauges.P t_18) fun (t_21a : (List (List Int))) (t_21b : Bool) =>
  Option.bind (Go.Proofs.Ytdgbigkcophjoaa.GlEqIntSS.P t_21a t_11a) fun (t_29 : Bool) =>
  letK (!t_29) fun (t_30 : Bool) =>
  joinK (fun (t_35 : Bool) =>
  iteK t_35
  (some false)
  (Option.bind (Go.Proofs.Ytdgbigkcophjoaa.GlToCombS.P aList) fun (t_39 : (List Go.Proofs.Ytdgbigkcophjoaa.PComb.Comb)) =>
  Option.bind (Go.Proofs.Ytdgbigkcophjoaa.GlEqCombS.P t_18 t_39) fun (t_40 : Bool) =>
  letK (!t_40) fun (t_41 : Bool) =>
  iteK t_41
  (some false)
  (bind2 (Go.Proofs.Ytdgbigkcophjoaa.GlMarkCombS.P t_18 1) fun (t_46 : Int) (lt_46 : (List Go.Proofs.Ytdgbigkcophjoaa.PComb.Comb)) =>
  letK (decide (t_46 < 0)) fun (t_49 : Bool) =>
  joinK (fun (t_55 : Bool) =>
  joinK (fun (t_60 : Bool) =>
  iteK t_60
  (some false)
  (bind2 (Go.Proofs.Ytdgbigkcophjoaa.GlMarkIntSS.P t_21a 1) fun (t_65 : Int) (lt_65 : (List (List Int))) =>
  Option.bind (Go.Proofs.Ytdgbigkcophjoaa.GlHeldIntSS.P lt_65 1) fun (t_70 : Int) =>
  letK (decide (t_70 < 0)) fun (t_73 : Bool) =>
  iteK t_73
  (some false)
  (letK (t_70 != t_65) fun (t_77 : Bool) =>
  iteK t_77
  (some false)
  (Option.bind (Go.Proofs.Ytdgbigkcophjoaa.GlToCombS.P aList) fun (t_80 : (List Go.Proofs.Ytdgbigkcophjoaa.PComb.Comb)) =>
  bind2 (Go.Proofs.Ytdgbigkcophjoaa.GiSameGauges.P t_80) fun (t_81a : (List (List Int))) (t_81b : Bool) =>
  Option.bind (Go.Proofs.Ytdgbigkcophjoaa.GlEqIntSS.P t_81a t_11a) fun (t_89 : Bool) =>
  letK (!t_89) fun (t_90 : Bool) =>
  joinK (fun (t_95 : Bool) =>
  iteK t_95
  (some false)
  (Option.bind (Go.Proofs.Ytdgbigkcophjoaa.GlHeldIntSS.P lt_65 1) fun (t_100 : Int) =>
  letK (decide (t_100 < 0)) fun (t_103 : Bool) =>
  iteK t_103
  (some false)
  (letK (t_100 != t_65) fun (t_107 : Bool) =>
  iteK t_107
  (some false)
  (some true)))) fun jt_95 => iteK t_90 (appK jt_95 true) (letK (!(t_81b == t_11b)) fun (t_94 : Bool) =>
  appK jt_95 t_94))))) fun jt_60 => iteK t_55 (appK jt_60 true) (letK (!(t_21b == t_11b)) fun (t_59 : Bool) =>
  appK jt_60 t_59)) fun jt_55 => iteK t_49 (appK jt_55 true) (Option.bind (Go.Proofs.Ytdgbigkcophjoaa.GlEqIntSS.P t_21a t_11a) fun (t_53 : Bool) =>
  letK (!t_53) fun (t_54 : Bool) =>
  appK jt_55 t_54)))) fun jt_35 => iteK t_30 (appK jt_35 true) (letK (!(t_21b == t_11b)) fun (t_34 : Bool) =>
  appK jt_35 t_34))

set_option maxRecDepth 100000 in
set_option maxHeartbeats 2000000 in
theorem C (aList : (List Go.Proofs.Ytdgbigkcophjoaa.PComb.Comb)) (A0 : Option Addr) (c0 : Nat)  (w : World) (M0 : Hid (Cells w 4 A0 aList.length (Go.Proofs.Ytdgbigkcophjoaa.PComb.flat aList))) (N0 : Hid (aList.length ≤ 9223372036854775807))  {r : Bool} (H : Hid (P aList = some r)) :
    Calls Try.prog 15 #[.slice A0 aList.length c0] w (Gives (.bool r) w) := by
  have HB := Lib.hid (Below.refl w.heap.size w)
  unfold P at H
  have N0o := N0.out
  go_enter Try.func15, Try.ntmps15
  replace H := bind_hid H
  obtain ⟨t_4, qt_4, H⟩ := H
  go_wp2_with fail
  go_at_call 46
  refine (Go.Proofs.Ytdgbigkcophjoaa.GlSzCombS.C (aList) (1048576) A0 c0 _   (Lib.hid (Cells.below M0.out HB.out)) N0 qt_4).mono ?_
  rintro e_t_4 wt_4 ⟨rfl, bt_4⟩
  have HBwt_4 := Lib.hid (Below.step HB.out bt_4)
  clear bt_4
  replace H := let_hid H
  obtain ⟨t_7, ht_7, H⟩ := H
  cases t_7 with
  | false =>
    replace H := ite_f H
    replace H := bind_hid H
    obtain ⟨t_10, qt_10, H⟩ := H
    go_wp2_with fail
    go_at_call 48
    refine (Go.Proofs.Ytdgbigkcophjoaa.GlToCombS.C (aList) A0 c0 _   (Lib.hid (Cells.below M0.out HBwt_4.out)) N0 qt_10).mono ?_
    rintro e_t_10 wt_10 ⟨At_10, ct_10, rfl, ot_10, bt_10⟩
    have Ot_10 := Lib.hid (own_lower ot_10 HBwt_4.out.size)
    clear ot_10
    have HBwt_10 := Lib.hid (Below.step HBwt_4.out bt_10)
    clear bt_10
    replace H := bind2_hid H
    obtain ⟨t_11a, t_11b, qt_11, H⟩ := H
    go_wp2_with fail
    go_at_call 56
    refine (Go.Proofs.Ytdgbigkcophjoaa.GsSameGauges.C (t_10) At_10 ct_10 _   (Lib.hid (own_cells Ot_10.out)) (Lib.hid (own_max Ot_10.out)) qt_11).mono ?_
    rintro e_t_11 wt_11 ⟨At_11a, ct_11a, rfl, ⟨Bt_11a, ot_11a⟩, bt_11⟩
    have Dt_11a_t_10 := Lib.hid (Go.Proofs.Ytdgbigkcophjoaa.GoN.nest_callrow ot_11a Ot_10.out)
    have Ot_11a := Lib.hid (Go.Proofs.Ytdgbigkcophjoaa.GoN.nest_lower ot_11a HBwt_10.out.size)
    clear ot_11a
    have HBwt_11 := Lib.hid (Below.step HBwt_10.out bt_11)
    replace Ot_10 := Lib.hid (own_below Ot_10.out bt_11)
    clear bt_11
    replace H := bind_hid H
    obtain ⟨t_18, qt_18, H⟩ := H
    go_wp2_with fail
    go_at_call 48
    refine (Go.Proofs.Ytdgbigkcophjoaa.GlToCombS.C (aList) A0 c0 _   (Lib.hid (Cells.below M0.out HBwt_11.out)) N0 qt_18).mono ?_
    rintro e_t_18 wt_18 ⟨At_18, ct_18, rfl, ot_18, bt_18⟩
    have Dt_18_t_10 := Lib.hid (apart_call ot_18 Ot_10.out)
    have Dt_18_t_11a := Lib.hid (Go.Proofs.Ytdgbigkcophjoaa.GoN.nest_call ot_18 Ot_11a.out)
    have Ot_18 := Lib.hid (own_lower ot_18 HBwt_11.out.size)
    clear ot_18
    have HBwt_18 := Lib.hid (Below.step HBwt_11.out bt_18)
    replace Ot_10 := Lib.hid (own_below Ot_10.out bt_18)
    replace Ot_11a := Lib.hid (Go.Proofs.Ytdgbigkcophjoaa.GoN.nest_below Ot_11a.out bt_18)
    clear bt_18
    replace H := bind2_hid H
    obtain ⟨t_21a, t_21b, qt_21, H⟩ := H
    go_wp2_with fail
    go_at_call 57
    refine (Go.Proofs.Ytdgbigkcophjoaa.GiSameGauges.C (t_18) At_18 ct_18 _   (Lib.hid (own_cells Ot_18.out)) (Lib.hid (own_max Ot_18.out)) (Lib.hid (own_room Ot_18.out)) qt_21).mono ?_
    rintro e_t_21 wt_21 ⟨At_21a, ct_21a, rfl, ⟨Bt_21a, ot_21a⟩, bt_21⟩
    have Dt_21a_t_10 := Lib.hid (Go.Proofs.Ytdgbigkcophjoaa.GoN.nest_callrow ot_21a Ot_10.out)
    have Dt_21a_t_11a := Lib.hid (Go.Proofs.Ytdgbigkcophjoaa.GoN.nest_callnest ot_21a Ot_11a.out)
    have Dt_21a_t_18 := Lib.hid (Go.Proofs.Ytdgbigkcophjoaa.GoN.nest_callrow ot_21a Ot_18.out)
    have Ot_21a := Lib.hid (Go.Proofs.Ytdgbigkcophjoaa.GoN.nest_lower ot_21a HBwt_18.out.size)
    clear ot_21a
    have HBwt_21 := Lib.hid (Below.step HBwt_18.out bt_21)
    replace Ot_10 := Lib.hid (own_below Ot_10.out bt_21)
    replace Ot_11a := Lib.hid (Go.Proofs.Ytdgbigkcophjoaa.GoN.nest_below Ot_11a.out bt_21)
    replace Ot_18 := Lib.hid (own_below Ot_18.out bt_21)
    clear bt_21
    replace H := bind_hid H
    obtain ⟨t_29, qt_29, H⟩ := H
    go_wp2_with fail
    go_at_call 58
    refine (Go.Proofs.Ytdgbigkcophjoaa.GlEqIntSS.C (t_21a) (t_11a) At_21a ct_21a At_11a ct_11a _   (Lib.hid (Go.Proofs.Ytdgbigkcophjoaa.GoN.nest_read Ot_21a.out)) (Lib.hid (Go.Proofs.Ytdgbigkcophjoaa.GoN.nest_max Ot_21a.out)) (Lib.hid (Go.Proofs.Ytdgbigkcophjoaa.GoN.nest_read Ot_11a.out)) (Lib.hid (Go.Proofs.Ytdgbigkcophjoaa.GoN.nest_max Ot_11a.out)) qt_29).mono ?_
    rintro e_t_29 wt_29 ⟨rfl, bt_29⟩
    have HBwt_29 := Lib.hid (Below.step HBwt_21.out bt_29)
    replace Ot_10 := Lib.hid (own_below Ot_10.out bt_29)
    replace Ot_11a := Lib.hid (Go.Proofs.Ytdgbigkcophjoaa.GoN.nest_below Ot_11a.out bt_29)
    replace Ot_18 := Lib.hid (own_below Ot_18.out bt_29)
    replace Ot_21a := Lib.hid (Go.Proofs.Ytdgbigkcophjoaa.GoN.nest_below Ot_21a.out bt_29)
    clear bt_29
    cases t_29 with
    | false =>
      replace H := let_hid H
      obtain ⟨t_30, ht_30, H⟩ := H
      obtain rfl : t_30 = true := ht_30.symm
      replace H := join_hid H
      replace H := ite_t H
      replace H := app_hid H
      replace H := ite_t H
      obtain rfl := ret_hid H
      go_wp2_with fail
      go_ret
      exact ⟨rfl, HBwt_29.out⟩
    | true =>
      replace H := let_hid H
      obtain ⟨t_30, ht_30, H⟩ := H
      obtain rfl : t_30 = false := ht_30.symm
      replace H := join_hid H
      replace H := ite_f H
      replace H := let_hid H
      obtain ⟨t_34, ht_34, H⟩ := H
      replace H := app_hid H
      cases t_34 with
      | false =>
        replace H := ite_f H
        replace H := bind_hid H
        obtain ⟨t_39, qt_39, H⟩ := H
        go_wp2_with fail
        go_at_call 48
        refine (Go.Proofs.Ytdgbigkcophjoaa.GlToCombS.C (aList) A0 c0 _   (Lib.hid (Cells.below M0.out HBwt_29.out)) N0 qt_39).mono ?_
        rintro e_t_39 wt_39 ⟨At_39, ct_39, rfl, ot_39, bt_39⟩
        have Dt_39_t_10 := Lib.hid (apart_call ot_39 Ot_10.out)
        have Dt_39_t_11a := Lib.hid (Go.Proofs.Ytdgbigkcophjoaa.GoN.nest_call ot_39 Ot_11a.out)
        have Dt_39_t_18 := Lib.hid (apart_call ot_39 Ot_18.out)
        have Dt_39_t_21a := Lib.hid (Go.Proofs.Ytdgbigkcophjoaa.GoN.nest_call ot_39 Ot_21a.out)
        have Ot_39 := Lib.hid (own_lower ot_39 HBwt_29.out.size)
        clear ot_39
        have HBwt_39 := Lib.hid (Below.step HBwt_29.out bt_39)
        replace Ot_10 := Lib.hid (own_below Ot_10.out bt_39)
        replace Ot_11a := Lib.hid (Go.Proofs.Ytdgbigkcophjoaa.GoN.nest_below Ot_11a.out bt_39)
        replace Ot_18 := Lib.hid (own_below Ot_18.out bt_39)
        replace Ot_21a := Lib.hid (Go.Proofs.Ytdgbigkcophjoaa.GoN.nest_below Ot_21a.out bt_39)
        clear bt_39
        replace H := bind_hid H
        obtain ⟨t_40, qt_40, H⟩ := H
        go_wp2_with fail
        go_at_call 50
        refine (Go.Proofs.Ytdgbigkcophjoaa.GlEqCombS.C (t_18) (t_39) At_18 ct_18 At_39 ct_39 _   (Lib.hid (own_cells Ot_18.out)) (Lib.hid (own_max Ot_18.out)) (Lib.hid (own_cells Ot_39.out)) (Lib.hid (own_max Ot_39.out)) qt_40).mono ?_
        rintro e_t_40 wt_40 ⟨rfl, bt_40⟩
        have HBwt_40 := Lib.hid (Below.step HBwt_39.out bt_40)
        replace Ot_10 := Lib.hid (own_below Ot_10.out bt_40)
        replace Ot_11a := Lib.hid (Go.Proofs.Ytdgbigkcophjoaa.GoN.nest_below Ot_11a.out bt_40)
        replace Ot_18 := Lib.hid (own_below Ot_18.out bt_40)
        replace Ot_21a := Lib.hid (Go.Proofs.Ytdgbigkcophjoaa.GoN.nest_below Ot_21a.out bt_40)
        replace Ot_39 := Lib.hid (own_below Ot_39.out bt_40)
        clear bt_40
        cases t_40 with
        | false =>
          replace H := let_hid H
          obtain ⟨t_41, ht_41, H⟩ := H
          obtain rfl : t_41 = true := ht_41.symm
          replace H := ite_t H
          obtain rfl := ret_hid H
          go_wp2_with fail
          go_ret
          exact ⟨rfl, HBwt_40.out⟩
        | true =>
          replace H := let_hid H
          obtain ⟨t_41, ht_41, H⟩ := H
          obtain rfl : t_41 = false := ht_41.symm
          replace H := ite_f H
          replace H := bind2_hid H
          obtain ⟨t_46, lt_46, qt_46, H⟩ := H
          go_wp2_with fail
          go_at_call 53
          refine (Go.Proofs.Ytdgbigkcophjoaa.GlMarkCombS.C (t_18) (1) At_18 ct_18 w.heap.size _   Ot_18 (Lib.hid (own_max Ot_18.out))   qt_46).mono ?_
          rintro e_t_46 wt_46 ⟨rfl, ot_46, nt_46, gt_46⟩
          have Pt_46 := Lib.hid ot_46
          have Gt_46 := Lib.hid gt_46
          replace nt_46 := Lib.hid nt_46
          clear ot_46 gt_46
          have HBwt_46 := Lib.hid (HBwt_40.out.grown Gt_46.out HBwt_40.out.size (fun q hq => (Ot_18.out.lt q hq).1))
          replace Ot_10 := Lib.hid (own_other Ot_10.out Gt_46.out Dt_18_t_10.out)
          replace Ot_11a := Lib.hid (Go.Proofs.Ytdgbigkcophjoaa.GoN.nest_other Ot_11a.out Gt_46.out Dt_18_t_11a.out)
          replace Ot_21a := Lib.hid (Go.Proofs.Ytdgbigkcophjoaa.GoN.nest_other Ot_21a.out Gt_46.out Dt_21a_t_18.out)
          replace Ot_39 := Lib.hid (own_other Ot_39.out Gt_46.out (Apart.symm Dt_39_t_18.out))
          clear Ot_18 Gt_46
          replace H := let_hid H
          obtain ⟨t_49, ht_49, H⟩ := H
          replace H := join_hid H
          cases t_49 with
          | false =>
            replace H := ite_f H
            replace H := bind_hid H
            obtain ⟨t_53, qt_53, H⟩ := H
            go_wp2_with fail
            go_at_call 58
            refine (Go.Proofs.Ytdgbigkcophjoaa.GlEqIntSS.C (t_21a) (t_11a) At_21a ct_21a At_11a ct_11a _   (Lib.hid (Go.Proofs.Ytdgbigkcophjoaa.GoN.nest_read Ot_21a.out)) (Lib.hid (Go.Proofs.Ytdgbigkcophjoaa.GoN.nest_max Ot_21a.out)) (Lib.hid (Go.Proofs.Ytdgbigkcophjoaa.GoN.nest_read Ot_11a.out)) (Lib.hid (Go.Proofs.Ytdgbigkcophjoaa.GoN.nest_max Ot_11a.out)) qt_53).mono ?_
            rintro e_t_53 wt_53 ⟨rfl, bt_53⟩
            have HBwt_53 := Lib.hid (Below.step HBwt_46.out bt_53)
            replace Ot_10 := Lib.hid (own_below Ot_10.out bt_53)
            replace Ot_11a := Lib.hid (Go.Proofs.Ytdgbigkcophjoaa.GoN.nest_below Ot_11a.out bt_53)
            replace Pt_46 := Lib.hid (own_below Pt_46.out bt_53)
            replace Ot_21a := Lib.hid (Go.Proofs.Ytdgbigkcophjoaa.GoN.nest_below Ot_21a.out bt_53)
            replace Ot_39 := Lib.hid (own_below Ot_39.out bt_53)
            clear bt_53
            cases t_53 with
            | false =>
              replace H := let_hid H
              obtain ⟨t_54, ht_54, H⟩ := H
              obtain rfl : t_54 = true := ht_54.symm
              replace H := app_hid H
              replace H := join_hid H
              replace H := ite_t H
              replace H := app_hid H
              replace H := ite_t H
              obtain rfl := ret_hid H
              go_wp2_with fail
              go_ret
              exact ⟨rfl, HBwt_53.out⟩
            | true =>
              replace H := let_hid H
              obtain ⟨t_54, ht_54, H⟩ := H
              obtain rfl : t_54 = false := ht_54.symm
              replace H := app_hid H
              replace H := join_hid H
              replace H := ite_f H
              replace H := let_hid H
              obtain ⟨t_59, ht_59, H⟩ := H
              obtain rfl := ht_34.symm.trans ht_59
              replace H := app_hid H
              replace H := ite_f H
              replace H := bind2_hid H
              obtain ⟨t_65, lt_65, qt_65, H⟩ := H
              go_wp2_with fail
              go_at_call 59
              refine (Go.Proofs.Ytdgbigkcophjoaa.GlMarkIntSS.C (t_21a) (1) At_21a ct_21a w.heap.size Bt_21a _   Ot_21a (Lib.hid (Go.Proofs.Ytdgbigkcophjoaa.GoN.nest_max Ot_21a.out))   qt_65).mono ?_
              rintro e_t_65 wt_65 ⟨rfl, ot_65, nt_65, gt_65⟩
              have Pt_65 := Lib.hid ot_65
              have Gt_65 := Lib.hid gt_65
              replace nt_65 := Lib.hid nt_65
              clear ot_65 gt_65
              have HBwt_65 := Lib.hid (Go.Proofs.Ytdgbigkcophjoaa.GoN.below_nest HBwt_53.out Gt_65.out HBwt_53.out.size (Go.Proofs.Ytdgbigkcophjoaa.GoN.nest_lt Ot_21a.out))
              replace Ot_10 := Lib.hid (Go.Proofs.Ytdgbigkcophjoaa.GoN.own_otherN Ot_10.out Gt_65.out Dt_21a_t_10.out)
              replace Ot_11a := Lib.hid (Go.Proofs.Ytdgbigkcophjoaa.GoN.nest_otherN Ot_11a.out Gt_65.out (Go.Proofs.Ytdgbigkcophjoaa.GoN.nest_flip Dt_21a_t_11a.out))
              replace Pt_46 := Lib.hid (Go.Proofs.Ytdgbigkcophjoaa.GoN.own_otherN Pt_46.out Gt_65.out Dt_21a_t_18.out)
              replace Ot_39 := Lib.hid (Go.Proofs.Ytdgbigkcophjoaa.GoN.own_otherN Ot_39.out Gt_65.out Dt_39_t_21a.out)
              clear Ot_21a Gt_65
              replace H := bind_hid H
              obtain ⟨t_70, qt_70, H⟩ := H
              go_wp2_with fail
              have hc_ := nt_65.out
              have hv_ : (Value.slice At_21a t_21a.length ct_21a : Value) = Value.slice At_21a lt_65.length ct_21a := by rw [hc_]
              try rw [hv_]
              clear hc_ hv_
              go_wp2_with fail
              go_at_call 60
              refine (Go.Proofs.Ytdgbigkcophjoaa.GlHeldIntSS.C (lt_65) (1) At_21a ct_21a _   (Lib.hid (Go.Proofs.Ytdgbigkcophjoaa.GoN.nest_read Pt_65.out)) (Lib.hid (Go.Proofs.Ytdgbigkcophjoaa.GoN.nest_max Pt_65.out)) qt_70).mono ?_
              rintro e_t_70 wt_70 ⟨rfl, bt_70⟩
              have HBwt_70 := Lib.hid (Below.step HBwt_65.out bt_70)
              replace Ot_10 := Lib.hid (own_below Ot_10.out bt_70)
              replace Ot_11a := Lib.hid (Go.Proofs.Ytdgbigkcophjoaa.GoN.nest_below Ot_11a.out bt_70)
              replace Pt_46 := Lib.hid (own_below Pt_46.out bt_70)
              replace Pt_65 := Lib.hid (Go.Proofs.Ytdgbigkcophjoaa.GoN.nest_below Pt_65.out bt_70)
              replace Ot_39 := Lib.hid (own_below Ot_39.out bt_70)
              clear bt_70
              replace H := let_hid H
              obtain ⟨t_73, ht_73, H⟩ := H
              cases t_73 with
              | false =>
                replace H := ite_f H
                replace H := let_hid H
                obtain ⟨t_77, ht_77, H⟩ := H
                cases t_77 with
                | false =>
                  replace H := ite_f H
                  replace H := bind_hid H
                  obtain ⟨t_80, qt_80, H⟩ := H
                  go_wp2_with fail
                  go_at_call 48
                  refine (Go.Proofs.Ytdgbigkcophjoaa.GlToCombS.C (aList) A0 c0 _   (Lib.hid (Cells.below M0.out HBwt_70.out)) N0 qt_80).mono ?_
                  rintro e_t_80 wt_80 ⟨At_80, ct_80, rfl, ot_80, bt_80⟩
                  have Dt_80_t_10 := Lib.hid (apart_call ot_80 Ot_10.out)
                  have Dt_80_t_11a := Lib.hid (Go.Proofs.Ytdgbigkcophjoaa.GoN.nest_call ot_80 Ot_11a.out)
                  have Dt_80_t_18 := Lib.hid (apart_call ot_80 Pt_46.out)
                  have Dt_80_t_21a := Lib.hid (Go.Proofs.Ytdgbigkcophjoaa.GoN.nest_call ot_80 Pt_65.out)
                  have Dt_80_t_39 := Lib.hid (apart_call ot_80 Ot_39.out)
                  have Ot_80 := Lib.hid (own_lower ot_80 HBwt_70.out.size)
                  clear ot_80
                  have HBwt_80 := Lib.hid (Below.step HBwt_70.out bt_80)
                  replace Ot_10 := Lib.hid (own_below Ot_10.out bt_80)
                  replace Ot_11a := Lib.hid (Go.Proofs.Ytdgbigkcophjoaa.GoN.nest_below Ot_11a.out bt_80)
                  replace Pt_46 := Lib.hid (own_below Pt_46.out bt_80)
                  replace Pt_65 := Lib.hid (Go.Proofs.Ytdgbigkcophjoaa.GoN.nest_below Pt_65.out bt_80)
                  replace Ot_39 := Lib.hid (own_below Ot_39.out bt_80)
                  clear bt_80
                  replace H := bind2_hid H
                  obtain ⟨t_81a, t_81b, qt_81, H⟩ := H
                  go_wp2_with fail
                  go_at_call 57
                  refine (Go.Proofs.Ytdgbigkcophjoaa.GiSameGauges.C (t_80) At_80 ct_80 _   (Lib.hid (own_cells Ot_80.out)) (Lib.hid (own_max Ot_80.out)) (Lib.hid (own_room Ot_80.out)) qt_81).mono ?_
                  rintro e_t_81 wt_81 ⟨At_81a, ct_81a, rfl, ⟨Bt_81a, ot_81a⟩, bt_81⟩
                  have Dt_81a_t_10 := Lib.hid (Go.Proofs.Ytdgbigkcophjoaa.GoN.nest_callrow ot_81a Ot_10.out)
                  have Dt_81a_t_11a := Lib.hid (Go.Proofs.Ytdgbigkcophjoaa.GoN.nest_callnest ot_81a Ot_11a.out)
                  have Dt_81a_t_18 := Lib.hid (Go.Proofs.Ytdgbigkcophjoaa.GoN.nest_callrow ot_81a Pt_46.out)
                  have Dt_81a_t_21a := Lib.hid (Go.Proofs.Ytdgbigkcophjoaa.GoN.nest_callnest ot_81a Pt_65.out)
                  have Dt_81a_t_39 := Lib.hid (Go.Proofs.Ytdgbigkcophjoaa.GoN.nest_callrow ot_81a Ot_39.out)
                  have Dt_81a_t_80 := Lib.hid (Go.Proofs.Ytdgbigkcophjoaa.GoN.nest_callrow ot_81a Ot_80.out)
                  have Ot_81a := Lib.hid (Go.Proofs.Ytdgbigkcophjoaa.GoN.nest_lower ot_81a HBwt_80.out.size)
                  clear ot_81a
                  have HBwt_81 := Lib.hid (Below.step HBwt_80.out bt_81)
                  replace Ot_10 := Lib.hid (own_below Ot_10.out bt_81)
                  replace Ot_11a := Lib.hid (Go.Proofs.Ytdgbigkcophjoaa.GoN.nest_below Ot_11a.out bt_81)
                  replace Pt_46 := Lib.hid (own_below Pt_46.out bt_81)
                  replace Pt_65 := Lib.hid (Go.Proofs.Ytdgbigkcophjoaa.GoN.nest_below Pt_65.out bt_81)
                  replace Ot_39 := Lib.hid (own_below Ot_39.out bt_81)
                  replace Ot_80 := Lib.hid (own_below Ot_80.out bt_81)
                  clear bt_81
                  replace H := bind_hid H
                  obtain ⟨t_89, qt_89, H⟩ := H
                  go_wp2_with fail
                  go_at_call 58
                  refine (Go.Proofs.Ytdgbigkcophjoaa.GlEqIntSS.C (t_81a) (t_11a) At_81a ct_81a At_11a ct_11a _   (Lib.hid (Go.Proofs.Ytdgbigkcophjoaa.GoN.nest_read Ot_81a.out)) (Lib.hid (Go.Proofs.Ytdgbigkcophjoaa.GoN.nest_max Ot_81a.out)) (Lib.hid (Go.Proofs.Ytdgbigkcophjoaa.GoN.nest_read Ot_11a.out)) (Lib.hid (Go.Proofs.Ytdgbigkcophjoaa.GoN.nest_max Ot_11a.out)) qt_89).mono ?_
                  rintro e_t_89 wt_89 ⟨rfl, bt_89⟩
                  have HBwt_89 := Lib.hid (Below.step HBwt_81.out bt_89)
                  replace Ot_10 := Lib.hid (own_below Ot_10.out bt_89)
                  replace Ot_11a := Lib.hid (Go.Proofs.Ytdgbigkcophjoaa.GoN.nest_below Ot_11a.out bt_89)
                  replace Pt_46 := Lib.hid (own_below Pt_46.out bt_89)
                  replace Pt_65 := Lib.hid (Go.Proofs.Ytdgbigkcophjoaa.GoN.nest_below Pt_65.out bt_89)
                  replace Ot_39 := Lib.hid (own_below Ot_39.out bt_89)
                  replace Ot_80 := Lib.hid (own_below Ot_80.out bt_89)
                  replace Ot_81a := Lib.hid (Go.Proofs.Ytdgbigkcophjoaa.GoN.nest_below Ot_81a.out bt_89)
                  clear bt_89
                  cases t_89 with
                  | false =>
                    replace H := let_hid H
                    obtain ⟨t_90, ht_90, H⟩ := H
                    obtain rfl : t_90 = true := ht_90.symm
                    replace H := join_hid H
                    replace H := ite_t H
                    replace H := app_hid H
                    replace H := ite_t H
                    obtain rfl := ret_hid H
                    go_wp2_with fail
                    go_ret
                    exact ⟨rfl, HBwt_89.out⟩
                  | true =>
                    replace H := let_hid H
                    obtain ⟨t_90, ht_90, H⟩ := H
                    obtain rfl : t_90 = false := ht_90.symm
                    replace H := join_hid H
                    replace H := ite_f H
                    replace H := let_hid H
                    obtain ⟨t_94, ht_94, H⟩ := H
                    replace H := app_hid H
                    cases t_94 with
                    | false =>
                      replace H := ite_f H
                      replace H := bind_hid H
                      obtain ⟨t_100, qt_100, H⟩ := H
                      go_wp2_with fail
                      go_at_call 60
                      refine (Go.Proofs.Ytdgbigkcophjoaa.GlHeldIntSS.C (lt_65) (1) At_21a ct_21a _   (Lib.hid (Go.Proofs.Ytdgbigkcophjoaa.GoN.nest_read Pt_65.out)) (Lib.hid (Go.Proofs.Ytdgbigkcophjoaa.GoN.nest_max Pt_65.out)) qt_100).mono ?_
                      rintro e_t_100 wt_100 ⟨rfl, bt_100⟩
                      have HBwt_100 := Lib.hid (Below.step HBwt_89.out bt_100)
                      replace Ot_10 := Lib.hid (own_below Ot_10.out bt_100)
                      replace Ot_11a := Lib.hid (Go.Proofs.Ytdgbigkcophjoaa.GoN.nest_below Ot_11a.out bt_100)
                      replace Pt_46 := Lib.hid (own_below Pt_46.out bt_100)
                      replace Pt_65 := Lib.hid (Go.Proofs.Ytdgbigkcophjoaa.GoN.nest_below Pt_65.out bt_100)
                      replace Ot_39 := Lib.hid (own_below Ot_39.out bt_100)
                      replace Ot_80 := Lib.hid (own_below Ot_80.out bt_100)
                      replace Ot_81a := Lib.hid (Go.Proofs.Ytdgbigkcophjoaa.GoN.nest_below Ot_81a.out bt_100)
                      clear bt_100
                      replace H := let_hid H
                      obtain ⟨t_103, ht_103, H⟩ := H
                      cases t_103 with
                      | false =>
                        replace H := ite_f H
                        replace H := let_hid H
                        obtain ⟨t_107, ht_107, H⟩ := H
                        cases t_107 with
                        | false =>
                          replace H := ite_f H
                          obtain rfl := ret_hid H
                          go_wp2_with fail
                          go_ret
                          exact ⟨rfl, HBwt_100.out⟩
                        | true =>
                          replace H := ite_t H
                          obtain rfl := ret_hid H
                          go_wp2_with fail
                          go_ret
                          exact ⟨rfl, HBwt_100.out⟩
                      | true =>
                        replace H := ite_t H
                        obtain rfl := ret_hid H
                        go_wp2_with fail
                        go_ret
                        exact ⟨rfl, HBwt_100.out⟩
                    | true =>
                      replace H := ite_t H
                      obtain rfl := ret_hid H
                      go_wp2_with fail
                      go_ret
                      exact ⟨rfl, HBwt_89.out⟩
                | true =>
                  replace H := ite_t H
                  obtain rfl := ret_hid H
                  go_wp2_with fail
                  go_ret
                  exact ⟨rfl, HBwt_70.out⟩
              | true =>
                replace H := ite_t H
                obtain rfl := ret_hid H
                go_wp2_with fail
                go_ret
                exact ⟨rfl, HBwt_70.out⟩
          | true =>
            replace H := ite_t H
            replace H := app_hid H
            replace H := join_hid H
            replace H := ite_t H
            replace H := app_hid H
            replace H := ite_t H
            obtain rfl := ret_hid H
            go_wp2_with fail
            go_ret
            exact ⟨rfl, HBwt_46.out⟩
      | true =>
        replace H := ite_t H
        obtain rfl := ret_hid H
        go_wp2_with fail
        go_ret
        exact ⟨rfl, HBwt_29.out⟩
  | true =>
    replace H := ite_t H
    obtain rfl := ret_hid H
    go_wp2_with fail
    go_ret
    exact ⟨rfl, HBwt_4.out⟩
end Go.Proofs.Ytdgbigkcophjoaa.GlFnExactSameGauges
