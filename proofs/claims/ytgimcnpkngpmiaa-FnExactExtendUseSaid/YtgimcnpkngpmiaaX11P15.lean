/- Texts on which the proofs of several laws stand, one behind the other (15 of 18). No condition of their own. -/
import Derived.Test.YtgimcnpkngpmiaaChecked
import Derived.Test.YtgimcnpkngpmiaaX11P1
import Derived.Test.YtgimcnpkngpmiaaX11P3
import Derived.Test.YtgimcnpkngpmiaaX11P6
import Derived.Test.YtgimcnpkngpmiaaX11P5
import Derived.WalkKit
import Derived.WalkSpells
import Derived.WalkLawsBesides
import Derived.BigQuiet
import Derived.OwnWalk
import Derived.Deep.LoopGhost
import Derived.Deep.QuietTactic
import Derived.IntWalk
import Derived.Lib.QuietBelow
import Derived.Test.YtgimcnpkngpmiaaX11P2
/- loop.example/g01062/laws.FnExactExtendUse as a plain function, and the contract of the program's: where the plain one has an answer, the program has it. Conditions: slices read as lists. -/
namespace Go.Proofs.Ytgimcnpkngpmiaa.GlFnExactExtendUse
set_option linter.unusedVariables false
set_option linter.unusedSimpArgs false
open Go.RowKit
open Go.Proofs.Ytgimcnpkngpmiaa.Rowed Go.Proofs.Ytgimcnpkngpmiaa.Turn Go.Proofs.Ytgimcnpkngpmiaa.Aid Go.Proofs.Ytgimcnpkngpmiaa.GoP Go.Proofs.Ytgimcnpkngpmiaa.GoM

def P (fuel : Nat) (aList : (List Go.Proofs.Ytgimcnpkngpmiaa.PPostmark.Postmark)) (aId : Int) (aDay : Int) : Option (Bool) :=
  Option.bind (Go.Proofs.Ytgimcnpkngpmiaa.GlSzPostmarkS.P aList 1048576) fun (t_4 : Int) =>
  letK (decide (t_4 < 0)) fun (t_7 : Bool) =>
  iteK t_7
  (some true)
  (Option.bind (Go.Proofs.Ytgimcnpkngpmiaa.GlToPostmarkS.P aList) fun (t_10 : (List Go.Proofs.Ytgimcnpkngpmiaa.PPostmark.Postmark)) =>
  bind3 (Go.Proofs.Ytgimcnpkngpmiaa.GsExtendUse.P fuel t_10 aId aDay) fun (t_13a : (List Go.Proofs.Ytgimcnpkngpmiaa.PPostmark.Postmark)) (t_13b : Int) (t_13c : Bool) =>
  Option.bind (Go.Proofs.Ytgimcnpkngpmiaa.GlToPostmarkS.P aList) fun (t_22 : (List Go.Proofs.Ytgimcnpkngpmiaa.PPostmark.Postmark)) =>
  bind3 (Go.Proofs.Ytgimcnpkngpmiaa.GiExtendUse.P t_22 aId aDay) fun (t_27a : (List Go.Proofs.Ytgimcnpkngpmiaa.PPostmark.Postmark)) (t_27b : Int) (t_27c : Bool) =>
  Option.bind (Go.Proofs.Ytgimcnpkngpmiaa.GlEqPostmarkS.P t_27a t_13a) fun (t_37 : Bool) =>
  letK (!t_37) fun (t_38 : Bool) =>
  joinK (fun (t_43 : Bool) =>
  joinK (fun (t_48 : Bool) =>
  iteK t_48
  (some false)
  (Option.bind (Go.Proofs.Ytgimcnpkngpmiaa.GlToPostmarkS.P aList) fun (t_52 : (List Go.Proofs.Ytgimcnpkngpmiaa.PPostmark.Postmark)) =>
  Option.bind (Go.Proofs.Ytgimcnpkngpmiaa.GlEqPostmarkS.P t_22 t_52) fun (t_53 : Bool) =>
  letK (!t_53) fun (t_54 : Bool) =>
  iteK t_54
  (some false)
  (bind2 (Go.Proofs.Ytgimcnpkngpmiaa.GlMarkPostmarkS.P t_22 1) fun (t_59 : Int) (lt_59 : (List Go.Proofs.Ytgimcnpkngpmiaa.PPostmark.Postmark)) =>
  letK (decide (t_59 < 0)) fun (t_62 : Bool) =>
  joinK (fun (t_68 : Bool) =>
  joinK (fun (t_73 : Bool) =>
  joinK (fun (t_78 : Bool) =>
  iteK t_78
  (some false)
  (bind2 (Go.Proofs.Ytgimcnpkngpmiaa.GlMarkPostmarkS.P t_27a 1) fun (t_83 : Int) (lt_83 : (List Go.Proofs.Ytgimcnpkngpmiaa.PPostmark.Postmark)) =>
  Option.bind (Go.Proofs.Ytgimcnpkngpmiaa.GlHeldPostmarkS.P lt_83 1) fun (t_88 : Int) =>
  letK (decide (t_88 < 0)) fun (t_91 : Bool) =>
  iteK t_91
  (some false)
  (letK (t_88 != t_83) fun (t_95 : Bool) =>
  iteK t_95
  (some false)
  (Option.bind (Go.Proofs.Ytgimcnpkngpmiaa.GlToPostmarkS.P aList) fun (t_98 : (List Go.Proofs.Ytgimcnpkngpmiaa.PPostmark.Postmark)) =>
  bind3 (Go.Proofs.Ytgimcnpkngpmiaa.GiExtendUse.P t_98 aId aDay) fun (t_101a : (List Go.Proofs.Ytgimcnpkngpmiaa.PPostmark.Postmark)) (t_101b : Int) (t_101c : Bool) =>
  Option.bind (Go.Proofs.Ytgimcnpkngpmiaa.GlEqPostmarkS.P t_101a t_13a) fun (t_111 : Bool) =>
  letK (!t_111) fun (t_112 : Bool) =>
  joinK (fun (t_117 : Bool) =>
  joinK (fun (t_122 : Bool) =>
  iteK t_122
  (some false)
  (Option.bind (Go.Proofs.Ytgimcnpkngpmiaa.GlHeldPostmarkS.P lt_83 1) fun (t_127 : Int) =>
  letK (decide (t_127 < 0)) fun (t_130 : Bool) =>
  iteK t_130
  (some false)
  (letK (t_127 != t_83) fun (t_134 : Bool) =>
  iteK t_134
  (some false)
  (some true)))) fun jt_122 => iteK t_117 (appK jt_122 true) (letK (!(t_101c == t_13c)) fun (t_121 : Bool) =>
  appK jt_122 t_121)) fun jt_117 => iteK t_112 (appK jt_117 true) (letK (t_101b != t_13b) fun (t_116 : Bool) =>
  appK jt_117 t_116))))) fun jt_78 => iteK t_73 (appK jt_78 true) (letK (!(t_27c == t_13c)) fun (t_77 : Bool) =>
  appK jt_78 t_77)) fun jt_73 => iteK t_68 (appK jt_73 true) (letK (t_27b != t_13b) fun (t_72 : Bool) =>
  appK jt_73 t_72)) fun jt_68 => iteK t_62 (appK jt_68 true) (Option.bind (Go.Proofs.Ytgimcnpkngpmiaa.GlEqPostmarkS.P t_27a t_13a) fun (t_66 : Bool) =>
  letK (!t_66) fun (t_67 : Bool) =>
  appK jt_68 t_67)))) fun jt_48 => iteK t_43 (appK jt_48 true) (letK (!(t_27c == t_13c)) fun (t_47 : Bool) =>
  appK jt_48 t_47)) fun jt_43 => iteK t_38 (appK jt_43 true) (letK (t_27b != t_13b) fun (t_42 : Bool) =>
  appK jt_43 t_42))

set_option maxRecDepth 100000 in
set_option maxHeartbeats 2000000 in
theorem C (fuel : Nat) (aList : (List Go.Proofs.Ytgimcnpkngpmiaa.PPostmark.Postmark)) (aId : Int) (aDay : Int) (A0 : Option Addr) (c0 : Nat)  (w : World) (M0 : Hid (Cells w 6 A0 aList.length (Go.Proofs.Ytgimcnpkngpmiaa.PPostmark.flat aList))) (N0 : Hid (aList.length ≤ 9223372036854775807))  {r : Bool} (H : Hid (P fuel aList aId aDay = some r)) :
    Calls Try.prog 8 #[.slice A0 aList.length c0, .int .i64 aId, .int .i64 aDay] w (Gives (.bool r) w) := by
  have HB := Lib.hid (Below.refl w.heap.size w)
  unfold P at H
  have N0o := N0.out
  go_enter Try.func8, Try.ntmps8
  replace H := bind_hid H
  obtain ⟨t_4, qt_4, H⟩ := H
  go_wp2_with fail
  go_at_call 16
  refine (Go.Proofs.Ytgimcnpkngpmiaa.GlSzPostmarkS.C (aList) (1048576) A0 c0 _   (Lib.hid (Cells.below M0.out HB.out)) N0 qt_4).mono ?_
  rintro e_t_4 wt_4 ⟨rfl, bt_4⟩
  have HBwt_4 := Lib.hid (Below.step HB.out bt_4)
  clear bt_4
  replace H := let_hid H
  obtain ⟨t_7, ht_7, H⟩ := H
  cases t_7 with
  | false =>
    replace H := ite_f H
    replace H := bind_hid H
    obtain ⟨t_10, qt_10, H⟩ := H
    go_wp2_with fail
    go_at_call 18
    refine (Go.Proofs.Ytgimcnpkngpmiaa.GlToPostmarkS.C (aList) A0 c0 _   (Lib.hid (Cells.below M0.out HBwt_4.out)) N0 qt_10).mono ?_
    rintro e_t_10 wt_10 ⟨At_10, ct_10, rfl, ot_10, bt_10⟩
    have Ot_10 := Lib.hid (own_lower ot_10 HBwt_4.out.size)
    clear ot_10
    have HBwt_10 := Lib.hid (Below.step HBwt_4.out bt_10)
    clear bt_10
    replace H := bind3_hid H
    obtain ⟨t_13a, t_13b, t_13c, qt_13, H⟩ := H
    go_wp2_with fail
    go_at_call 29
    refine (Go.Proofs.Ytgimcnpkngpmiaa.GsExtendUse.C fuel (t_10) (aId) (aDay) At_10 ct_10 _   (Lib.hid (own_cells Ot_10.out)) (Lib.hid (own_max Ot_10.out)) (Lib.hid (own_room Ot_10.out)) qt_13).mono ?_
    rintro e_t_13 wt_13 ⟨At_13a, ct_13a, rfl, ot_13a, bt_13⟩
    have Dt_13a_t_10 := Lib.hid (apart_call ot_13a Ot_10.out)
    have Ot_13a := Lib.hid (own_lower ot_13a HBwt_10.out.size)
    clear ot_13a
    have HBwt_13 := Lib.hid (Below.step HBwt_10.out bt_13)
    replace Ot_10 := Lib.hid (own_below Ot_10.out bt_13)
    clear bt_13
    replace H := bind_hid H
    obtain ⟨t_22, qt_22, H⟩ := H
    go_wp2_with fail
    go_at_call 18
    refine (Go.Proofs.Ytgimcnpkngpmiaa.GlToPostmarkS.C (aList) A0 c0 _   (Lib.hid (Cells.below M0.out HBwt_13.out)) N0 qt_22).mono ?_
    rintro e_t_22 wt_22 ⟨At_22, ct_22, rfl, ot_22, bt_22⟩
    have Dt_22_t_10 := Lib.hid (apart_call ot_22 Ot_10.out)
    have Dt_22_t_13a := Lib.hid (apart_call ot_22 Ot_13a.out)
    have Ot_22 := Lib.hid (own_lower ot_22 HBwt_13.out.size)
    clear ot_22
    have HBwt_22 := Lib.hid (Below.step HBwt_13.out bt_22)
    replace Ot_10 := Lib.hid (own_below Ot_10.out bt_22)
    replace Ot_13a := Lib.hid (own_below Ot_13a.out bt_22)
    clear bt_22
    replace H := bind3_hid H
    obtain ⟨t_27a, t_27b, t_27c, qt_27, H⟩ := H
    go_wp2_with fail
    go_at_call 30
    refine (Go.Proofs.Ytgimcnpkngpmiaa.GiExtendUse.C (t_22) (aId) (aDay) At_22 ct_22 _   (Lib.hid (own_cells Ot_22.out)) (Lib.hid (own_max Ot_22.out)) (Lib.hid (own_room Ot_22.out)) qt_27).mono ?_
    rintro e_t_27 wt_27 ⟨At_27a, ct_27a, rfl, ot_27a, bt_27⟩
    have Dt_27a_t_10 := Lib.hid (apart_call ot_27a Ot_10.out)
    have Dt_27a_t_13a := Lib.hid (apart_call ot_27a Ot_13a.out)
    have Dt_27a_t_22 := Lib.hid (apart_call ot_27a Ot_22.out)
    have Ot_27a := Lib.hid (own_lower ot_27a HBwt_22.out.size)
    clear ot_27a
    have HBwt_27 := Lib.hid (Below.step HBwt_22.out bt_27)
    replace Ot_10 := Lib.hid (own_below Ot_10.out bt_27)
    replace Ot_13a := Lib.hid (own_below Ot_13a.out bt_27)
    replace Ot_22 := Lib.hid (own_below Ot_22.out bt_27)
    clear bt_27
    replace H := bind_hid H
    obtain ⟨t_37, qt_37, H⟩ := H
    go_wp2_with fail
    go_at_call 20
    refine (Go.Proofs.Ytgimcnpkngpmiaa.GlEqPostmarkS.C (t_27a) (t_13a) At_27a ct_27a At_13a ct_13a _   (Lib.hid (own_cells Ot_27a.out)) (Lib.hid (own_max Ot_27a.out)) (Lib.hid (own_cells Ot_13a.out)) (Lib.hid (own_max Ot_13a.out)) qt_37).mono ?_
    rintro e_t_37 wt_37 ⟨rfl, bt_37⟩
    have HBwt_37 := Lib.hid (Below.step HBwt_27.out bt_37)
    replace Ot_10 := Lib.hid (own_below Ot_10.out bt_37)
    replace Ot_13a := Lib.hid (own_below Ot_13a.out bt_37)
    replace Ot_22 := Lib.hid (own_below Ot_22.out bt_37)
    replace Ot_27a := Lib.hid (own_below Ot_27a.out bt_37)
    clear bt_37
    cases t_37 with
    | false =>
      replace H := let_hid H
      obtain ⟨t_38, ht_38, H⟩ := H
      obtain rfl : t_38 = true := ht_38.symm
      replace H := join_hid H
      replace H := ite_t H
      replace H := app_hid H
      replace H := join_hid H
      replace H := ite_t H
      replace H := app_hid H
      replace H := ite_t H
      obtain rfl := ret_hid H
      go_wp2_with fail
      go_ret
      exact ⟨rfl, HBwt_37.out⟩
    | true =>
      replace H := let_hid H
      obtain ⟨t_38, ht_38, H⟩ := H
      obtain rfl : t_38 = false := ht_38.symm
      replace H := join_hid H
      replace H := ite_f H
      replace H := let_hid H
      obtain ⟨t_42, ht_42, H⟩ := H
      replace H := app_hid H
      replace H := join_hid H
      cases t_42 with
      | false =>
        replace H := ite_f H
        replace H := let_hid H
        obtain ⟨t_47, ht_47, H⟩ := H
        replace H := app_hid H
        cases t_47 with
        | false =>
          replace H := ite_f H
          replace H := bind_hid H
          obtain ⟨t_52, qt_52, H⟩ := H
          go_wp2_with fail
          go_at_call 18
          refine (Go.Proofs.Ytgimcnpkngpmiaa.GlToPostmarkS.C (aList) A0 c0 _   (Lib.hid (Cells.below M0.out HBwt_37.out)) N0 qt_52).mono ?_
          rintro e_t_52 wt_52 ⟨At_52, ct_52, rfl, ot_52, bt_52⟩
          have Dt_52_t_10 := Lib.hid (apart_call ot_52 Ot_10.out)
          have Dt_52_t_13a := Lib.hid (apart_call ot_52 Ot_13a.out)
          have Dt_52_t_22 := Lib.hid (apart_call ot_52 Ot_22.out)
          have Dt_52_t_27a := Lib.hid (apart_call ot_52 Ot_27a.out)
          have Ot_52 := Lib.hid (own_lower ot_52 HBwt_37.out.size)
          clear ot_52
          have HBwt_52 := Lib.hid (Below.step HBwt_37.out bt_52)
          replace Ot_10 := Lib.hid (own_below Ot_10.out bt_52)
          replace Ot_13a := Lib.hid (own_below Ot_13a.out bt_52)
          replace Ot_22 := Lib.hid (own_below Ot_22.out bt_52)
          replace Ot_27a := Lib.hid (own_below Ot_27a.out bt_52)
          clear bt_52
          replace H := bind_hid H
          obtain ⟨t_53, qt_53, H⟩ := H
          go_wp2_with fail
          go_at_call 20
          refine (Go.Proofs.Ytgimcnpkngpmiaa.GlEqPostmarkS.C (t_22) (t_52) At_22 ct_22 At_52 ct_52 _   (Lib.hid (own_cells Ot_22.out)) (Lib.hid (own_max Ot_22.out)) (Lib.hid (own_cells Ot_52.out)) (Lib.hid (own_max Ot_52.out)) qt_53).mono ?_
          rintro e_t_53 wt_53 ⟨rfl, bt_53⟩
          have HBwt_53 := Lib.hid (Below.step HBwt_52.out bt_53)
          replace Ot_10 := Lib.hid (own_below Ot_10.out bt_53)
          replace Ot_13a := Lib.hid (own_below Ot_13a.out bt_53)
          replace Ot_22 := Lib.hid (own_below Ot_22.out bt_53)
          replace Ot_27a := Lib.hid (own_below Ot_27a.out bt_53)
          replace Ot_52 := Lib.hid (own_below Ot_52.out bt_53)
          clear bt_53
          cases t_53 with
          | false =>
            replace H := let_hid H
            obtain ⟨t_54, ht_54, H⟩ := H
            obtain rfl : t_54 = true := ht_54.symm
            replace H := ite_t H
            obtain rfl := ret_hid H
            go_wp2_with fail
            go_ret
            exact ⟨rfl, HBwt_53.out⟩
          | true =>
            replace H := let_hid H
            obtain ⟨t_54, ht_54, H⟩ := H
            obtain rfl : t_54 = false := ht_54.symm
            replace H := ite_f H
            replace H := bind2_hid H
            obtain ⟨t_59, lt_59, qt_59, H⟩ := H
            go_wp2_with fail
            go_at_call 25
            refine (Go.Proofs.Ytgimcnpkngpmiaa.GlMarkPostmarkS.C (t_22) (1) At_22 ct_22 w.heap.size _   Ot_22 (Lib.hid (own_max Ot_22.out))   qt_59).mono ?_
            rintro e_t_59 wt_59 ⟨rfl, ot_59, nt_59, gt_59⟩
            have Pt_59 := Lib.hid ot_59
            have Gt_59 := Lib.hid gt_59
            replace nt_59 := Lib.hid nt_59
            clear ot_59 gt_59
            have HBwt_59 := Lib.hid (HBwt_53.out.grown Gt_59.out HBwt_53.out.size (fun q hq => (Ot_22.out.lt q hq).1))
            replace Ot_10 := Lib.hid (own_other Ot_10.out Gt_59.out Dt_22_t_10.out)
            replace Ot_13a := Lib.hid (own_other Ot_13a.out Gt_59.out Dt_22_t_13a.out)
            replace Ot_27a := Lib.hid (own_other Ot_27a.out Gt_59.out (Apart.symm Dt_27a_t_22.out))
            replace Ot_52 := Lib.hid (own_other Ot_52.out Gt_59.out (Apart.symm Dt_52_t_22.out))
            clear Ot_22 Gt_59
            replace H := let_hid H
            obtain ⟨t_62, ht_62, H⟩ := H
            replace H := join_hid H
            cases t_62 with
            | false =>
              replace H := ite_f H
              replace H := bind_hid H
              obtain ⟨t_66, qt_66, H⟩ := H
              go_wp2_with fail
              go_at_call 20
              refine (Go.Proofs.Ytgimcnpkngpmiaa.GlEqPostmarkS.C (t_27a) (t_13a) At_27a ct_27a At_13a ct_13a _   (Lib.hid (own_cells Ot_27a.out)) (Lib.hid (own_max Ot_27a.out)) (Lib.hid (own_cells Ot_13a.out)) (Lib.hid (own_max Ot_13a.out)) qt_66).mono ?_
              rintro e_t_66 wt_66 ⟨rfl, bt_66⟩
              have HBwt_66 := Lib.hid (Below.step HBwt_59.out bt_66)
              replace Ot_10 := Lib.hid (own_below Ot_10.out bt_66)
              replace Ot_13a := Lib.hid (own_below Ot_13a.out bt_66)
              replace Pt_59 := Lib.hid (own_below Pt_59.out bt_66)
              replace Ot_27a := Lib.hid (own_below Ot_27a.out bt_66)
              replace Ot_52 := Lib.hid (own_below Ot_52.out bt_66)
              clear bt_66
              cases t_66 with
              | false =>
                replace H := let_hid H
                obtain ⟨t_67, ht_67, H⟩ := H
                obtain rfl : t_67 = true := ht_67.symm
                replace H := app_hid H
                replace H := join_hid H
                replace H := ite_t H
                replace H := app_hid H
                replace H := join_hid H
                replace H := ite_t H
                replace H := app_hid H
                replace H := ite_t H
                obtain rfl := ret_hid H
                go_wp2_with fail
                go_ret
                exact ⟨rfl, HBwt_66.out⟩
              | true =>
                replace H := let_hid H
                obtain ⟨t_67, ht_67, H⟩ := H
                obtain rfl : t_67 = false := ht_67.symm
                replace H := app_hid H
                replace H := join_hid H
                replace H := ite_f H
                replace H := let_hid H
                obtain ⟨t_72, ht_72, H⟩ := H
                obtain rfl := ht_42.symm.trans ht_72
                replace H := app_hid H
                replace H := join_hid H
                replace H := ite_f H
                replace H := let_hid H
                obtain ⟨t_77, ht_77, H⟩ := H
                obtain rfl := ht_47.symm.trans ht_77
                replace H := app_hid H
                replace H := ite_f H
                replace H := bind2_hid H
                obtain ⟨t_83, lt_83, qt_83, H⟩ := H
                go_wp2_with fail
                go_at_call 25
                refine (Go.Proofs.Ytgimcnpkngpmiaa.GlMarkPostmarkS.C (t_27a) (1) At_27a ct_27a w.heap.size _   Ot_27a (Lib.hid (own_max Ot_27a.out))   qt_83).mono ?_
                rintro e_t_83 wt_83 ⟨rfl, ot_83, nt_83, gt_83⟩
                have Pt_83 := Lib.hid ot_83
                have Gt_83 := Lib.hid gt_83
                replace nt_83 := Lib.hid nt_83
                clear ot_83 gt_83
                have HBwt_83 := Lib.hid (HBwt_66.out.grown Gt_83.out HBwt_66.out.size (fun q hq => (Ot_27a.out.lt q hq).1))
                replace Ot_10 := Lib.hid (own_other Ot_10.out Gt_83.out Dt_27a_t_10.out)
                replace Ot_13a := Lib.hid (own_other Ot_13a.out Gt_83.out Dt_27a_t_13a.out)
                replace Pt_59 := Lib.hid (own_other Pt_59.out Gt_83.out Dt_27a_t_22.out)
                replace Ot_52 := Lib.hid (own_other Ot_52.out Gt_83.out (Apart.symm Dt_52_t_27a.out))
                clear Ot_27a Gt_83
                replace H := bind_hid H
                obtain ⟨t_88, qt_88, H⟩ := H
                go_wp2_with fail
                have hc_ := nt_83.out
                have hv_ : (Value.slice At_27a t_27a.length ct_27a : Value) = Value.slice At_27a lt_83.length ct_27a := by rw [hc_]
                try rw [hv_]
                replace Pt_83 := Lib.hid (own_len hc_ Pt_83.out)
                clear hc_ hv_
                go_wp2_with fail
                go_at_call 26
                refine (Go.Proofs.Ytgimcnpkngpmiaa.GlHeldPostmarkS.C (lt_83) (1) At_27a ct_27a _   (Lib.hid (own_cells Pt_83.out)) (Lib.hid (own_max Pt_83.out)) qt_88).mono ?_
                rintro e_t_88 wt_88 ⟨rfl, bt_88⟩
                have HBwt_88 := Lib.hid (Below.step HBwt_83.out bt_88)
                replace Ot_10 := Lib.hid (own_below Ot_10.out bt_88)
                replace Ot_13a := Lib.hid (own_below Ot_13a.out bt_88)
                replace Pt_59 := Lib.hid (own_below Pt_59.out bt_88)
                replace Pt_83 := Lib.hid (own_below Pt_83.out bt_88)
                replace Ot_52 := Lib.hid (own_below Ot_52.out bt_88)
                clear bt_88
                replace H := let_hid H
                obtain ⟨t_91, ht_91, H⟩ := H
                cases t_91 with
                | false =>
                  replace H := ite_f H
                  replace H := let_hid H
                  obtain ⟨t_95, ht_95, H⟩ := H
                  cases t_95 with
                  | false =>
                    replace H := ite_f H
                    replace H := bind_hid H
                    obtain ⟨t_98, qt_98, H⟩ := H
                    go_wp2_with fail
                    go_at_call 18
                    refine (Go.Proofs.Ytgimcnpkngpmiaa.GlToPostmarkS.C (aList) A0 c0 _   (Lib.hid (Cells.below M0.out HBwt_88.out)) N0 qt_98).mono ?_
                    rintro e_t_98 wt_98 ⟨At_98, ct_98, rfl, ot_98, bt_98⟩
                    have Dt_98_t_10 := Lib.hid (apart_call ot_98 Ot_10.out)
                    have Dt_98_t_13a := Lib.hid (apart_call ot_98 Ot_13a.out)
                    have Dt_98_t_22 := Lib.hid (apart_call ot_98 Pt_59.out)
                    have Dt_98_t_27a := Lib.hid (apart_call ot_98 Pt_83.out)
                    have Dt_98_t_52 := Lib.hid (apart_call ot_98 Ot_52.out)
                    have Ot_98 := Lib.hid (own_lower ot_98 HBwt_88.out.size)
                    clear ot_98
                    have HBwt_98 := Lib.hid (Below.step HBwt_88.out bt_98)
                    replace Ot_10 := Lib.hid (own_below Ot_10.out bt_98)
                    replace Ot_13a := Lib.hid (own_below Ot_13a.out bt_98)
                    replace Pt_59 := Lib.hid (own_below Pt_59.out bt_98)
                    replace Pt_83 := Lib.hid (own_below Pt_83.out bt_98)
                    replace Ot_52 := Lib.hid (own_below Ot_52.out bt_98)
                    clear bt_98
                    replace H := bind3_hid H
                    obtain ⟨t_101a, t_101b, t_101c, qt_101, H⟩ := H
                    go_wp2_with fail
                    go_at_call 30
                    refine (Go.Proofs.Ytgimcnpkngpmiaa.GiExtendUse.C (t_98) (aId) (aDay) At_98 ct_98 _   (Lib.hid (own_cells Ot_98.out)) (Lib.hid (own_max Ot_98.out)) (Lib.hid (own_room Ot_98.out)) qt_101).mono ?_
                    rintro e_t_101 wt_101 ⟨At_101a, ct_101a, rfl, ot_101a, bt_101⟩
                    have Dt_101a_t_10 := Lib.hid (apart_call ot_101a Ot_10.out)
                    have Dt_101a_t_13a := Lib.hid (apart_call ot_101a Ot_13a.out)
                    have Dt_101a_t_22 := Lib.hid (apart_call ot_101a Pt_59.out)
                    have Dt_101a_t_27a := Lib.hid (apart_call ot_101a Pt_83.out)
                    have Dt_101a_t_52 := Lib.hid (apart_call ot_101a Ot_52.out)
                    have Dt_101a_t_98 := Lib.hid (apart_call ot_101a Ot_98.out)
                    have Ot_101a := Lib.hid (own_lower ot_101a HBwt_98.out.size)
                    clear ot_101a
                    have HBwt_101 := Lib.hid (Below.step HBwt_98.out bt_101)
                    replace Ot_10 := Lib.hid (own_below Ot_10.out bt_101)
                    replace Ot_13a := Lib.hid (own_below Ot_13a.out bt_101)
                    replace Pt_59 := Lib.hid (own_below Pt_59.out bt_101)
                    replace Pt_83 := Lib.hid (own_below Pt_83.out bt_101)
                    replace Ot_52 := Lib.hid (own_below Ot_52.out bt_101)
                    replace Ot_98 := Lib.hid (own_below Ot_98.out bt_101)
                    clear bt_101
                    replace H := bind_hid H
                    obtain ⟨t_111, qt_111, H⟩ := H
                    go_wp2_with fail
                    go_at_call 20
                    refine (Go.Proofs.Ytgimcnpkngpmiaa.GlEqPostmarkS.C (t_101a) (t_13a) At_101a ct_101a At_13a ct_13a _   (Lib.hid (own_cells Ot_101a.out)) (Lib.hid (own_max Ot_101a.out)) (Lib.hid (own_cells Ot_13a.out)) (Lib.hid (own_max Ot_13a.out)) qt_111).mono ?_
                    rintro e_t_111 wt_111 ⟨rfl, bt_111⟩
                    have HBwt_111 := Lib.hid (Below.step HBwt_101.out bt_111)
                    replace Ot_10 := Lib.hid (own_below Ot_10.out bt_111)
                    replace Ot_13a := Lib.hid (own_below Ot_13a.out bt_111)
                    replace Pt_59 := Lib.hid (own_below Pt_59.out bt_111)
                    replace Pt_83 := Lib.hid (own_below Pt_83.out bt_111)
                    replace Ot_52 := Lib.hid (own_below Ot_52.out bt_111)
                    replace Ot_98 := Lib.hid (own_below Ot_98.out bt_111)
                    replace Ot_101a := Lib.hid (own_below Ot_101a.out bt_111)
                    clear bt_111
                    cases t_111 with
                    | false =>
                      replace H := let_hid H
                      obtain ⟨t_112, ht_112, H⟩ := H
                      obtain rfl : t_112 = true := ht_112.symm
                      replace H := join_hid H
                      replace H := ite_t H
                      replace H := app_hid H
                      replace H := join_hid H
                      replace H := ite_t H
                      replace H := app_hid H
                      replace H := ite_t H
                      obtain rfl := ret_hid H
                      go_wp2_with fail
                      go_ret
                      exact ⟨rfl, HBwt_111.out⟩
                    | true =>
                      replace H := let_hid H
                      obtain ⟨t_112, ht_112, H⟩ := H
                      obtain rfl : t_112 = false := ht_112.symm
                      replace H := join_hid H
                      replace H := ite_f H
                      replace H := let_hid H
                      obtain ⟨t_116, ht_116, H⟩ := H
                      replace H := app_hid H
                      replace H := join_hid H
                      cases t_116 with
                      | false =>
                        replace H := ite_f H
                        replace H := let_hid H
                        obtain ⟨t_121, ht_121, H⟩ := H
                        replace H := app_hid H
                        cases t_121 with
                        | false =>
                          replace H := ite_f H
                          replace H := bind_hid H
                          obtain ⟨t_127, qt_127, H⟩ := H
                          go_wp2_with fail
                          go_at_call 26
                          refine (Go.Proofs.Ytgimcnpkngpmiaa.GlHeldPostmarkS.C (lt_83) (1) At_27a ct_27a _   (Lib.hid (own_cells Pt_83.out)) (Lib.hid (own_max Pt_83.out)) qt_127).mono ?_
                          rintro e_t_127 wt_127 ⟨rfl, bt_127⟩
                          have HBwt_127 := Lib.hid (Below.step HBwt_111.out bt_127)
                          replace Ot_10 := Lib.hid (own_below Ot_10.out bt_127)
                          replace Ot_13a := Lib.hid (own_below Ot_13a.out bt_127)
                          replace Pt_59 := Lib.hid (own_below Pt_59.out bt_127)
                          replace Pt_83 := Lib.hid (own_below Pt_83.out bt_127)
                          replace Ot_52 := Lib.hid (own_below Ot_52.out bt_127)
                          replace Ot_98 := Lib.hid (own_below Ot_98.out bt_127)
                          replace Ot_101a := Lib.hid (own_below Ot_101a.out bt_127)
                          clear bt_127
                          replace H := let_hid H
                          obtain ⟨t_130, ht_130, H⟩ := H
                          cases t_130 with
                          | false =>
                            replace H := ite_f H
                            replace H := let_hid H
                            obtain ⟨t_134, ht_134, H⟩ := H
                            cases t_134 with
                            | false =>
                              replace H := ite_f H
                              obtain rfl := ret_hid H
                              go_wp2_with fail
                              go_ret
                              exact ⟨rfl, HBwt_127.out⟩
                            | true =>
                              replace H := ite_t H
                              obtain rfl := ret_hid H
                              go_wp2_with fail
                              go_ret
                              exact ⟨rfl, HBwt_127.out⟩
                          | true =>
                            replace H := ite_t H
                            obtain rfl := ret_hid H
                            go_wp2_with fail
                            go_ret
                            exact ⟨rfl, HBwt_127.out⟩
                        | true =>
                          replace H := ite_t H
                          obtain rfl := ret_hid H
                          go_wp2_with fail
                          go_ret
                          exact ⟨rfl, HBwt_111.out⟩
                      | true =>
                        replace H := ite_t H
                        replace H := app_hid H
                        replace H := ite_t H
                        obtain rfl := ret_hid H
                        go_wp2_with fail
                        go_ret
                        exact ⟨rfl, HBwt_111.out⟩
                  | true =>
                    replace H := ite_t H
                    obtain rfl := ret_hid H
                    go_wp2_with fail
                    go_ret
                    exact ⟨rfl, HBwt_88.out⟩
                | true =>
                  replace H := ite_t H
                  obtain rfl := ret_hid H
                  go_wp2_with fail
                  go_ret
                  exact ⟨rfl, HBwt_88.out⟩
            | true =>
              replace H := ite_t H
              replace H := app_hid H
              replace H := join_hid H
              replace H := ite_t H
              replace H := app_hid H
              replace H := join_hid H
              replace H := ite_t H
              replace H := app_hid H
              replace H := ite_t H
              obtain rfl := ret_hid H
              go_wp2_with fail
              go_ret
              exact ⟨rfl, HBwt_59.out⟩
        | true =>
          replace H := ite_t H
          obtain rfl := ret_hid H
          go_wp2_with fail
          go_ret
          exact ⟨rfl, HBwt_37.out⟩
      | true =>
        replace H := ite_t H
        replace H := app_hid H
        replace H := ite_t H
        obtain rfl := ret_hid H
        go_wp2_with fail
        go_ret
        exact ⟨rfl, HBwt_37.out⟩
  | true =>
    replace H := ite_t H
    obtain rfl := ret_hid H
    go_wp2_with fail
    go_ret
    exact ⟨rfl, HBwt_4.out⟩
end Go.Proofs.Ytgimcnpkngpmiaa.GlFnExactExtendUse

/- Chapter 11: postmarks: the plain functions of the program and of the reference agree, and the laws answer true. (QL11Extend) No condition but those of each theorem. -/
namespace Go.Proofs.Ytgimcnpkngpmiaa.QL11Extend
set_option linter.unusedVariables false
set_option linter.unusedSimpArgs false
open Go.RowKit
open Go.Proofs.Ytgimcnpkngpmiaa.GoP Go.Proofs.Ytgimcnpkngpmiaa.PlainStamp Go.Proofs.Ytgimcnpkngpmiaa.QBase Go.Proofs.Ytgimcnpkngpmiaa.Q11Extend Go.Proofs.Ytgimcnpkngpmiaa.QLoop Go.Proofs.Ytgimcnpkngpmiaa.PPostmark Go.Proofs.Ytgimcnpkngpmiaa.QHPostmarkE Go.Proofs.Ytgimcnpkngpmiaa.QHPostmark Go.Proofs.Ytgimcnpkngpmiaa.QHeldPostmark

theorem law_extend (fuel : Nat) (hfu : 100 ≤ fuel) (l : List Postmark) (id day : Int) (hf : ∀ s ∈ l, s.fits) (hl : l.length ≤ 9223372036854775807) : GlFnExactExtendUse.P fuel l id day = some true := by
  obtain ⟨v, hv, hn⟩ := szS l hf hl
  simp only [GlFnExactExtendUse.P, hv, Option.bind_some, letK, iteK_if]
  by_cases hb : v < 0
  · rw [if_pos (by simp; omega)]
  · rw [if_neg (by simp; omega)]
    have hle := hn (by omega)
    obtain ⟨⟨a, b, c⟩, hr⟩ : ∃ x, x = extR l id day := ⟨_, rfl⟩
    have hlen := ext_len l id day
    rw [← hr] at hlen
    dsimp only at hlen
    obtain ⟨v2, l2, hm, hv2⟩ := markS l hle
    obtain ⟨v3, l3, hm3, hh3, hv3⟩ := markHeld a (by omega)
    have hv4 : ¬ v2 < 0 := by omega
    have hv5 : ¬ v3 < 0 := by omega
    simp [toS l hle, ext_spec fuel hfu l hf hl, ext_impl l hf, ← hr, bind2, bind3, joinK, appK, iteK_if, eqS, hm, hv4, hm3, hh3, hv5]
end Go.Proofs.Ytgimcnpkngpmiaa.QL11Extend

