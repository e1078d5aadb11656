/- loop.example/g01062/laws.FnExactIsPair as a plain function, and the contract of the program's: where the plain one has an answer, the program has it. Conditions: slices read as lists. -/
import Derived.Test.YtgfepdfamhnppaaChecked
import Derived.Test.YtgfepdfamhnppaaGoM
import Derived.Test.YtgfepdfamhnppaaHelpInt
import Derived.Test.YtgfepdfamhnppaaGlToIntS
import Derived.Test.YtgfepdfamhnppaaGsIsPair
import Derived.Test.YtgfepdfamhnppaaGiIsPair
import Derived.Test.YtgfepdfamhnppaaGlEqIntS
import Derived.WalkKit
import Derived.WalkSpells
import Derived.WalkLawsBesides
import Derived.BigQuiet
import Derived.OwnWalk
import Derived.Deep.LoopGhost
import Derived.Deep.QuietTactic
import Derived.IntWalk
import Derived.Lib.QuietBelow
namespace Go.Proofs.Ytgfepdfamhnppaa.GlFnExactIsPair
set_option linter.unusedVariables false
set_option linter.unusedSimpArgs false
open Go.RowKit
open Go.Proofs.Ytgfepdfamhnppaa.Rowed Go.Proofs.Ytgfepdfamhnppaa.Turn Go.Proofs.Ytgfepdfamhnppaa.Aid Go.Proofs.Ytgfepdfamhnppaa.GoP Go.Proofs.Ytgfepdfamhnppaa.GoM

def P (fuel : Nat) (aA : (List Int)) (aB : (List Int)) (aOff : Int) : Option (Bool) :=
  letK (decide (1048576 < (aA.length : Int))) fun (t_3 : Bool) =>
  iteK t_3
  (some true)
  (letK (decide (1048576 < (aB.length : Int))) fun (t_7 : Bool) =>
  iteK t_7
  (some true)
  (Option.bind (Go.Proofs.Ytgfepdfamhnppaa.GlToIntS.P aA) fun (t_10 : (List Int)) =>
  Option.bind (Go.Proofs.Ytgfepdfamhnppaa.GlToIntS.P aB) fun (t_12 : (List Int)) =>
  bind2 (Go.Proofs.Ytgfepdfamhnppaa.GsIsPair.P fuel t_10 t_12 aOff) fun (t_14a : Bool) (t_14b : Bool) =>
  Option.bind (Go.Proofs.Ytgfepdfamhnppaa.GlToIntS.P aA) fun (t_21 : (List Int)) =>
  Option.bind (Go.Proofs.Ytgfepdfamhnppaa.GlToIntS.P aB) fun (t_24 : (List Int)) =>
  bind2 (Go.Proofs.Ytgfepdfamhnppaa.GiIsPair.P t_21 t_24 aOff) fun (t_29a : Bool) (t_29b : Bool) =>
  letK (t_29a != t_14a) fun (t_37 : Bool) =>
  joinK (fun (t_42 : Bool) =>
  iteK t_42
  (some false)
  (Option.bind (Go.Proofs.Ytgfepdfamhnppaa.GlToIntS.P aA) fun (t_46 : (List Int)) =>
  Option.bind (Go.Proofs.Ytgfepdfamhnppaa.GlEqIntS.P t_21 t_46) fun (t_47 : Bool) =>
  letK (!t_47) fun (t_48 : Bool) =>
  iteK t_48
  (some false)
  (Option.bind (Go.Proofs.Ytgfepdfamhnppaa.GlToIntS.P aB) fun (t_52 : (List Int)) =>
  Option.bind (Go.Proofs.Ytgfepdfamhnppaa.GlEqIntS.P t_24 t_52) fun (t_53 : Bool) =>
  letK (!t_53) fun (t_54 : Bool) =>
  iteK t_54
  (some false)
  (some true)))) fun jt_42 => iteK t_37 (appK jt_42 true) (letK (t_29b != t_14b) fun (t_41 : Bool) =>
  appK jt_42 t_41)))

set_option maxRecDepth 100000 in
set_option maxHeartbeats 2000000 in
theorem C (fuel : Nat) (aA : (List Int)) (aB : (List Int)) (aOff : Int) (A0 : Option Addr) (c0 : Nat) (A1 : Option Addr) (c1 : Nat)  (w : World) (M0 : Hid (Cells w 1 A0 aA.length (Go.Proofs.Ytgfepdfamhnppaa.HelpInt.iv aA))) (N0 : Hid (aA.length ≤ 9223372036854775807)) (M1 : Hid (Cells w 1 A1 aB.length (Go.Proofs.Ytgfepdfamhnppaa.HelpInt.iv aB))) (N1 : Hid (aB.length ≤ 9223372036854775807))  {r : Bool} (H : Hid (P fuel aA aB aOff = some r)) :
    Calls Try.prog 10 #[.slice A0 aA.length c0, .slice A1 aB.length c1, .int .i64 aOff] w (Gives (.bool r) w) := by
  have HB := Lib.hid (Below.refl w.heap.size w)
  unfold P at H
  have N0o := N0.out
  have N1o := N1.out
  go_enter Try.func10, Try.ntmps10
  replace H := let_hid H
  obtain ⟨t_3, ht_3, H⟩ := H
  cases t_3 with
  | false =>
    have nht_3 : ¬ (1048576 < aA.length) := by have := of_decide_eq_false ht_3; omega
    replace H := ite_f H
    replace H := let_hid H
    obtain ⟨t_7, ht_7, H⟩ := H
    cases t_7 with
    | false =>
      have nht_7 : ¬ (1048576 < aB.length) := by have := of_decide_eq_false ht_7; omega
      replace H := ite_f H
      replace H := bind_hid H
      obtain ⟨t_10, qt_10, H⟩ := H
      go_wp2_with fail
      go_at_call 18
      refine (Go.Proofs.Ytgfepdfamhnppaa.GlToIntS.C (aA) A0 c0 _  (Lib.hid (Cells.below M0.out HB.out)) N0 qt_10).mono ?_
      rintro e_t_10 wt_10 ⟨At_10, ct_10, rfl, ot_10, bt_10⟩
      have Ot_10 := Lib.hid (own_lower ot_10 HB.out.size)
      clear ot_10
      have HBwt_10 := Lib.hid (Below.step HB.out bt_10)
      clear bt_10
      replace H := bind_hid H
      obtain ⟨t_12, qt_12, H⟩ := H
      go_wp2_with fail
      go_at_call 18
      refine (Go.Proofs.Ytgfepdfamhnppaa.GlToIntS.C (aB) A1 c1 _  (Lib.hid (Cells.below M1.out HBwt_10.out)) N1 qt_12).mono ?_
      rintro e_t_12 wt_12 ⟨At_12, ct_12, rfl, ot_12, bt_12⟩
      have Dt_12_t_10 := Lib.hid (apart_call ot_12 Ot_10.out)
      have Ot_12 := Lib.hid (own_lower ot_12 HBwt_10.out.size)
      clear ot_12
      have HBwt_12 := Lib.hid (Below.step HBwt_10.out bt_12)
      replace Ot_10 := Lib.hid (own_below Ot_10.out bt_12)
      clear bt_12
      replace H := bind2_hid H
      obtain ⟨t_14a, t_14b, qt_14, H⟩ := H
      go_wp2_with fail
      go_at_call 34
      refine (Go.Proofs.Ytgfepdfamhnppaa.GsIsPair.C fuel (t_10) (t_12) (aOff) At_10 ct_10 At_12 ct_12 _  (Lib.hid (own_cells Ot_10.out)) (Lib.hid (own_max Ot_10.out)) (Lib.hid (own_cells Ot_12.out)) (Lib.hid (own_max Ot_12.out)) qt_14).mono ?_
      rintro e_t_14 wt_14 ⟨rfl, bt_14⟩
      have HBwt_14 := Lib.hid (Below.step HBwt_12.out bt_14)
      replace Ot_10 := Lib.hid (own_below Ot_10.out bt_14)
      replace Ot_12 := Lib.hid (own_below Ot_12.out bt_14)
      clear bt_14
      replace H := bind_hid H
      obtain ⟨t_21, qt_21, H⟩ := H
      go_wp2_with fail
      go_at_call 18
      refine (Go.Proofs.Ytgfepdfamhnppaa.GlToIntS.C (aA) A0 c0 _  (Lib.hid (Cells.below M0.out HBwt_14.out)) N0 qt_21).mono ?_
      rintro e_t_21 wt_21 ⟨At_21, ct_21, rfl, ot_21, bt_21⟩
      have Dt_21_t_10 := Lib.hid (apart_call ot_21 Ot_10.out)
      have Dt_21_t_12 := Lib.hid (apart_call ot_21 Ot_12.out)
      have Ot_21 := Lib.hid (own_lower ot_21 HBwt_14.out.size)
      clear ot_21
      have HBwt_21 := Lib.hid (Below.step HBwt_14.out bt_21)
      replace Ot_10 := Lib.hid (own_below Ot_10.out bt_21)
      replace Ot_12 := Lib.hid (own_below Ot_12.out bt_21)
      clear bt_21
      replace H := bind_hid H
      obtain ⟨t_24, qt_24, H⟩ := H
      go_wp2_with fail
      go_at_call 18
      refine (Go.Proofs.Ytgfepdfamhnppaa.GlToIntS.C (aB) A1 c1 _  (Lib.hid (Cells.below M1.out HBwt_21.out)) N1 qt_24).mono ?_
      rintro e_t_24 wt_24 ⟨At_24, ct_24, rfl, ot_24, bt_24⟩
      have Dt_24_t_10 := Lib.hid (apart_call ot_24 Ot_10.out)
      have Dt_24_t_12 := Lib.hid (apart_call ot_24 Ot_12.out)
      have Dt_24_t_21 := Lib.hid (apart_call ot_24 Ot_21.out)
      have Ot_24 := Lib.hid (own_lower ot_24 HBwt_21.out.size)
      clear ot_24
      have HBwt_24 := Lib.hid (Below.step HBwt_21.out bt_24)
      replace Ot_10 := Lib.hid (own_below Ot_10.out bt_24)
      replace Ot_12 := Lib.hid (own_below Ot_12.out bt_24)
      replace Ot_21 := Lib.hid (own_below Ot_21.out bt_24)
      clear bt_24
      replace H := bind2_hid H
      obtain ⟨t_29a, t_29b, qt_29, H⟩ := H
      go_wp2_with fail
      go_at_call 35
      refine (Go.Proofs.Ytgfepdfamhnppaa.GiIsPair.C (t_21) (t_24) (aOff) At_21 ct_21 At_24 ct_24 _  (Lib.hid (own_cells Ot_21.out)) (Lib.hid (own_max Ot_21.out)) (Lib.hid (own_cells Ot_24.out)) (Lib.hid (own_max Ot_24.out)) qt_29).mono ?_
      rintro e_t_29 wt_29 ⟨rfl, bt_29⟩
      have HBwt_29 := Lib.hid (Below.step HBwt_24.out bt_29)
      replace Ot_10 := Lib.hid (own_below Ot_10.out bt_29)
      replace Ot_12 := Lib.hid (own_below Ot_12.out bt_29)
      replace Ot_21 := Lib.hid (own_below Ot_21.out bt_29)
      replace Ot_24 := Lib.hid (own_below Ot_24.out bt_29)
      clear bt_29
      cases t_29a with
      | false =>
        cases t_14a with
        | false =>
          replace H := let_hid H
          obtain ⟨t_37, ht_37, H⟩ := H
          obtain rfl : t_37 = false := ht_37.symm
          replace H := join_hid H
          replace H := ite_f H
          cases t_29b with
          | false =>
            cases t_14b with
            | false =>
              replace H := let_hid H
              obtain ⟨t_41, ht_41, H⟩ := H
              obtain rfl : t_41 = false := ht_41.symm
              replace H := app_hid H
              replace H := ite_f H
              replace H := bind_hid H
              obtain ⟨t_46, qt_46, H⟩ := H
              go_wp2_with fail
              go_at_call 18
              refine (Go.Proofs.Ytgfepdfamhnppaa.GlToIntS.C (aA) A0 c0 _  (Lib.hid (Cells.below M0.out HBwt_29.out)) N0 qt_46).mono ?_
              rintro e_t_46 wt_46 ⟨At_46, ct_46, rfl, ot_46, bt_46⟩
              have Dt_46_t_10 := Lib.hid (apart_call ot_46 Ot_10.out)
              have Dt_46_t_12 := Lib.hid (apart_call ot_46 Ot_12.out)
              have Dt_46_t_21 := Lib.hid (apart_call ot_46 Ot_21.out)
              have Dt_46_t_24 := Lib.hid (apart_call ot_46 Ot_24.out)
              have Ot_46 := Lib.hid (own_lower ot_46 HBwt_29.out.size)
              clear ot_46
              have HBwt_46 := Lib.hid (Below.step HBwt_29.out bt_46)
              replace Ot_10 := Lib.hid (own_below Ot_10.out bt_46)
              replace Ot_12 := Lib.hid (own_below Ot_12.out bt_46)
              replace Ot_21 := Lib.hid (own_below Ot_21.out bt_46)
              replace Ot_24 := Lib.hid (own_below Ot_24.out bt_46)
              clear bt_46
              replace H := bind_hid H
              obtain ⟨t_47, qt_47, H⟩ := H
              go_wp2_with fail
              go_at_call 20
              refine (Go.Proofs.Ytgfepdfamhnppaa.GlEqIntS.C (t_21) (t_46) At_21 ct_21 At_46 ct_46 _  (Lib.hid (own_cells Ot_21.out)) (Lib.hid (own_max Ot_21.out)) (Lib.hid (own_cells Ot_46.out)) (Lib.hid (own_max Ot_46.out)) qt_47).mono ?_
              rintro e_t_47 wt_47 ⟨rfl, bt_47⟩
              have HBwt_47 := Lib.hid (Below.step HBwt_46.out bt_47)
              replace Ot_10 := Lib.hid (own_below Ot_10.out bt_47)
              replace Ot_12 := Lib.hid (own_below Ot_12.out bt_47)
              replace Ot_21 := Lib.hid (own_below Ot_21.out bt_47)
              replace Ot_24 := Lib.hid (own_below Ot_24.out bt_47)
              replace Ot_46 := Lib.hid (own_below Ot_46.out bt_47)
              clear bt_47
              cases t_47 with
              | false =>
                replace H := let_hid H
                obtain ⟨t_48, ht_48, H⟩ := H
                obtain rfl : t_48 = true := ht_48.symm
                replace H := ite_t H
                obtain rfl := ret_hid H
                go_wp2_with fail
                go_ret
                exact ⟨rfl, HBwt_47.out⟩
              | true =>
                replace H := let_hid H
                obtain ⟨t_48, ht_48, H⟩ := H
                obtain rfl : t_48 = false := ht_48.symm
                replace H := ite_f H
                replace H := bind_hid H
                obtain ⟨t_52, qt_52, H⟩ := H
                go_wp2_with fail
                go_at_call 18
                refine (Go.Proofs.Ytgfepdfamhnppaa.GlToIntS.C (aB) A1 c1 _  (Lib.hid (Cells.below M1.out HBwt_47.out)) N1 qt_52).mono ?_
                rintro e_t_52 wt_52 ⟨At_52, ct_52, rfl, ot_52, bt_52⟩
                have Dt_52_t_10 := Lib.hid (apart_call ot_52 Ot_10.out)
                have Dt_52_t_12 := Lib.hid (apart_call ot_52 Ot_12.out)
                have Dt_52_t_21 := Lib.hid (apart_call ot_52 Ot_21.out)
                have Dt_52_t_24 := Lib.hid (apart_call ot_52 Ot_24.out)
                have Dt_52_t_46 := Lib.hid (apart_call ot_52 Ot_46.out)
                have Ot_52 := Lib.hid (own_lower ot_52 HBwt_47.out.size)
                clear ot_52
                have HBwt_52 := Lib.hid (Below.step HBwt_47.out bt_52)
                replace Ot_10 := Lib.hid (own_below Ot_10.out bt_52)
                replace Ot_12 := Lib.hid (own_below Ot_12.out bt_52)
                replace Ot_21 := Lib.hid (own_below Ot_21.out bt_52)
                replace Ot_24 := Lib.hid (own_below Ot_24.out bt_52)
                replace Ot_46 := Lib.hid (own_below Ot_46.out bt_52)
                clear bt_52
                replace H := bind_hid H
                obtain ⟨t_53, qt_53, H⟩ := H
                go_wp2_with fail
                go_at_call 20
                refine (Go.Proofs.Ytgfepdfamhnppaa.GlEqIntS.C (t_24) (t_52) At_24 ct_24 At_52 ct_52 _  (Lib.hid (own_cells Ot_24.out)) (Lib.hid (own_max Ot_24.out)) (Lib.hid (own_cells Ot_52.out)) (Lib.hid (own_max Ot_52.out)) qt_53).mono ?_
                rintro e_t_53 wt_53 ⟨rfl, bt_53⟩
                have HBwt_53 := Lib.hid (Below.step HBwt_52.out bt_53)
                replace Ot_10 := Lib.hid (own_below Ot_10.out bt_53)
                replace Ot_12 := Lib.hid (own_below Ot_12.out bt_53)
                replace Ot_21 := Lib.hid (own_below Ot_21.out bt_53)
                replace Ot_24 := Lib.hid (own_below Ot_24.out bt_53)
                replace Ot_46 := Lib.hid (own_below Ot_46.out bt_53)
                replace Ot_52 := Lib.hid (own_below Ot_52.out bt_53)
                clear bt_53
                cases t_53 with
                | false =>
                  replace H := let_hid H
                  obtain ⟨t_54, ht_54, H⟩ := H
                  obtain rfl : t_54 = true := ht_54.symm
                  replace H := ite_t H
                  obtain rfl := ret_hid H
                  go_wp2_with fail
                  go_ret
                  exact ⟨rfl, HBwt_53.out⟩
                | true =>
                  replace H := let_hid H
                  obtain ⟨t_54, ht_54, H⟩ := H
                  obtain rfl : t_54 = false := ht_54.symm
                  replace H := ite_f H
                  obtain rfl := ret_hid H
                  go_wp2_with fail
                  go_ret
                  exact ⟨rfl, HBwt_53.out⟩
            | true =>
              replace H := let_hid H
              obtain ⟨t_41, ht_41, H⟩ := H
              obtain rfl : t_41 = true := ht_41.symm
              replace H := app_hid H
              replace H := ite_t H
              obtain rfl := ret_hid H
              go_wp2_with fail
              go_ret
              exact ⟨rfl, HBwt_29.out⟩
          | true =>
            cases t_14b with
            | false =>
              replace H := let_hid H
              obtain ⟨t_41, ht_41, H⟩ := H
              obtain rfl : t_41 = true := ht_41.symm
              replace H := app_hid H
              replace H := ite_t H
              obtain rfl := ret_hid H
              go_wp2_with fail
              go_ret
              exact ⟨rfl, HBwt_29.out⟩
            | true =>
              replace H := let_hid H
              obtain ⟨t_41, ht_41, H⟩ := H
              obtain rfl : t_41 = false := ht_41.symm
              replace H := app_hid H
              replace H := ite_f H
              replace H := bind_hid H
              obtain ⟨t_46, qt_46, H⟩ := H
              go_wp2_with fail
              go_at_call 18
              refine (Go.Proofs.Ytgfepdfamhnppaa.GlToIntS.C (aA) A0 c0 _  (Lib.hid (Cells.below M0.out HBwt_29.out)) N0 qt_46).mono ?_
              rintro e_t_46 wt_46 ⟨At_46, ct_46, rfl, ot_46, bt_46⟩
              have Dt_46_t_10 := Lib.hid (apart_call ot_46 Ot_10.out)
              have Dt_46_t_12 := Lib.hid (apart_call ot_46 Ot_12.out)
              have Dt_46_t_21 := Lib.hid (apart_call ot_46 Ot_21.out)
              have Dt_46_t_24 := Lib.hid (apart_call ot_46 Ot_24.out)
              have Ot_46 := Lib.hid (own_lower ot_46 HBwt_29.out.size)
              clear ot_46
              have HBwt_46 := Lib.hid (Below.step HBwt_29.out bt_46)
              replace Ot_10 := Lib.hid (own_below Ot_10.out bt_46)
              replace Ot_12 := Lib.hid (own_below Ot_12.out bt_46)
              replace Ot_21 := Lib.hid (own_below Ot_21.out bt_46)
              replace Ot_24 := Lib.hid (own_below Ot_24.out bt_46)
              clear bt_46
              replace H := bind_hid H
              obtain ⟨t_47, qt_47, H⟩ := H
              go_wp2_with fail
              go_at_call 20
              refine (Go.Proofs.Ytgfepdfamhnppaa.GlEqIntS.C (t_21) (t_46) At_21 ct_21 At_46 ct_46 _  (Lib.hid (own_cells Ot_21.out)) (Lib.hid (own_max Ot_21.out)) (Lib.hid (own_cells Ot_46.out)) (Lib.hid (own_max Ot_46.out)) qt_47).mono ?_
              rintro e_t_47 wt_47 ⟨rfl, bt_47⟩
              have HBwt_47 := Lib.hid (Below.step HBwt_46.out bt_47)
              replace Ot_10 := Lib.hid (own_below Ot_10.out bt_47)
              replace Ot_12 := Lib.hid (own_below Ot_12.out bt_47)
              replace Ot_21 := Lib.hid (own_below Ot_21.out bt_47)
              replace Ot_24 := Lib.hid (own_below Ot_24.out bt_47)
              replace Ot_46 := Lib.hid (own_below Ot_46.out bt_47)
              clear bt_47
              cases t_47 with
              | false =>
                replace H := let_hid H
                obtain ⟨t_48, ht_48, H⟩ := H
                obtain rfl : t_48 = true := ht_48.symm
                replace H := ite_t H
                obtain rfl := ret_hid H
                go_wp2_with fail
                go_ret
                exact ⟨rfl, HBwt_47.out⟩
              | true =>
                replace H := let_hid H
                obtain ⟨t_48, ht_48, H⟩ := H
                obtain rfl : t_48 = false := ht_48.symm
                replace H := ite_f H
                replace H := bind_hid H
                obtain ⟨t_52, qt_52, H⟩ := H
                go_wp2_with fail
                go_at_call 18
                refine (Go.Proofs.Ytgfepdfamhnppaa.GlToIntS.C (aB) A1 c1 _  (Lib.hid (Cells.below M1.out HBwt_47.out)) N1 qt_52).mono ?_
                rintro e_t_52 wt_52 ⟨At_52, ct_52, rfl, ot_52, bt_52⟩
                have Dt_52_t_10 := Lib.hid (apart_call ot_52 Ot_10.out)
                have Dt_52_t_12 := Lib.hid (apart_call ot_52 Ot_12.out)
                have Dt_52_t_21 := Lib.hid (apart_call ot_52 Ot_21.out)
                have Dt_52_t_24 := Lib.hid (apart_call ot_52 Ot_24.out)
                have Dt_52_t_46 := Lib.hid (apart_call ot_52 Ot_46.out)
                have Ot_52 := Lib.hid (own_lower ot_52 HBwt_47.out.size)
                clear ot_52
                have HBwt_52 := Lib.hid (Below.step HBwt_47.out bt_52)
                replace Ot_10 := Lib.hid (own_below Ot_10.out bt_52)
                replace Ot_12 := Lib.hid (own_below Ot_12.out bt_52)
                replace Ot_21 := Lib.hid (own_below Ot_21.out bt_52)
                replace Ot_24 := Lib.hid (own_below Ot_24.out bt_52)
                replace Ot_46 := Lib.hid (own_below Ot_46.out bt_52)
                clear bt_52
                replace H := bind_hid H
                obtain ⟨t_53, qt_53, H⟩ := H
                go_wp2_with fail
                go_at_call 20
                refine (Go.Proofs.Ytgfepdfamhnppaa.GlEqIntS.C (t_24) (t_52) At_24 ct_24 At_52 ct_52 _  (Lib.hid (own_cells Ot_24.out)) (Lib.hid (own_max Ot_24.out)) (Lib.hid (own_cells Ot_52.out)) (Lib.hid (own_max Ot_52.out)) qt_53).mono ?_
                rintro e_t_53 wt_53 ⟨rfl, bt_53⟩
                have HBwt_53 := Lib.hid (Below.step HBwt_52.out bt_53)
                replace Ot_10 := Lib.hid (own_below Ot_10.out bt_53)
                replace Ot_12 := Lib.hid (own_below Ot_12.out bt_53)
                replace Ot_21 := Lib.hid (own_below Ot_21.out bt_53)
                replace Ot_24 := Lib.hid (own_below Ot_24.out bt_53)
                replace Ot_46 := Lib.hid (own_below Ot_46.out bt_53)
                replace Ot_52 := Lib.hid (own_below Ot_52.out bt_53)
                clear bt_53
                cases t_53 with
                | false =>
                  replace H := let_hid H
                  obtain ⟨t_54, ht_54, H⟩ := H
                  obtain rfl : t_54 = true := ht_54.symm
                  replace H := ite_t H
                  obtain rfl := ret_hid H
                  go_wp2_with fail
                  go_ret
                  exact ⟨rfl, HBwt_53.out⟩
                | true =>
                  replace H := let_hid H
                  obtain ⟨t_54, ht_54, H⟩ := H
                  obtain rfl : t_54 = false := ht_54.symm
                  replace H := ite_f H
                  obtain rfl := ret_hid H
                  go_wp2_with fail
                  go_ret
                  exact ⟨rfl, HBwt_53.out⟩
        | true =>
          replace H := let_hid H
          obtain ⟨t_37, ht_37, H⟩ := H
          obtain rfl : t_37 = true := ht_37.symm
          replace H := join_hid H
          replace H := ite_t H
          replace H := app_hid H
          replace H := ite_t H
          obtain rfl := ret_hid H
          go_wp2_with fail
          go_ret
          exact ⟨rfl, HBwt_29.out⟩
      | true =>
        cases t_14a with
        | false =>
          replace H := let_hid H
          obtain ⟨t_37, ht_37, H⟩ := H
          obtain rfl : t_37 = true := ht_37.symm
          replace H := join_hid H
          replace H := ite_t H
          replace H := app_hid H
          replace H := ite_t H
          obtain rfl := ret_hid H
          go_wp2_with fail
          go_ret
          exact ⟨rfl, HBwt_29.out⟩
        | true =>
          replace H := let_hid H
          obtain ⟨t_37, ht_37, H⟩ := H
          obtain rfl : t_37 = false := ht_37.symm
          replace H := join_hid H
          replace H := ite_f H
          cases t_29b with
          | false =>
            cases t_14b with
            | false =>
              replace H := let_hid H
              obtain ⟨t_41, ht_41, H⟩ := H
              obtain rfl : t_41 = false := ht_41.symm
              replace H := app_hid H
              replace H := ite_f H
              replace H := bind_hid H
              obtain ⟨t_46, qt_46, H⟩ := H
              go_wp2_with fail
              go_at_call 18
              refine (Go.Proofs.Ytgfepdfamhnppaa.GlToIntS.C (aA) A0 c0 _  (Lib.hid (Cells.below M0.out HBwt_29.out)) N0 qt_46).mono ?_
              rintro e_t_46 wt_46 ⟨At_46, ct_46, rfl, ot_46, bt_46⟩
              have Dt_46_t_10 := Lib.hid (apart_call ot_46 Ot_10.out)
              have Dt_46_t_12 := Lib.hid (apart_call ot_46 Ot_12.out)
              have Dt_46_t_21 := Lib.hid (apart_call ot_46 Ot_21.out)
              have Dt_46_t_24 := Lib.hid (apart_call ot_46 Ot_24.out)
              have Ot_46 := Lib.hid (own_lower ot_46 HBwt_29.out.size)
              clear ot_46
              have HBwt_46 := Lib.hid (Below.step HBwt_29.out bt_46)
              replace Ot_10 := Lib.hid (own_below Ot_10.out bt_46)
              replace Ot_12 := Lib.hid (own_below Ot_12.out bt_46)
              replace Ot_21 := Lib.hid (own_below Ot_21.out bt_46)
              replace Ot_24 := Lib.hid (own_below Ot_24.out bt_46)
              clear bt_46
              replace H := bind_hid H
              obtain ⟨t_47, qt_47, H⟩ := H
              go_wp2_with fail
              go_at_call 20
              refine (Go.Proofs.Ytgfepdfamhnppaa.GlEqIntS.C (t_21) (t_46) At_21 ct_21 At_46 ct_46 _  (Lib.hid (own_cells Ot_21.out)) (Lib.hid (own_max Ot_21.out)) (Lib.hid (own_cells Ot_46.out)) (Lib.hid (own_max Ot_46.out)) qt_47).mono ?_
              rintro e_t_47 wt_47 ⟨rfl, bt_47⟩
              have HBwt_47 := Lib.hid (Below.step HBwt_46.out bt_47)
              replace Ot_10 := Lib.hid (own_below Ot_10.out bt_47)
              replace Ot_12 := Lib.hid (own_below Ot_12.out bt_47)
              replace Ot_21 := Lib.hid (own_below Ot_21.out bt_47)
              replace Ot_24 := Lib.hid (own_below Ot_24.out bt_47)
              replace Ot_46 := Lib.hid (own_below Ot_46.out bt_47)
              clear bt_47
              cases t_47 with
              | false =>
                replace H := let_hid H
                obtain ⟨t_48, ht_48, H⟩ := H
                obtain rfl : t_48 = true := ht_48.symm
                replace H := ite_t H
                obtain rfl := ret_hid H
                go_wp2_with fail
                go_ret
                exact ⟨rfl, HBwt_47.out⟩
              | true =>
                replace H := let_hid H
                obtain ⟨t_48, ht_48, H⟩ := H
                obtain rfl : t_48 = false := ht_48.symm
                replace H := ite_f H
                replace H := bind_hid H
                obtain ⟨t_52, qt_52, H⟩ := H
                go_wp2_with fail
                go_at_call 18
                refine (Go.Proofs.Ytgfepdfamhnppaa.GlToIntS.C (aB) A1 c1 _  (Lib.hid (Cells.below M1.out HBwt_47.out)) N1 qt_52).mono ?_
                rintro e_t_52 wt_52 ⟨At_52, ct_52, rfl, ot_52, bt_52⟩
                have Dt_52_t_10 := Lib.hid (apart_call ot_52 Ot_10.out)
                have Dt_52_t_12 := Lib.hid (apart_call ot_52 Ot_12.out)
                have Dt_52_t_21 := Lib.hid (apart_call ot_52 Ot_21.out)
                have Dt_52_t_24 := Lib.hid (apart_call ot_52 Ot_24.out)
                have Dt_52_t_46 := Lib.hid (apart_call ot_52 Ot_46.out)
                have Ot_52 := Lib.hid (own_lower ot_52 HBwt_47.out.size)
                clear ot_52
                have HBwt_52 := Lib.hid (Below.step HBwt_47.out bt_52)
                replace Ot_10 := Lib.hid (own_below Ot_10.out bt_52)
                replace Ot_12 := Lib.hid (own_below Ot_12.out bt_52)
                replace Ot_21 := Lib.hid (own_below Ot_21.out bt_52)
                replace Ot_24 := Lib.hid (own_below Ot_24.out bt_52)
                replace Ot_46 := Lib.hid (own_below Ot_46.out bt_52)
                clear bt_52
                replace H := bind_hid H
                obtain ⟨t_53, qt_53, H⟩ := H
                go_wp2_with fail
                go_at_call 20
                refine (Go.Proofs.Ytgfepdfamhnppaa.GlEqIntS.C (t_24) (t_52) At_24 ct_24 At_52 ct_52 _  (Lib.hid (own_cells Ot_24.out)) (Lib.hid (own_max Ot_24.out)) (Lib.hid (own_cells Ot_52.out)) (Lib.hid (own_max Ot_52.out)) qt_53).mono ?_
                rintro e_t_53 wt_53 ⟨rfl, bt_53⟩
                have HBwt_53 := Lib.hid (Below.step HBwt_52.out bt_53)
                replace Ot_10 := Lib.hid (own_below Ot_10.out bt_53)
                replace Ot_12 := Lib.hid (own_below Ot_12.out bt_53)
                replace Ot_21 := Lib.hid (own_below Ot_21.out bt_53)
                replace Ot_24 := Lib.hid (own_below Ot_24.out bt_53)
                replace Ot_46 := Lib.hid (own_below Ot_46.out bt_53)
                replace Ot_52 := Lib.hid (own_below Ot_52.out bt_53)
                clear bt_53
                cases t_53 with
                | false =>
                  replace H := let_hid H
                  obtain ⟨t_54, ht_54, H⟩ := H
                  obtain rfl : t_54 = true := ht_54.symm
                  replace H := ite_t H
                  obtain rfl := ret_hid H
                  go_wp2_with fail
                  go_ret
                  exact ⟨rfl, HBwt_53.out⟩
                | true =>
                  replace H := let_hid H
                  obtain ⟨t_54, ht_54, H⟩ := H
                  obtain rfl : t_54 = false := ht_54.symm
                  replace H := ite_f H
                  obtain rfl := ret_hid H
                  go_wp2_with fail
                  go_ret
                  exact ⟨rfl, HBwt_53.out⟩
            | true =>
              replace H := let_hid H
              obtain ⟨t_41, ht_41, H⟩ := H
              obtain rfl : t_41 = true := ht_41.symm
              replace H := app_hid H
              replace H := ite_t H
              obtain rfl := ret_hid H
              go_wp2_with fail
              go_ret
              exact ⟨rfl, HBwt_29.out⟩
          | true =>
            cases t_14b with
            | false =>
              replace H := let_hid H
              obtain ⟨t_41, ht_41, H⟩ := H
              obtain rfl : t_41 = true := ht_41.symm
              replace H := app_hid H
              replace H := ite_t H
              obtain rfl := ret_hid H
              go_wp2_with fail
              go_ret
              exact ⟨rfl, HBwt_29.out⟩
            | true =>
              replace H := let_hid H
              obtain ⟨t_41, ht_41, H⟩ := H
              obtain rfl : t_41 = false := ht_41.symm
              replace H := app_hid H
              replace H := ite_f H
              replace H := bind_hid H
              obtain ⟨t_46, qt_46, H⟩ := H
              go_wp2_with fail
              go_at_call 18
              refine (Go.Proofs.Ytgfepdfamhnppaa.GlToIntS.C (aA) A0 c0 _  (Lib.hid (Cells.below M0.out HBwt_29.out)) N0 qt_46).mono ?_
              rintro e_t_46 wt_46 ⟨At_46, ct_46, rfl, ot_46, bt_46⟩
              have Dt_46_t_10 := Lib.hid (apart_call ot_46 Ot_10.out)
              have Dt_46_t_12 := Lib.hid (apart_call ot_46 Ot_12.out)
              have Dt_46_t_21 := Lib.hid (apart_call ot_46 Ot_21.out)
              have Dt_46_t_24 := Lib.hid (apart_call ot_46 Ot_24.out)
              have Ot_46 := Lib.hid (own_lower ot_46 HBwt_29.out.size)
              clear ot_46
              have HBwt_46 := Lib.hid (Below.step HBwt_29.out bt_46)
              replace Ot_10 := Lib.hid (own_below Ot_10.out bt_46)
              replace Ot_12 := Lib.hid (own_below Ot_12.out bt_46)
              replace Ot_21 := Lib.hid (own_below Ot_21.out bt_46)
              replace Ot_24 := Lib.hid (own_below Ot_24.out bt_46)
              clear bt_46
              replace H := bind_hid H
              obtain ⟨t_47, qt_47, H⟩ := H
              go_wp2_with fail
              go_at_call 20
              refine (Go.Proofs.Ytgfepdfamhnppaa.GlEqIntS.C (t_21) (t_46) At_21 ct_21 At_46 ct_46 _  (Lib.hid (own_cells Ot_21.out)) (Lib.hid (own_max Ot_21.out)) (Lib.hid (own_cells Ot_46.out)) (Lib.hid (own_max Ot_46.out)) qt_47).mono ?_
              rintro e_t_47 wt_47 ⟨rfl, bt_47⟩
              have HBwt_47 := Lib.hid (Below.step HBwt_46.out bt_47)
              replace Ot_10 := Lib.hid (own_below Ot_10.out bt_47)
              replace Ot_12 := Lib.hid (own_below Ot_12.out bt_47)
              replace Ot_21 := Lib.hid (own_below Ot_21.out bt_47)
              replace Ot_24 := Lib.hid (own_below Ot_24.out bt_47)
              replace Ot_46 := Lib.hid (own_below Ot_46.out bt_47)
              clear bt_47
              cases t_47 with
              | false =>
                replace H := let_hid H
                obtain ⟨t_48, ht_48, H⟩ := H
                obtain rfl : t_48 = true := ht_48.symm
                replace H := ite_t H
                obtain rfl := ret_hid H
                go_wp2_with fail
                go_ret
                exact ⟨rfl, HBwt_47.out⟩
              | true =>
                replace H := let_hid H
                obtain ⟨t_48, ht_48, H⟩ := H
                obtain rfl : t_48 = false := ht_48.symm
                replace H := ite_f H
                replace H := bind_hid H
                obtain ⟨t_52, qt_52, H⟩ := H
                go_wp2_with fail
                go_at_call 18
                refine (Go.Proofs.Ytgfepdfamhnppaa.GlToIntS.C (aB) A1 c1 _  (Lib.hid (Cells.below M1.out HBwt_47.out)) N1 qt_52).mono ?_
                rintro e_t_52 wt_52 ⟨At_52, ct_52, rfl, ot_52, bt_52⟩
                have Dt_52_t_10 := Lib.hid (apart_call ot_52 Ot_10.out)
                have Dt_52_t_12 := Lib.hid (apart_call ot_52 Ot_12.out)
                have Dt_52_t_21 := Lib.hid (apart_call ot_52 Ot_21.out)
                have Dt_52_t_24 := Lib.hid (apart_call ot_52 Ot_24.out)
                have Dt_52_t_46 := Lib.hid (apart_call ot_52 Ot_46.out)
                have Ot_52 := Lib.hid (own_lower ot_52 HBwt_47.out.size)
                clear ot_52
                have HBwt_52 := Lib.hid (Below.step HBwt_47.out bt_52)
                replace Ot_10 := Lib.hid (own_below Ot_10.out bt_52)
                replace Ot_12 := Lib.hid (own_below Ot_12.out bt_52)
                replace Ot_21 := Lib.hid (own_below Ot_21.out bt_52)
                replace Ot_24 := Lib.hid (own_below Ot_24.out bt_52)
                replace Ot_46 := Lib.hid (own_below Ot_46.out bt_52)
                clear bt_52
                replace H := bind_hid H
                obtain ⟨t_53, qt_53, H⟩ := H
                go_wp2_with fail
                go_at_call 20
                refine (Go.Proofs.Ytgfepdfamhnppaa.GlEqIntS.C (t_24) (t_52) At_24 ct_24 At_52 ct_52 _  (Lib.hid (own_cells Ot_24.out)) (Lib.hid (own_max Ot_24.out)) (Lib.hid (own_cells Ot_52.out)) (Lib.hid (own_max Ot_52.out)) qt_53).mono ?_
                rintro e_t_53 wt_53 ⟨rfl, bt_53⟩
                have HBwt_53 := Lib.hid (Below.step HBwt_52.out bt_53)
                replace Ot_10 := Lib.hid (own_below Ot_10.out bt_53)
                replace Ot_12 := Lib.hid (own_below Ot_12.out bt_53)
                replace Ot_21 := Lib.hid (own_below Ot_21.out bt_53)
                replace Ot_24 := Lib.hid (own_below Ot_24.out bt_53)
                replace Ot_46 := Lib.hid (own_below Ot_46.out bt_53)
                replace Ot_52 := Lib.hid (own_below Ot_52.out bt_53)
                clear bt_53
                cases t_53 with
                | false =>
                  replace H := let_hid H
                  obtain ⟨t_54, ht_54, H⟩ := H
                  obtain rfl : t_54 = true := ht_54.symm
                  replace H := ite_t H
                  obtain rfl := ret_hid H
                  go_wp2_with fail
                  go_ret
                  exact ⟨rfl, HBwt_53.out⟩
                | true =>
                  replace H := let_hid H
                  obtain ⟨t_54, ht_54, H⟩ := H
                  obtain rfl : t_54 = false := ht_54.symm
                  replace H := ite_f H
                  obtain rfl := ret_hid H
                  go_wp2_with fail
                  go_ret
                  exact ⟨rfl, HBwt_53.out⟩
    | true =>
      have nht_7 : 1048576 < aB.length := by have := of_decide_eq_true ht_7; omega
      replace H := ite_t H
      obtain rfl := ret_hid H
      go_wp2_with fail
      go_ret
      exact ⟨rfl, HB.out⟩
  | true =>
    have nht_3 : 1048576 < aA.length := by have := of_decide_eq_true ht_3; omega
    replace H := ite_t H
    obtain rfl := ret_hid H
    go_wp2_with fail
    go_ret
    exact ⟨rfl, HB.out⟩
end Go.Proofs.Ytgfepdfamhnppaa.GlFnExactIsPair
