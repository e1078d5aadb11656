/- loop.example/g01062/laws.FnExactGaugeOf as a plain function, and the contract of the program's: where the plain one has an answer, the program has it. Conditions: slices read as lists. -/
import Derived.Test.YtgfepdfamhnppaaChecked
import Derived.Test.YtgfepdfamhnppaaGoM
import Derived.Test.YtgfepdfamhnppaaHelpInt
import Derived.Test.YtgfepdfamhnppaaGlToIntS
import Derived.Test.YtgfepdfamhnppaaGsGaugeOf
import Derived.Test.YtgfepdfamhnppaaGiGaugeOf
import Derived.Test.YtgfepdfamhnppaaGlEqIntS
import Derived.WalkKit
import Derived.WalkSpells
import Derived.WalkLawsBesides
import Derived.BigQuiet
import Derived.OwnWalk
import Derived.Deep.LoopGhost
import Derived.Deep.QuietTactic
import Derived.IntWalk
import Derived.Lib.QuietBelow
namespace Go.Proofs.Ytgfepdfamhnppaa.GlFnExactGaugeOf
set_option linter.unusedVariables false
set_option linter.unusedSimpArgs false
open Go.RowKit
open Go.Proofs.Ytgfepdfamhnppaa.Rowed Go.Proofs.Ytgfepdfamhnppaa.Turn Go.Proofs.Ytgfepdfamhnppaa.Aid Go.Proofs.Ytgfepdfamhnppaa.GoP Go.Proofs.Ytgfepdfamhnppaa.GoM

def P (aHoles : (List Int)) : Option (Bool) :=
  letK (decide (1048576 < (aHoles.length : Int))) fun (t_3 : Bool) =>
  iteK t_3
  (some true)
  (Option.bind (Go.Proofs.Ytgfepdfamhnppaa.GlToIntS.P aHoles) fun (t_6 : (List Int)) =>
  bind2 (Go.Proofs.Ytgfepdfamhnppaa.GsGaugeOf.P t_6) fun (t_7a : Int) (t_7b : Bool) =>
  Option.bind (Go.Proofs.Ytgfepdfamhnppaa.GlToIntS.P aHoles) fun (t_14 : (List Int)) =>
  bind2 (Go.Proofs.Ytgfepdfamhnppaa.GiGaugeOf.P t_14) fun (t_17a : Int) (t_17b : Bool) =>
  letK (t_17a != t_7a) fun (t_25 : Bool) =>
  joinK (fun (t_30 : Bool) =>
  iteK t_30
  (some false)
  (Option.bind (Go.Proofs.Ytgfepdfamhnppaa.GlToIntS.P aHoles) fun (t_34 : (List Int)) =>
  Option.bind (Go.Proofs.Ytgfepdfamhnppaa.GlEqIntS.P t_14 t_34) fun (t_35 : Bool) =>
  letK (!t_35) fun (t_36 : Bool) =>
  iteK t_36
  (some false)
  (some true))) fun jt_30 => iteK t_25 (appK jt_30 true) (letK (t_17b != t_7b) fun (t_29 : Bool) =>
  appK jt_30 t_29))

set_option maxRecDepth 100000 in
set_option maxHeartbeats 2000000 in
theorem C (aHoles : (List Int)) (A0 : Option Addr) (c0 : Nat)  (w : World) (M0 : Hid (Cells w 1 A0 aHoles.length (Go.Proofs.Ytgfepdfamhnppaa.HelpInt.iv aHoles))) (N0 : Hid (aHoles.length ≤ 9223372036854775807))  {r : Bool} (H : Hid (P aHoles = some r)) :
    Calls Try.prog 4 #[.slice A0 aHoles.length c0] w (Gives (.bool r) w) := by
  have HB := Lib.hid (Below.refl w.heap.size w)
  unfold P at H
  have N0o := N0.out
  go_enter Try.func4, Try.ntmps4
  replace H := let_hid H
  obtain ⟨t_3, ht_3, H⟩ := H
  cases t_3 with
  | false =>
    have nht_3 : ¬ (1048576 < aHoles.length) := by have := of_decide_eq_false ht_3; omega
    replace H := ite_f H
    replace H := bind_hid H
    obtain ⟨t_6, qt_6, H⟩ := H
    go_wp2_with fail
    go_at_call 18
    refine (Go.Proofs.Ytgfepdfamhnppaa.GlToIntS.C (aHoles) A0 c0 _  (Lib.hid (Cells.below M0.out HB.out)) N0 qt_6).mono ?_
    rintro e_t_6 wt_6 ⟨At_6, ct_6, rfl, ot_6, bt_6⟩
    have Ot_6 := Lib.hid (own_lower ot_6 HB.out.size)
    clear ot_6
    have HBwt_6 := Lib.hid (Below.step HB.out bt_6)
    clear bt_6
    replace H := bind2_hid H
    obtain ⟨t_7a, t_7b, qt_7, H⟩ := H
    go_wp2_with fail
    go_at_call 17
    refine (Go.Proofs.Ytgfepdfamhnppaa.GsGaugeOf.C (t_6) At_6 ct_6 _  (Lib.hid (own_cells Ot_6.out)) (Lib.hid (own_max Ot_6.out)) qt_7).mono ?_
    rintro e_t_7 wt_7 ⟨rfl, bt_7⟩
    have HBwt_7 := Lib.hid (Below.step HBwt_6.out bt_7)
    replace Ot_6 := Lib.hid (own_below Ot_6.out bt_7)
    clear bt_7
    replace H := bind_hid H
    obtain ⟨t_14, qt_14, H⟩ := H
    go_wp2_with fail
    go_at_call 18
    refine (Go.Proofs.Ytgfepdfamhnppaa.GlToIntS.C (aHoles) A0 c0 _  (Lib.hid (Cells.below M0.out HBwt_7.out)) N0 qt_14).mono ?_
    rintro e_t_14 wt_14 ⟨At_14, ct_14, rfl, ot_14, bt_14⟩
    have Dt_14_t_6 := Lib.hid (apart_call ot_14 Ot_6.out)
    have Ot_14 := Lib.hid (own_lower ot_14 HBwt_7.out.size)
    clear ot_14
    have HBwt_14 := Lib.hid (Below.step HBwt_7.out bt_14)
    replace Ot_6 := Lib.hid (own_below Ot_6.out bt_14)
    clear bt_14
    replace H := bind2_hid H
    obtain ⟨t_17a, t_17b, qt_17, H⟩ := H
    go_wp2_with fail
    go_at_call 19
    refine (Go.Proofs.Ytgfepdfamhnppaa.GiGaugeOf.C (t_14) At_14 ct_14 _  (Lib.hid (own_cells Ot_14.out)) (Lib.hid (own_max Ot_14.out)) qt_17).mono ?_
    rintro e_t_17 wt_17 ⟨rfl, bt_17⟩
    have HBwt_17 := Lib.hid (Below.step HBwt_14.out bt_17)
    replace Ot_6 := Lib.hid (own_below Ot_6.out bt_17)
    replace Ot_14 := Lib.hid (own_below Ot_14.out bt_17)
    clear bt_17
    replace H := let_hid H
    obtain ⟨t_25, ht_25, H⟩ := H
    replace H := join_hid H
    cases t_25 with
    | false =>
      replace H := ite_f H
      cases t_17b with
      | false =>
        cases t_7b with
        | false =>
          replace H := let_hid H
          obtain ⟨t_29, ht_29, H⟩ := H
          obtain rfl : t_29 = false := ht_29.symm
          replace H := app_hid H
          replace H := ite_f H
          replace H := bind_hid H
          obtain ⟨t_34, qt_34, H⟩ := H
          go_wp2_with fail
          go_at_call 18
          refine (Go.Proofs.Ytgfepdfamhnppaa.GlToIntS.C (aHoles) A0 c0 _  (Lib.hid (Cells.below M0.out HBwt_17.out)) N0 qt_34).mono ?_
          rintro e_t_34 wt_34 ⟨At_34, ct_34, rfl, ot_34, bt_34⟩
          have Dt_34_t_6 := Lib.hid (apart_call ot_34 Ot_6.out)
          have Dt_34_t_14 := Lib.hid (apart_call ot_34 Ot_14.out)
          have Ot_34 := Lib.hid (own_lower ot_34 HBwt_17.out.size)
          clear ot_34
          have HBwt_34 := Lib.hid (Below.step HBwt_17.out bt_34)
          replace Ot_6 := Lib.hid (own_below Ot_6.out bt_34)
          replace Ot_14 := Lib.hid (own_below Ot_14.out bt_34)
          clear bt_34
          replace H := bind_hid H
          obtain ⟨t_35, qt_35, H⟩ := H
          go_wp2_with fail
          go_at_call 20
          refine (Go.Proofs.Ytgfepdfamhnppaa.GlEqIntS.C (t_14) (t_34) At_14 ct_14 At_34 ct_34 _  (Lib.hid (own_cells Ot_14.out)) (Lib.hid (own_max Ot_14.out)) (Lib.hid (own_cells Ot_34.out)) (Lib.hid (own_max Ot_34.out)) qt_35).mono ?_
          rintro e_t_35 wt_35 ⟨rfl, bt_35⟩
          have HBwt_35 := Lib.hid (Below.step HBwt_34.out bt_35)
          replace Ot_6 := Lib.hid (own_below Ot_6.out bt_35)
          replace Ot_14 := Lib.hid (own_below Ot_14.out bt_35)
          replace Ot_34 := Lib.hid (own_below Ot_34.out bt_35)
          clear bt_35
          cases t_35 with
          | false =>
            replace H := let_hid H
            obtain ⟨t_36, ht_36, H⟩ := H
            obtain rfl : t_36 = true := ht_36.symm
            replace H := ite_t H
            obtain rfl := ret_hid H
            go_wp2_with fail
            go_ret
            exact ⟨rfl, HBwt_35.out⟩
          | true =>
            replace H := let_hid H
            obtain ⟨t_36, ht_36, H⟩ := H
            obtain rfl : t_36 = false := ht_36.symm
            replace H := ite_f H
            obtain rfl := ret_hid H
            go_wp2_with fail
            go_ret
            exact ⟨rfl, HBwt_35.out⟩
        | true =>
          replace H := let_hid H
          obtain ⟨t_29, ht_29, H⟩ := H
          obtain rfl : t_29 = true := ht_29.symm
          replace H := app_hid H
          replace H := ite_t H
          obtain rfl := ret_hid H
          go_wp2_with fail
          go_ret
          exact ⟨rfl, HBwt_17.out⟩
      | true =>
        cases t_7b with
        | false =>
          replace H := let_hid H
          obtain ⟨t_29, ht_29, H⟩ := H
          obtain rfl : t_29 = true := ht_29.symm
          replace H := app_hid H
          replace H := ite_t H
          obtain rfl := ret_hid H
          go_wp2_with fail
          go_ret
          exact ⟨rfl, HBwt_17.out⟩
        | true =>
          replace H := let_hid H
          obtain ⟨t_29, ht_29, H⟩ := H
          obtain rfl : t_29 = false := ht_29.symm
          replace H := app_hid H
          replace H := ite_f H
          replace H := bind_hid H
          obtain ⟨t_34, qt_34, H⟩ := H
          go_wp2_with fail
          go_at_call 18
          refine (Go.Proofs.Ytgfepdfamhnppaa.GlToIntS.C (aHoles) A0 c0 _  (Lib.hid (Cells.below M0.out HBwt_17.out)) N0 qt_34).mono ?_
          rintro e_t_34 wt_34 ⟨At_34, ct_34, rfl, ot_34, bt_34⟩
          have Dt_34_t_6 := Lib.hid (apart_call ot_34 Ot_6.out)
          have Dt_34_t_14 := Lib.hid (apart_call ot_34 Ot_14.out)
          have Ot_34 := Lib.hid (own_lower ot_34 HBwt_17.out.size)
          clear ot_34
          have HBwt_34 := Lib.hid (Below.step HBwt_17.out bt_34)
          replace Ot_6 := Lib.hid (own_below Ot_6.out bt_34)
          replace Ot_14 := Lib.hid (own_below Ot_14.out bt_34)
          clear bt_34
          replace H := bind_hid H
          obtain ⟨t_35, qt_35, H⟩ := H
          go_wp2_with fail
          go_at_call 20
          refine (Go.Proofs.Ytgfepdfamhnppaa.GlEqIntS.C (t_14) (t_34) At_14 ct_14 At_34 ct_34 _  (Lib.hid (own_cells Ot_14.out)) (Lib.hid (own_max Ot_14.out)) (Lib.hid (own_cells Ot_34.out)) (Lib.hid (own_max Ot_34.out)) qt_35).mono ?_
          rintro e_t_35 wt_35 ⟨rfl, bt_35⟩
          have HBwt_35 := Lib.hid (Below.step HBwt_34.out bt_35)
          replace Ot_6 := Lib.hid (own_below Ot_6.out bt_35)
          replace Ot_14 := Lib.hid (own_below Ot_14.out bt_35)
          replace Ot_34 := Lib.hid (own_below Ot_34.out bt_35)
          clear bt_35
          cases t_35 with
          | false =>
            replace H := let_hid H
            obtain ⟨t_36, ht_36, H⟩ := H
            obtain rfl : t_36 = true := ht_36.symm
            replace H := ite_t H
            obtain rfl := ret_hid H
            go_wp2_with fail
            go_ret
            exact ⟨rfl, HBwt_35.out⟩
          | true =>
            replace H := let_hid H
            obtain ⟨t_36, ht_36, H⟩ := H
            obtain rfl : t_36 = false := ht_36.symm
            replace H := ite_f H
            obtain rfl := ret_hid H
            go_wp2_with fail
            go_ret
            exact ⟨rfl, HBwt_35.out⟩
    | true =>
      replace H := ite_t H
      replace H := app_hid H
      replace H := ite_t H
      obtain rfl := ret_hid H
      go_wp2_with fail
      go_ret
      exact ⟨rfl, HBwt_17.out⟩
  | true =>
    have nht_3 : 1048576 < aHoles.length := by have := of_decide_eq_true ht_3; omega
    replace H := ite_t H
    obtain rfl := ret_hid H
    go_wp2_with fail
    go_ret
    exact ⟨rfl, HB.out⟩
end Go.Proofs.Ytgfepdfamhnppaa.GlFnExactGaugeOf
