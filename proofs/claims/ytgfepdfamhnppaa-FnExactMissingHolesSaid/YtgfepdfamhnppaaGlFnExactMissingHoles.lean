/- loop.example/g01062/laws.FnExactMissingHoles as a plain function, and the contract of the program's: where the plain one has an answer, the program has it. Conditions: slices read as lists. -/
import Derived.Test.YtgfepdfamhnppaaChecked
import Derived.Test.YtgfepdfamhnppaaGoM
import Derived.Test.YtgfepdfamhnppaaHelpInt
import Derived.Test.YtgfepdfamhnppaaGlToIntS
import Derived.Test.YtgfepdfamhnppaaGsMissingHoles
import Derived.Test.YtgfepdfamhnppaaGiMissingHoles
import Derived.Test.YtgfepdfamhnppaaGlEqIntS
import Derived.WalkKit
import Derived.WalkSpells
import Derived.WalkLawsBesides
import Derived.BigQuiet
import Derived.OwnWalk
import Derived.Deep.LoopGhost
import Derived.Deep.QuietTactic
import Derived.IntWalk
import Derived.Lib.QuietBelow
namespace Go.Proofs.Ytgfepdfamhnppaa.GlFnExactMissingHoles
set_option linter.unusedVariables false
set_option linter.unusedSimpArgs false
open Go.RowKit
open Go.Proofs.Ytgfepdfamhnppaa.Rowed Go.Proofs.Ytgfepdfamhnppaa.Turn Go.Proofs.Ytgfepdfamhnppaa.Aid Go.Proofs.Ytgfepdfamhnppaa.GoP Go.Proofs.Ytgfepdfamhnppaa.GoM

def P (fuel : Nat) (aHoles : (List Int)) (aGauge : Int) : Option (Bool) :=
  letK (decide (1048576 < (aHoles.length : Int))) fun (t_3 : Bool) =>
  iteK t_3
  (some true)
  (Option.bind (Go.Proofs.Ytgfepdfamhnppaa.GlToIntS.P aHoles) fun (t_6 : (List Int)) =>
  bind2 (Go.Proofs.Ytgfepdfamhnppaa.GsMissingHoles.P fuel t_6 aGauge) fun (t_8a : Int) (t_8b : Bool) =>
  Option.bind (Go.Proofs.Ytgfepdfamhnppaa.GlToIntS.P aHoles) fun (t_15 : (List Int)) =>
  bind2 (Go.Proofs.Ytgfepdfamhnppaa.GiMissingHoles.P fuel t_15 aGauge) fun (t_19a : Int) (t_19b : Bool) =>
  letK (t_19a != t_8a) fun (t_27 : Bool) =>
  joinK (fun (t_32 : Bool) =>
  iteK t_32
  (some false)
  (Option.bind (Go.Proofs.Ytgfepdfamhnppaa.GlToIntS.P aHoles) fun (t_36 : (List Int)) =>
  Option.bind (Go.Proofs.Ytgfepdfamhnppaa.GlEqIntS.P t_15 t_36) fun (t_37 : Bool) =>
  letK (!t_37) fun (t_38 : Bool) =>
  iteK t_38
  (some false)
  (some true))) fun jt_32 => iteK t_27 (appK jt_32 true) (letK (t_19b != t_8b) fun (t_31 : Bool) =>
  appK jt_32 t_31))

set_option maxRecDepth 100000 in
set_option maxHeartbeats 2000000 in
theorem C (fuel : Nat) (aHoles : (List Int)) (aGauge : Int) (A0 : Option Addr) (c0 : Nat)  (w : World) (M0 : Hid (Cells w 1 A0 aHoles.length (Go.Proofs.Ytgfepdfamhnppaa.HelpInt.iv aHoles))) (N0 : Hid (aHoles.length ≤ 9223372036854775807))  {r : Bool} (H : Hid (P fuel aHoles aGauge = some r)) :
    Calls Try.prog 6 #[.slice A0 aHoles.length c0, .int .i64 aGauge] w (Gives (.bool r) w) := by
  have HB := Lib.hid (Below.refl w.heap.size w)
  unfold P at H
  have N0o := N0.out
  go_enter Try.func6, Try.ntmps6
  replace H := let_hid H
  obtain ⟨t_3, ht_3, H⟩ := H
  cases t_3 with
  | false =>
    have nht_3 : ¬ (1048576 < aHoles.length) := by have := of_decide_eq_false ht_3; omega
    replace H := ite_f H
    replace H := bind_hid H
    obtain ⟨t_6, qt_6, H⟩ := H
    go_wp2_with fail
    go_at_call 18
    refine (Go.Proofs.Ytgfepdfamhnppaa.GlToIntS.C (aHoles) A0 c0 _  (Lib.hid (Cells.below M0.out HB.out)) N0 qt_6).mono ?_
    rintro e_t_6 wt_6 ⟨At_6, ct_6, rfl, ot_6, bt_6⟩
    have Ot_6 := Lib.hid (own_lower ot_6 HB.out.size)
    clear ot_6
    have HBwt_6 := Lib.hid (Below.step HB.out bt_6)
    clear bt_6
    replace H := bind2_hid H
    obtain ⟨t_8a, t_8b, qt_8, H⟩ := H
    go_wp2_with fail
    go_at_call 23
    refine (Go.Proofs.Ytgfepdfamhnppaa.GsMissingHoles.C fuel (t_6) (aGauge) At_6 ct_6 _  (Lib.hid (own_cells Ot_6.out)) (Lib.hid (own_max Ot_6.out)) qt_8).mono ?_
    rintro e_t_8 wt_8 ⟨rfl, bt_8⟩
    have HBwt_8 := Lib.hid (Below.step HBwt_6.out bt_8)
    replace Ot_6 := Lib.hid (own_below Ot_6.out bt_8)
    clear bt_8
    replace H := bind_hid H
    obtain ⟨t_15, qt_15, H⟩ := H
    go_wp2_with fail
    go_at_call 18
    refine (Go.Proofs.Ytgfepdfamhnppaa.GlToIntS.C (aHoles) A0 c0 _  (Lib.hid (Cells.below M0.out HBwt_8.out)) N0 qt_15).mono ?_
    rintro e_t_15 wt_15 ⟨At_15, ct_15, rfl, ot_15, bt_15⟩
    have Dt_15_t_6 := Lib.hid (apart_call ot_15 Ot_6.out)
    have Ot_15 := Lib.hid (own_lower ot_15 HBwt_8.out.size)
    clear ot_15
    have HBwt_15 := Lib.hid (Below.step HBwt_8.out bt_15)
    replace Ot_6 := Lib.hid (own_below Ot_6.out bt_15)
    clear bt_15
    replace H := bind2_hid H
    obtain ⟨t_19a, t_19b, qt_19, H⟩ := H
    go_wp2_with fail
    go_at_call 24
    refine (Go.Proofs.Ytgfepdfamhnppaa.GiMissingHoles.C fuel (t_15) (aGauge) At_15 ct_15 _  (Lib.hid (own_cells Ot_15.out)) (Lib.hid (own_max Ot_15.out)) qt_19).mono ?_
    rintro e_t_19 wt_19 ⟨rfl, bt_19⟩
    have HBwt_19 := Lib.hid (Below.step HBwt_15.out bt_19)
    replace Ot_6 := Lib.hid (own_below Ot_6.out bt_19)
    replace Ot_15 := Lib.hid (own_below Ot_15.out bt_19)
    clear bt_19
    replace H := let_hid H
    obtain ⟨t_27, ht_27, H⟩ := H
    replace H := join_hid H
    cases t_27 with
    | false =>
      replace H := ite_f H
      cases t_19b with
      | false =>
        cases t_8b with
        | false =>
          replace H := let_hid H
          obtain ⟨t_31, ht_31, H⟩ := H
          obtain rfl : t_31 = false := ht_31.symm
          replace H := app_hid H
          replace H := ite_f H
          replace H := bind_hid H
          obtain ⟨t_36, qt_36, H⟩ := H
          go_wp2_with fail
          go_at_call 18
          refine (Go.Proofs.Ytgfepdfamhnppaa.GlToIntS.C (aHoles) A0 c0 _  (Lib.hid (Cells.below M0.out HBwt_19.out)) N0 qt_36).mono ?_
          rintro e_t_36 wt_36 ⟨At_36, ct_36, rfl, ot_36, bt_36⟩
          have Dt_36_t_6 := Lib.hid (apart_call ot_36 Ot_6.out)
          have Dt_36_t_15 := Lib.hid (apart_call ot_36 Ot_15.out)
          have Ot_36 := Lib.hid (own_lower ot_36 HBwt_19.out.size)
          clear ot_36
          have HBwt_36 := Lib.hid (Below.step HBwt_19.out bt_36)
          replace Ot_6 := Lib.hid (own_below Ot_6.out bt_36)
          replace Ot_15 := Lib.hid (own_below Ot_15.out bt_36)
          clear bt_36
          replace H := bind_hid H
          obtain ⟨t_37, qt_37, H⟩ := H
          go_wp2_with fail
          go_at_call 20
          refine (Go.Proofs.Ytgfepdfamhnppaa.GlEqIntS.C (t_15) (t_36) At_15 ct_15 At_36 ct_36 _  (Lib.hid (own_cells Ot_15.out)) (Lib.hid (own_max Ot_15.out)) (Lib.hid (own_cells Ot_36.out)) (Lib.hid (own_max Ot_36.out)) qt_37).mono ?_
          rintro e_t_37 wt_37 ⟨rfl, bt_37⟩
          have HBwt_37 := Lib.hid (Below.step HBwt_36.out bt_37)
          replace Ot_6 := Lib.hid (own_below Ot_6.out bt_37)
          replace Ot_15 := Lib.hid (own_below Ot_15.out bt_37)
          replace Ot_36 := Lib.hid (own_below Ot_36.out bt_37)
          clear bt_37
          cases t_37 with
          | false =>
            replace H := let_hid H
            obtain ⟨t_38, ht_38, H⟩ := H
            obtain rfl : t_38 = true := ht_38.symm
            replace H := ite_t H
            obtain rfl := ret_hid H
            go_wp2_with fail
            go_ret
            exact ⟨rfl, HBwt_37.out⟩
          | true =>
            replace H := let_hid H
            obtain ⟨t_38, ht_38, H⟩ := H
            obtain rfl : t_38 = false := ht_38.symm
            replace H := ite_f H
            obtain rfl := ret_hid H
            go_wp2_with fail
            go_ret
            exact ⟨rfl, HBwt_37.out⟩
        | true =>
          replace H := let_hid H
          obtain ⟨t_31, ht_31, H⟩ := H
          obtain rfl : t_31 = true := ht_31.symm
          replace H := app_hid H
          replace H := ite_t H
          obtain rfl := ret_hid H
          go_wp2_with fail
          go_ret
          exact ⟨rfl, HBwt_19.out⟩
      | true =>
        cases t_8b with
        | false =>
          replace H := let_hid H
          obtain ⟨t_31, ht_31, H⟩ := H
          obtain rfl : t_31 = true := ht_31.symm
          replace H := app_hid H
          replace H := ite_t H
          obtain rfl := ret_hid H
          go_wp2_with fail
          go_ret
          exact ⟨rfl, HBwt_19.out⟩
        | true =>
          replace H := let_hid H
          obtain ⟨t_31, ht_31, H⟩ := H
          obtain rfl : t_31 = false := ht_31.symm
          replace H := app_hid H
          replace H := ite_f H
          replace H := bind_hid H
          obtain ⟨t_36, qt_36, H⟩ := H
          go_wp2_with fail
          go_at_call 18
          refine (Go.Proofs.Ytgfepdfamhnppaa.GlToIntS.C (aHoles) A0 c0 _  (Lib.hid (Cells.below M0.out HBwt_19.out)) N0 qt_36).mono ?_
          rintro e_t_36 wt_36 ⟨At_36, ct_36, rfl, ot_36, bt_36⟩
          have Dt_36_t_6 := Lib.hid (apart_call ot_36 Ot_6.out)
          have Dt_36_t_15 := Lib.hid (apart_call ot_36 Ot_15.out)
          have Ot_36 := Lib.hid (own_lower ot_36 HBwt_19.out.size)
          clear ot_36
          have HBwt_36 := Lib.hid (Below.step HBwt_19.out bt_36)
          replace Ot_6 := Lib.hid (own_below Ot_6.out bt_36)
          replace Ot_15 := Lib.hid (own_below Ot_15.out bt_36)
          clear bt_36
          replace H := bind_hid H
          obtain ⟨t_37, qt_37, H⟩ := H
          go_wp2_with fail
          go_at_call 20
          refine (Go.Proofs.Ytgfepdfamhnppaa.GlEqIntS.C (t_15) (t_36) At_15 ct_15 At_36 ct_36 _  (Lib.hid (own_cells Ot_15.out)) (Lib.hid (own_max Ot_15.out)) (Lib.hid (own_cells Ot_36.out)) (Lib.hid (own_max Ot_36.out)) qt_37).mono ?_
          rintro e_t_37 wt_37 ⟨rfl, bt_37⟩
          have HBwt_37 := Lib.hid (Below.step HBwt_36.out bt_37)
          replace Ot_6 := Lib.hid (own_below Ot_6.out bt_37)
          replace Ot_15 := Lib.hid (own_below Ot_15.out bt_37)
          replace Ot_36 := Lib.hid (own_below Ot_36.out bt_37)
          clear bt_37
          cases t_37 with
          | false =>
            replace H := let_hid H
            obtain ⟨t_38, ht_38, H⟩ := H
            obtain rfl : t_38 = true := ht_38.symm
            replace H := ite_t H
            obtain rfl := ret_hid H
            go_wp2_with fail
            go_ret
            exact ⟨rfl, HBwt_37.out⟩
          | true =>
            replace H := let_hid H
            obtain ⟨t_38, ht_38, H⟩ := H
            obtain rfl : t_38 = false := ht_38.symm
            replace H := ite_f H
            obtain rfl := ret_hid H
            go_wp2_with fail
            go_ret
            exact ⟨rfl, HBwt_37.out⟩
    | true =>
      replace H := ite_t H
      replace H := app_hid H
      replace H := ite_t H
      obtain rfl := ret_hid H
      go_wp2_with fail
      go_ret
      exact ⟨rfl, HBwt_19.out⟩
  | true =>
    have nht_3 : 1048576 < aHoles.length := by have := of_decide_eq_true ht_3; omega
    replace H := ite_t H
    obtain rfl := ret_hid H
    go_wp2_with fail
    go_ret
    exact ⟨rfl, HB.out⟩
end Go.Proofs.Ytgfepdfamhnppaa.GlFnExactMissingHoles
