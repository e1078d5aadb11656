/- loop.example/g01062/laws.FnExactPointsOn as a plain function, and the contract of the program's: where the plain one has an answer, the program has it. Conditions: slices read as lists. -/
import Derived.Test.YtaknldlglfnbfaaChecked
import Derived.Test.YtaknldlglfnbfaaGoM
import Derived.Test.YtaknldlglfnbfaaGlSzStringS
import Derived.Test.YtaknldlglfnbfaaGlToStringS
import Derived.Test.YtaknldlglfnbfaaGsPointsOn
import Derived.Test.YtaknldlglfnbfaaGiPointsOn
import Derived.Test.YtaknldlglfnbfaaGlEqStringS
import Derived.WalkKit
import Derived.WalkSpells
import Derived.WalkLawsBesides
import Derived.BigQuiet
import Derived.OwnWalk
import Derived.Deep.LoopGhost
import Derived.Deep.QuietTactic
import Derived.IntWalk
import Derived.Lib.QuietBelow
namespace Go.Proofs.Ytaknldlglfnbfaa.GlFnExactPointsOn
set_option linter.unusedVariables false
set_option linter.unusedSimpArgs false
open Go.RowKit
open Go.Proofs.Ytaknldlglfnbfaa.Rowed Go.Proofs.Ytaknldlglfnbfaa.Turn Go.Proofs.Ytaknldlglfnbfaa.Aid Go.Proofs.Ytaknldlglfnbfaa.GoP Go.Proofs.Ytaknldlglfnbfaa.GoM

def P (fuel : Nat) (aSheet : (List ByteArray)) : Option (Bool) :=
  Option.bind (Go.Proofs.Ytaknldlglfnbfaa.GlSzStringS.P aSheet 1048576) fun (t_4 : Int) =>
  letK (decide (t_4 < 0)) fun (t_7 : Bool) =>
  iteK t_7
  (some true)
  (Option.bind (Go.Proofs.Ytaknldlglfnbfaa.GlToStringS.P aSheet) fun (t_10 : (List ByteArray)) =>
  bind2 (Go.Proofs.Ytaknldlglfnbfaa.GsPointsOn.P fuel t_10) fun (t_11a : Int) (t_11b : Bool) =>
  Option.bind (Go.Proofs.Ytaknldlglfnbfaa.GlToStringS.P aSheet) fun (t_18 : (List ByteArray)) =>
  bind2 (Go.Proofs.Ytaknldlglfnbfaa.GiPointsOn.P t_18) fun (t_21a : Int) (t_21b : Bool) =>
  letK (t_21a != t_11a) fun (t_29 : Bool) =>
  joinK (fun (t_34 : Bool) =>
  iteK t_34
  (some false)
  (Option.bind (Go.Proofs.Ytaknldlglfnbfaa.GlToStringS.P aSheet) fun (t_38 : (List ByteArray)) =>
  Option.bind (Go.Proofs.Ytaknldlglfnbfaa.GlEqStringS.P t_18 t_38) fun (t_39 : Bool) =>
  letK (!t_39) fun (t_40 : Bool) =>
  iteK t_40
  (some false)
  (some true))) fun jt_34 => iteK t_29 (appK jt_34 true) (letK (t_21b != t_11b) fun (t_33 : Bool) =>
  appK jt_34 t_33))

set_option maxRecDepth 100000 in
set_option maxHeartbeats 2000000 in
theorem C (fuel : Nat) (aSheet : (List ByteArray)) (A0 : Option Addr) (c0 : Nat)  (w : World) (M0 : Hid (Cells w 1 A0 aSheet.length (aSheet.map Value.string))) (N0 : Hid (aSheet.length ≤ 9223372036854775807))  {r : Bool} (H : Hid (P fuel aSheet = some r)) :
    Calls Try.prog 11 #[.slice A0 aSheet.length c0] w (Gives (.bool r) w) := by
  have HB := Lib.hid (Below.refl w.heap.size w)
  unfold P at H
  have N0o := N0.out
  go_enter Try.func11, Try.ntmps11
  replace H := bind_hid H
  obtain ⟨t_4, qt_4, H⟩ := H
  go_wp2_with fail
  go_at_call 36
  refine (Go.Proofs.Ytaknldlglfnbfaa.GlSzStringS.C (aSheet) (1048576) A0 c0 _  (Lib.hid (Cells.below M0.out HB.out)) N0 qt_4).mono ?_
  rintro e_t_4 wt_4 ⟨rfl, bt_4⟩
  have HBwt_4 := Lib.hid (Below.step HB.out bt_4)
  clear bt_4
  replace H := let_hid H
  obtain ⟨t_7, ht_7, H⟩ := H
  cases t_7 with
  | false =>
    replace H := ite_f H
    replace H := bind_hid H
    obtain ⟨t_10, qt_10, H⟩ := H
    go_wp2_with fail
    go_at_call 39
    refine (Go.Proofs.Ytaknldlglfnbfaa.GlToStringS.C (aSheet) A0 c0 _  (Lib.hid (Cells.below M0.out HBwt_4.out)) N0 qt_10).mono ?_
    rintro e_t_10 wt_10 ⟨At_10, ct_10, rfl, ot_10, bt_10⟩
    have Ot_10 := Lib.hid (own_lower ot_10 HBwt_4.out.size)
    clear ot_10
    have HBwt_10 := Lib.hid (Below.step HBwt_4.out bt_10)
    clear bt_10
    replace H := bind2_hid H
    obtain ⟨t_11a, t_11b, qt_11, H⟩ := H
    go_wp2_with fail
    go_at_call 59
    refine (Go.Proofs.Ytaknldlglfnbfaa.GsPointsOn.C fuel (t_10) At_10 ct_10 _  (Lib.hid (own_cells Ot_10.out)) (Lib.hid (own_max Ot_10.out)) qt_11).mono ?_
    rintro e_t_11 wt_11 ⟨rfl, bt_11⟩
    have HBwt_11 := Lib.hid (Below.step HBwt_10.out bt_11)
    replace Ot_10 := Lib.hid (own_below Ot_10.out bt_11)
    clear bt_11
    replace H := bind_hid H
    obtain ⟨t_18, qt_18, H⟩ := H
    go_wp2_with fail
    go_at_call 39
    refine (Go.Proofs.Ytaknldlglfnbfaa.GlToStringS.C (aSheet) A0 c0 _  (Lib.hid (Cells.below M0.out HBwt_11.out)) N0 qt_18).mono ?_
    rintro e_t_18 wt_18 ⟨At_18, ct_18, rfl, ot_18, bt_18⟩
    have Dt_18_t_10 := Lib.hid (apart_call ot_18 Ot_10.out)
    have Ot_18 := Lib.hid (own_lower ot_18 HBwt_11.out.size)
    clear ot_18
    have HBwt_18 := Lib.hid (Below.step HBwt_11.out bt_18)
    replace Ot_10 := Lib.hid (own_below Ot_10.out bt_18)
    clear bt_18
    replace H := bind2_hid H
    obtain ⟨t_21a, t_21b, qt_21, H⟩ := H
    go_wp2_with fail
    go_at_call 60
    refine (Go.Proofs.Ytaknldlglfnbfaa.GiPointsOn.C (t_18) At_18 ct_18 _  (Lib.hid (own_cells Ot_18.out)) (Lib.hid (own_max Ot_18.out)) qt_21).mono ?_
    rintro e_t_21 wt_21 ⟨rfl, bt_21⟩
    have HBwt_21 := Lib.hid (Below.step HBwt_18.out bt_21)
    replace Ot_10 := Lib.hid (own_below Ot_10.out bt_21)
    replace Ot_18 := Lib.hid (own_below Ot_18.out bt_21)
    clear bt_21
    replace H := let_hid H
    obtain ⟨t_29, ht_29, H⟩ := H
    replace H := join_hid H
    cases t_29 with
    | false =>
      replace H := ite_f H
      cases t_21b with
      | false =>
        cases t_11b with
        | false =>
          replace H := let_hid H
          obtain ⟨t_33, ht_33, H⟩ := H
          obtain rfl : t_33 = false := ht_33.symm
          replace H := app_hid H
          replace H := ite_f H
          replace H := bind_hid H
          obtain ⟨t_38, qt_38, H⟩ := H
          go_wp2_with fail
          go_at_call 39
          refine (Go.Proofs.Ytaknldlglfnbfaa.GlToStringS.C (aSheet) A0 c0 _  (Lib.hid (Cells.below M0.out HBwt_21.out)) N0 qt_38).mono ?_
          rintro e_t_38 wt_38 ⟨At_38, ct_38, rfl, ot_38, bt_38⟩
          have Dt_38_t_10 := Lib.hid (apart_call ot_38 Ot_10.out)
          have Dt_38_t_18 := Lib.hid (apart_call ot_38 Ot_18.out)
          have Ot_38 := Lib.hid (own_lower ot_38 HBwt_21.out.size)
          clear ot_38
          have HBwt_38 := Lib.hid (Below.step HBwt_21.out bt_38)
          replace Ot_10 := Lib.hid (own_below Ot_10.out bt_38)
          replace Ot_18 := Lib.hid (own_below Ot_18.out bt_38)
          clear bt_38
          replace H := bind_hid H
          obtain ⟨t_39, qt_39, H⟩ := H
          go_wp2_with fail
          go_at_call 31
          refine (Go.Proofs.Ytaknldlglfnbfaa.GlEqStringS.C (t_18) (t_38) At_18 ct_18 At_38 ct_38 _  (Lib.hid (own_cells Ot_18.out)) (Lib.hid (own_max Ot_18.out)) (Lib.hid (own_cells Ot_38.out)) (Lib.hid (own_max Ot_38.out)) qt_39).mono ?_
          rintro e_t_39 wt_39 ⟨rfl, bt_39⟩
          have HBwt_39 := Lib.hid (Below.step HBwt_38.out bt_39)
          replace Ot_10 := Lib.hid (own_below Ot_10.out bt_39)
          replace Ot_18 := Lib.hid (own_below Ot_18.out bt_39)
          replace Ot_38 := Lib.hid (own_below Ot_38.out bt_39)
          clear bt_39
          cases t_39 with
          | false =>
            replace H := let_hid H
            obtain ⟨t_40, ht_40, H⟩ := H
            obtain rfl : t_40 = true := ht_40.symm
            replace H := ite_t H
            obtain rfl := ret_hid H
            go_wp2_with fail
            go_ret
            exact ⟨rfl, HBwt_39.out⟩
          | true =>
            replace H := let_hid H
            obtain ⟨t_40, ht_40, H⟩ := H
            obtain rfl : t_40 = false := ht_40.symm
            replace H := ite_f H
            obtain rfl := ret_hid H
            go_wp2_with fail
            go_ret
            exact ⟨rfl, HBwt_39.out⟩
        | true =>
          replace H := let_hid H
          obtain ⟨t_33, ht_33, H⟩ := H
          obtain rfl : t_33 = true := ht_33.symm
          replace H := app_hid H
          replace H := ite_t H
          obtain rfl := ret_hid H
          go_wp2_with fail
          go_ret
          exact ⟨rfl, HBwt_21.out⟩
      | true =>
        cases t_11b with
        | false =>
          replace H := let_hid H
          obtain ⟨t_33, ht_33, H⟩ := H
          obtain rfl : t_33 = true := ht_33.symm
          replace H := app_hid H
          replace H := ite_t H
          obtain rfl := ret_hid H
          go_wp2_with fail
          go_ret
          exact ⟨rfl, HBwt_21.out⟩
        | true =>
          replace H := let_hid H
          obtain ⟨t_33, ht_33, H⟩ := H
          obtain rfl : t_33 = false := ht_33.symm
          replace H := app_hid H
          replace H := ite_f H
          replace H := bind_hid H
          obtain ⟨t_38, qt_38, H⟩ := H
          go_wp2_with fail
          go_at_call 39
          refine (Go.Proofs.Ytaknldlglfnbfaa.GlToStringS.C (aSheet) A0 c0 _  (Lib.hid (Cells.below M0.out HBwt_21.out)) N0 qt_38).mono ?_
          rintro e_t_38 wt_38 ⟨At_38, ct_38, rfl, ot_38, bt_38⟩
          have Dt_38_t_10 := Lib.hid (apart_call ot_38 Ot_10.out)
          have Dt_38_t_18 := Lib.hid (apart_call ot_38 Ot_18.out)
          have Ot_38 := Lib.hid (own_lower ot_38 HBwt_21.out.size)
          clear ot_38
          have HBwt_38 := Lib.hid (Below.step HBwt_21.out bt_38)
          replace Ot_10 := Lib.hid (own_below Ot_10.out bt_38)
          replace Ot_18 := Lib.hid (own_below Ot_18.out bt_38)
          clear bt_38
          replace H := bind_hid H
          obtain ⟨t_39, qt_39, H⟩ := H
          go_wp2_with fail
          go_at_call 31
          refine (Go.Proofs.Ytaknldlglfnbfaa.GlEqStringS.C (t_18) (t_38) At_18 ct_18 At_38 ct_38 _  (Lib.hid (own_cells Ot_18.out)) (Lib.hid (own_max Ot_18.out)) (Lib.hid (own_cells Ot_38.out)) (Lib.hid (own_max Ot_38.out)) qt_39).mono ?_
          rintro e_t_39 wt_39 ⟨rfl, bt_39⟩
          have HBwt_39 := Lib.hid (Below.step HBwt_38.out bt_39)
          replace Ot_10 := Lib.hid (own_below Ot_10.out bt_39)
          replace Ot_18 := Lib.hid (own_below Ot_18.out bt_39)
          replace Ot_38 := Lib.hid (own_below Ot_38.out bt_39)
          clear bt_39
          cases t_39 with
          | false =>
            replace H := let_hid H
            obtain ⟨t_40, ht_40, H⟩ := H
            obtain rfl : t_40 = true := ht_40.symm
            replace H := ite_t H
            obtain rfl := ret_hid H
            go_wp2_with fail
            go_ret
            exact ⟨rfl, HBwt_39.out⟩
          | true =>
            replace H := let_hid H
            obtain ⟨t_40, ht_40, H⟩ := H
            obtain rfl : t_40 = false := ht_40.symm
            replace H := ite_f H
            obtain rfl := ret_hid H
            go_wp2_with fail
            go_ret
            exact ⟨rfl, HBwt_39.out⟩
    | true =>
      replace H := ite_t H
      replace H := app_hid H
      replace H := ite_t H
      obtain rfl := ret_hid H
      go_wp2_with fail
      go_ret
      exact ⟨rfl, HBwt_21.out⟩
  | true =>
    replace H := ite_t H
    obtain rfl := ret_hid H
    go_wp2_with fail
    go_ret
    exact ⟨rfl, HBwt_4.out⟩
end Go.Proofs.Ytaknldlglfnbfaa.GlFnExactPointsOn
