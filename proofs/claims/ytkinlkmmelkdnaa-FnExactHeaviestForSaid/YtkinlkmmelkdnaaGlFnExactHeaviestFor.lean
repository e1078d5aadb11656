/- loop.example/g01062/laws.FnExactHeaviestFor as a plain function, and the contract of the program's: where the plain one has an answer, the program has it. Conditions: slices read as lists. -/
import Derived.Test.YtkinlkmmelkdnaaChecked
import Derived.Test.YtkinlkmmelkdnaaGoM
import Derived.Test.YtkinlkmmelkdnaaGoRRate
import Derived.Test.YtkinlkmmelkdnaaGlSzRateS
import Derived.Test.YtkinlkmmelkdnaaGlToRateS
import Derived.Test.YtkinlkmmelkdnaaGsHeaviestFor
import Derived.Test.YtkinlkmmelkdnaaGiHeaviestFor
import Derived.Test.YtkinlkmmelkdnaaGlEqRateS
import Derived.WalkKit
import Derived.WalkSpells
import Derived.WalkLawsBesides
import Derived.BigQuiet
import Derived.OwnWalk
import Derived.Deep.LoopGhost
import Derived.Deep.QuietTactic
import Derived.IntWalk
import Derived.Lib.QuietBelow
namespace Go.Proofs.Ytkinlkmmelkdnaa.GlFnExactHeaviestFor
set_option linter.unusedVariables false
set_option linter.unusedSimpArgs false
open Go.RowKit
open Go.Proofs.Ytkinlkmmelkdnaa.Rowed Go.Proofs.Ytkinlkmmelkdnaa.Turn Go.Proofs.Ytkinlkmmelkdnaa.Aid Go.Proofs.Ytkinlkmmelkdnaa.GoP Go.Proofs.Ytkinlkmmelkdnaa.GoM

def P (fuel : Nat) (aList : (List Go.Proofs.Ytkinlkmmelkdnaa.PRate.Rate)) (aDay : Int) (aZone : Int) (aCents : Int) : Option (Bool) :=
  Option.bind (Go.Proofs.Ytkinlkmmelkdnaa.GlSzRateS.P aList 1048576) fun (t_4 : Int) =>
  letK (decide (t_4 < 0)) fun (t_7 : Bool) =>
  iteK t_7
  (some true)
  (Option.bind (Go.Proofs.Ytkinlkmmelkdnaa.GlToRateS.P aList) fun (t_10 : (List Go.Proofs.Ytkinlkmmelkdnaa.PRate.Rate)) =>
  bind2 (Go.Proofs.Ytkinlkmmelkdnaa.GsHeaviestFor.P fuel t_10 aDay aZone aCents) fun (t_14a : Int) (t_14b : Bool) =>
  Option.bind (Go.Proofs.Ytkinlkmmelkdnaa.GlToRateS.P aList) fun (t_21 : (List Go.Proofs.Ytkinlkmmelkdnaa.PRate.Rate)) =>
  bind2 (Go.Proofs.Ytkinlkmmelkdnaa.GiHeaviestFor.P t_21 aDay aZone aCents) fun (t_27a : Int) (t_27b : Bool) =>
  letK (t_27a != t_14a) fun (t_35 : Bool) =>
  joinK (fun (t_40 : Bool) =>
  iteK t_40
  (some false)
  (Option.bind (Go.Proofs.Ytkinlkmmelkdnaa.GlToRateS.P aList) fun (t_44 : (List Go.Proofs.Ytkinlkmmelkdnaa.PRate.Rate)) =>
  Option.bind (Go.Proofs.Ytkinlkmmelkdnaa.GlEqRateS.P t_21 t_44) fun (t_45 : Bool) =>
  letK (!t_45) fun (t_46 : Bool) =>
  iteK t_46
  (some false)
  (some true))) fun jt_40 => iteK t_35 (appK jt_40 true) (letK (!(t_27b == t_14b)) fun (t_39 : Bool) =>
  appK jt_40 t_39))

set_option maxRecDepth 100000 in
set_option maxHeartbeats 2000000 in
theorem C (fuel : Nat) (aList : (List Go.Proofs.Ytkinlkmmelkdnaa.PRate.Rate)) (aDay : Int) (aZone : Int) (aCents : Int) (A0 : Option Addr) (c0 : Nat)  (w : World) (M0 : Hid (Cells w 5 A0 aList.length (Go.Proofs.Ytkinlkmmelkdnaa.PRate.flat aList))) (N0 : Hid (aList.length ≤ 9223372036854775807))  {r : Bool} (H : Hid (P fuel aList aDay aZone aCents = some r)) :
    Calls Try.prog 8 #[.slice A0 aList.length c0, .int .i64 aDay, .int .i64 aZone, .int .i64 aCents] w (Gives (.bool r) w) := by
  have HB := Lib.hid (Below.refl w.heap.size w)
  unfold P at H
  have N0o := N0.out
  go_enter Try.func8, Try.ntmps8
  replace H := bind_hid H
  obtain ⟨t_4, qt_4, H⟩ := H
  go_wp2_with fail
  go_at_call 17
  refine (Go.Proofs.Ytkinlkmmelkdnaa.GlSzRateS.C (aList) (1048576) A0 c0 _   (Lib.hid (Cells.below M0.out HB.out)) N0 qt_4).mono ?_
  rintro e_t_4 wt_4 ⟨rfl, bt_4⟩
  have HBwt_4 := Lib.hid (Below.step HB.out bt_4)
  clear bt_4
  replace H := let_hid H
  obtain ⟨t_7, ht_7, H⟩ := H
  cases t_7 with
  | false =>
    replace H := ite_f H
    replace H := bind_hid H
    obtain ⟨t_10, qt_10, H⟩ := H
    go_wp2_with fail
    go_at_call 19
    refine (Go.Proofs.Ytkinlkmmelkdnaa.GlToRateS.C (aList) A0 c0 _   (Lib.hid (Cells.below M0.out HBwt_4.out)) N0 qt_10).mono ?_
    rintro e_t_10 wt_10 ⟨At_10, ct_10, rfl, ot_10, bt_10⟩
    have Ot_10 := Lib.hid (own_lower ot_10 HBwt_4.out.size)
    clear ot_10
    have HBwt_10 := Lib.hid (Below.step HBwt_4.out bt_10)
    clear bt_10
    replace H := bind2_hid H
    obtain ⟨t_14a, t_14b, qt_14, H⟩ := H
    go_wp2_with fail
    go_at_call 32
    refine (Go.Proofs.Ytkinlkmmelkdnaa.GsHeaviestFor.C fuel (t_10) (aDay) (aZone) (aCents) At_10 ct_10 _   (Lib.hid (own_cells Ot_10.out)) (Lib.hid (own_max Ot_10.out)) qt_14).mono ?_
    rintro e_t_14 wt_14 ⟨rfl, bt_14⟩
    have HBwt_14 := Lib.hid (Below.step HBwt_10.out bt_14)
    replace Ot_10 := Lib.hid (own_below Ot_10.out bt_14)
    clear bt_14
    replace H := bind_hid H
    obtain ⟨t_21, qt_21, H⟩ := H
    go_wp2_with fail
    go_at_call 19
    refine (Go.Proofs.Ytkinlkmmelkdnaa.GlToRateS.C (aList) A0 c0 _   (Lib.hid (Cells.below M0.out HBwt_14.out)) N0 qt_21).mono ?_
    rintro e_t_21 wt_21 ⟨At_21, ct_21, rfl, ot_21, bt_21⟩
    have Dt_21_t_10 := Lib.hid (apart_call ot_21 Ot_10.out)
    have Ot_21 := Lib.hid (own_lower ot_21 HBwt_14.out.size)
    clear ot_21
    have HBwt_21 := Lib.hid (Below.step HBwt_14.out bt_21)
    replace Ot_10 := Lib.hid (own_below Ot_10.out bt_21)
    clear bt_21
    replace H := bind2_hid H
    obtain ⟨t_27a, t_27b, qt_27, H⟩ := H
    go_wp2_with fail
    go_at_call 33
    refine (Go.Proofs.Ytkinlkmmelkdnaa.GiHeaviestFor.C (t_21) (aDay) (aZone) (aCents) At_21 ct_21 _   (Lib.hid (own_cells Ot_21.out)) (Lib.hid (own_max Ot_21.out)) qt_27).mono ?_
    rintro e_t_27 wt_27 ⟨rfl, bt_27⟩
    have HBwt_27 := Lib.hid (Below.step HBwt_21.out bt_27)
    replace Ot_10 := Lib.hid (own_below Ot_10.out bt_27)
    replace Ot_21 := Lib.hid (own_below Ot_21.out bt_27)
    clear bt_27
    replace H := let_hid H
    obtain ⟨t_35, ht_35, H⟩ := H
    replace H := join_hid H
    cases t_35 with
    | false =>
      replace H := ite_f H
      replace H := let_hid H
      obtain ⟨t_39, ht_39, H⟩ := H
      replace H := app_hid H
      cases t_39 with
      | false =>
        replace H := ite_f H
        replace H := bind_hid H
        obtain ⟨t_44, qt_44, H⟩ := H
        go_wp2_with fail
        go_at_call 19
        refine (Go.Proofs.Ytkinlkmmelkdnaa.GlToRateS.C (aList) A0 c0 _   (Lib.hid (Cells.below M0.out HBwt_27.out)) N0 qt_44).mono ?_
        rintro e_t_44 wt_44 ⟨At_44, ct_44, rfl, ot_44, bt_44⟩
        have Dt_44_t_10 := Lib.hid (apart_call ot_44 Ot_10.out)
        have Dt_44_t_21 := Lib.hid (apart_call ot_44 Ot_21.out)
        have Ot_44 := Lib.hid (own_lower ot_44 HBwt_27.out.size)
        clear ot_44
        have HBwt_44 := Lib.hid (Below.step HBwt_27.out bt_44)
        replace Ot_10 := Lib.hid (own_below Ot_10.out bt_44)
        replace Ot_21 := Lib.hid (own_below Ot_21.out bt_44)
        clear bt_44
        replace H := bind_hid H
        obtain ⟨t_45, qt_45, H⟩ := H
        go_wp2_with fail
        go_at_call 21
        refine (Go.Proofs.Ytkinlkmmelkdnaa.GlEqRateS.C (t_21) (t_44) At_21 ct_21 At_44 ct_44 _   (Lib.hid (own_cells Ot_21.out)) (Lib.hid (own_max Ot_21.out)) (Lib.hid (own_cells Ot_44.out)) (Lib.hid (own_max Ot_44.out)) qt_45).mono ?_
        rintro e_t_45 wt_45 ⟨rfl, bt_45⟩
        have HBwt_45 := Lib.hid (Below.step HBwt_44.out bt_45)
        replace Ot_10 := Lib.hid (own_below Ot_10.out bt_45)
        replace Ot_21 := Lib.hid (own_below Ot_21.out bt_45)
        replace Ot_44 := Lib.hid (own_below Ot_44.out bt_45)
        clear bt_45
        cases t_45 with
        | false =>
          replace H := let_hid H
          obtain ⟨t_46, ht_46, H⟩ := H
          obtain rfl : t_46 = true := ht_46.symm
          replace H := ite_t H
          obtain rfl := ret_hid H
          go_wp2_with fail
          go_ret
          exact ⟨rfl, HBwt_45.out⟩
        | true =>
          replace H := let_hid H
          obtain ⟨t_46, ht_46, H⟩ := H
          obtain rfl : t_46 = false := ht_46.symm
          replace H := ite_f H
          obtain rfl := ret_hid H
          go_wp2_with fail
          go_ret
          exact ⟨rfl, HBwt_45.out⟩
      | true =>
        replace H := ite_t H
        obtain rfl := ret_hid H
        go_wp2_with fail
        go_ret
        exact ⟨rfl, HBwt_27.out⟩
    | true =>
      replace H := ite_t H
      replace H := app_hid H
      replace H := ite_t H
      obtain rfl := ret_hid H
      go_wp2_with fail
      go_ret
      exact ⟨rfl, HBwt_27.out⟩
  | true =>
    replace H := ite_t H
    obtain rfl := ret_hid H
    go_wp2_with fail
    go_ret
    exact ⟨rfl, HBwt_4.out⟩
end Go.Proofs.Ytkinlkmmelkdnaa.GlFnExactHeaviestFor
