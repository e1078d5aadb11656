/- loop.example/g01062/laws.FnExactValueOf as a plain function, and the contract of the program's: where the plain one has an answer, the program has it. Conditions: slices read as lists. -/
import Derived.Test.YtdgbigkcophjoaaChecked
import Derived.Test.YtdgbigkcophjoaaGoM
import Derived.Test.YtdgbigkcophjoaaGoRStamp
import Derived.Test.YtdgbigkcophjoaaHelpInt
import Derived.Test.YtdgbigkcophjoaaGlSzStampS
import Derived.Test.YtdgbigkcophjoaaGlToStampS
import Derived.Test.YtdgbigkcophjoaaGlToIntS
import Derived.Test.YtdgbigkcophjoaaGsValueOf
import Derived.Test.YtdgbigkcophjoaaGiValueOf
import Derived.Test.YtdgbigkcophjoaaGlEqStampS
import Derived.Test.YtdgbigkcophjoaaGlEqIntS
import Derived.WalkKit
import Derived.WalkSpells
import Derived.WalkLawsBesides
import Derived.BigQuiet
import Derived.OwnWalk
import Derived.Deep.LoopGhost
import Derived.Deep.QuietTactic
import Derived.IntWalk
import Derived.Lib.QuietBelow
namespace Go.Proofs.Ytdgbigkcophjoaa.GlFnExactValueOf
set_option linter.unusedVariables false
set_option linter.unusedSimpArgs false
open Go.RowKit
open Go.Proofs.Ytdgbigkcophjoaa.Rowed Go.Proofs.Ytdgbigkcophjoaa.Turn Go.Proofs.Ytdgbigkcophjoaa.Aid Go.Proofs.Ytdgbigkcophjoaa.GoP Go.Proofs.Ytdgbigkcophjoaa.GoM

def P (aList : (List Go.Proofs.Ytdgbigkcophjoaa.PlainStamp.St)) (aFranking : (List Int)) : Option (Bool) :=
  letK (decide (1048576 < (aFranking.length : Int))) fun (t_3 : Bool) =>
  iteK t_3
  (some true)
  (Option.bind (Go.Proofs.Ytdgbigkcophjoaa.GlSzStampS.P aList 1048576) fun (t_8 : Int) =>
  letK (decide (t_8 < 0)) fun (t_11 : Bool) =>
  iteK t_11
  (some true)
  (Option.bind (Go.Proofs.Ytdgbigkcophjoaa.GlToStampS.P aList) fun (t_14 : (List Go.Proofs.Ytdgbigkcophjoaa.PlainStamp.St)) =>
  Option.bind (Go.Proofs.Ytdgbigkcophjoaa.GlToIntS.P aFranking) fun (t_16 : (List Int)) =>
  bind2 (Go.Proofs.Ytdgbigkcophjoaa.GsValueOf.P t_14 t_16) fun (t_17a : Int) (t_17b : Bool) =>
  Option.bind (Go.Proofs.Ytdgbigkcophjoaa.GlToStampS.P aList) fun (t_24 : (List Go.Proofs.Ytdgbigkcophjoaa.PlainStamp.St)) =>
  Option.bind (Go.Proofs.Ytdgbigkcophjoaa.GlToIntS.P aFranking) fun (t_27 : (List Int)) =>
  bind2 (Go.Proofs.Ytdgbigkcophjoaa.GiValueOf.P t_24 t_27) fun (t_31a : Int) (t_31b : Bool) =>
  letK (t_31a != t_17a) fun (t_39 : Bool) =>
  joinK (fun (t_44 : Bool) =>
  iteK t_44
  (some false)
  (Option.bind (Go.Proofs.Ytdgbigkcophjoaa.GlToStampS.P aList) fun (t_48 : (List Go.Proofs.Ytdgbigkcophjoaa.PlainStamp.St)) =>
  Option.bind (Go.Proofs.Ytdgbigkcophjoaa.GlEqStampS.P t_24 t_48) fun (t_49 : Bool) =>
  letK (!t_49) fun (t_50 : Bool) =>
  iteK t_50
  (some false)
  (Option.bind (Go.Proofs.Ytdgbigkcophjoaa.GlToIntS.P aFranking) fun (t_54 : (List Int)) =>
  Option.bind (Go.Proofs.Ytdgbigkcophjoaa.GlEqIntS.P t_27 t_54) fun (t_55 : Bool) =>
  letK (!t_55) fun (t_56 : Bool) =>
  iteK t_56
  (some false)
  (some true)))) fun jt_44 => iteK t_39 (appK jt_44 true) (letK (!(t_31b == t_17b)) fun (t_43 : Bool) =>
  appK jt_44 t_43)))

set_option maxRecDepth 100000 in
set_option maxHeartbeats 2000000 in
theorem C (aList : (List Go.Proofs.Ytdgbigkcophjoaa.PlainStamp.St)) (aFranking : (List Int)) (A0 : Option Addr) (c0 : Nat) (A1 : Option Addr) (c1 : Nat)  (w : World) (M0 : Hid (Cells w 4 A0 aList.length (Go.Proofs.Ytdgbigkcophjoaa.PlainStamp.flat aList))) (N0 : Hid (aList.length ≤ 9223372036854775807)) (M1 : Hid (Cells w 1 A1 aFranking.length (Go.Proofs.Ytdgbigkcophjoaa.HelpInt.iv aFranking))) (N1 : Hid (aFranking.length ≤ 9223372036854775807))  {r : Bool} (H : Hid (P aList aFranking = some r)) :
    Calls Try.prog 5 #[.slice A0 aList.length c0, .slice A1 aFranking.length c1] w (Gives (.bool r) w) := by
  have HB := Lib.hid (Below.refl w.heap.size w)
  unfold P at H
  have N0o := N0.out
  have N1o := N1.out
  go_enter Try.func5, Try.ntmps5
  replace H := let_hid H
  obtain ⟨t_3, ht_3, H⟩ := H
  cases t_3 with
  | false =>
    have nht_3 : ¬ (1048576 < aFranking.length) := by have := of_decide_eq_false ht_3; omega
    replace H := ite_f H
    replace H := bind_hid H
    obtain ⟨t_8, qt_8, H⟩ := H
    go_wp2_with fail
    go_at_call 16
    refine (Go.Proofs.Ytdgbigkcophjoaa.GlSzStampS.C (aList) (1048576) A0 c0 _   (Lib.hid (Cells.below M0.out HB.out)) N0 qt_8).mono ?_
    rintro e_t_8 wt_8 ⟨rfl, bt_8⟩
    have HBwt_8 := Lib.hid (Below.step HB.out bt_8)
    clear bt_8
    replace H := let_hid H
    obtain ⟨t_11, ht_11, H⟩ := H
    cases t_11 with
    | false =>
      replace H := ite_f H
      replace H := bind_hid H
      obtain ⟨t_14, qt_14, H⟩ := H
      go_wp2_with fail
      go_at_call 18
      refine (Go.Proofs.Ytdgbigkcophjoaa.GlToStampS.C (aList) A0 c0 _   (Lib.hid (Cells.below M0.out HBwt_8.out)) N0 qt_14).mono ?_
      rintro e_t_14 wt_14 ⟨At_14, ct_14, rfl, ot_14, bt_14⟩
      have Ot_14 := Lib.hid (own_lower ot_14 HBwt_8.out.size)
      clear ot_14
      have HBwt_14 := Lib.hid (Below.step HBwt_8.out bt_14)
      clear bt_14
      replace H := bind_hid H
      obtain ⟨t_16, qt_16, H⟩ := H
      go_wp2_with fail
      go_at_call 28
      refine (Go.Proofs.Ytdgbigkcophjoaa.GlToIntS.C (aFranking) A1 c1 _   (Lib.hid (Cells.below M1.out HBwt_14.out)) N1 qt_16).mono ?_
      rintro e_t_16 wt_16 ⟨At_16, ct_16, rfl, ot_16, bt_16⟩
      have Dt_16_t_14 := Lib.hid (apart_call ot_16 Ot_14.out)
      have Ot_16 := Lib.hid (own_lower ot_16 HBwt_14.out.size)
      clear ot_16
      have HBwt_16 := Lib.hid (Below.step HBwt_14.out bt_16)
      replace Ot_14 := Lib.hid (own_below Ot_14.out bt_16)
      clear bt_16
      replace H := bind2_hid H
      obtain ⟨t_17a, t_17b, qt_17, H⟩ := H
      go_wp2_with fail
      go_at_call 27
      refine (Go.Proofs.Ytdgbigkcophjoaa.GsValueOf.C (t_14) (t_16) At_14 ct_14 At_16 ct_16 _   (Lib.hid (own_cells Ot_14.out)) (Lib.hid (own_max Ot_14.out)) (Lib.hid (own_cells Ot_16.out)) (Lib.hid (own_max Ot_16.out)) qt_17).mono ?_
      rintro e_t_17 wt_17 ⟨rfl, bt_17⟩
      have HBwt_17 := Lib.hid (Below.step HBwt_16.out bt_17)
      replace Ot_14 := Lib.hid (own_below Ot_14.out bt_17)
      replace Ot_16 := Lib.hid (own_below Ot_16.out bt_17)
      clear bt_17
      replace H := bind_hid H
      obtain ⟨t_24, qt_24, H⟩ := H
      go_wp2_with fail
      go_at_call 18
      refine (Go.Proofs.Ytdgbigkcophjoaa.GlToStampS.C (aList) A0 c0 _   (Lib.hid (Cells.below M0.out HBwt_17.out)) N0 qt_24).mono ?_
      rintro e_t_24 wt_24 ⟨At_24, ct_24, rfl, ot_24, bt_24⟩
      have Dt_24_t_14 := Lib.hid (apart_call ot_24 Ot_14.out)
      have Dt_24_t_16 := Lib.hid (apart_call ot_24 Ot_16.out)
      have Ot_24 := Lib.hid (own_lower ot_24 HBwt_17.out.size)
      clear ot_24
      have HBwt_24 := Lib.hid (Below.step HBwt_17.out bt_24)
      replace Ot_14 := Lib.hid (own_below Ot_14.out bt_24)
      replace Ot_16 := Lib.hid (own_below Ot_16.out bt_24)
      clear bt_24
      replace H := bind_hid H
      obtain ⟨t_27, qt_27, H⟩ := H
      go_wp2_with fail
      go_at_call 28
      refine (Go.Proofs.Ytdgbigkcophjoaa.GlToIntS.C (aFranking) A1 c1 _   (Lib.hid (Cells.below M1.out HBwt_24.out)) N1 qt_27).mono ?_
      rintro e_t_27 wt_27 ⟨At_27, ct_27, rfl, ot_27, bt_27⟩
      have Dt_27_t_14 := Lib.hid (apart_call ot_27 Ot_14.out)
      have Dt_27_t_16 := Lib.hid (apart_call ot_27 Ot_16.out)
      have Dt_27_t_24 := Lib.hid (apart_call ot_27 Ot_24.out)
      have Ot_27 := Lib.hid (own_lower ot_27 HBwt_24.out.size)
      clear ot_27
      have HBwt_27 := Lib.hid (Below.step HBwt_24.out bt_27)
      replace Ot_14 := Lib.hid (own_below Ot_14.out bt_27)
      replace Ot_16 := Lib.hid (own_below Ot_16.out bt_27)
      replace Ot_24 := Lib.hid (own_below Ot_24.out bt_27)
      clear bt_27
      replace H := bind2_hid H
      obtain ⟨t_31a, t_31b, qt_31, H⟩ := H
      go_wp2_with fail
      go_at_call 29
      refine (Go.Proofs.Ytdgbigkcophjoaa.GiValueOf.C (t_24) (t_27) At_24 ct_24 At_27 ct_27 _   (Lib.hid (own_cells Ot_24.out)) (Lib.hid (own_max Ot_24.out)) (Lib.hid (own_cells Ot_27.out)) (Lib.hid (own_max Ot_27.out)) qt_31).mono ?_
      rintro e_t_31 wt_31 ⟨rfl, bt_31⟩
      have HBwt_31 := Lib.hid (Below.step HBwt_27.out bt_31)
      replace Ot_14 := Lib.hid (own_below Ot_14.out bt_31)
      replace Ot_16 := Lib.hid (own_below Ot_16.out bt_31)
      replace Ot_24 := Lib.hid (own_below Ot_24.out bt_31)
      replace Ot_27 := Lib.hid (own_below Ot_27.out bt_31)
      clear bt_31
      replace H := let_hid H
      obtain ⟨t_39, ht_39, H⟩ := H
      replace H := join_hid H
      cases t_39 with
      | false =>
        replace H := ite_f H
        replace H := let_hid H
        obtain ⟨t_43, ht_43, H⟩ := H
        replace H := app_hid H
        cases t_43 with
        | false =>
          replace H := ite_f H
          replace H := bind_hid H
          obtain ⟨t_48, qt_48, H⟩ := H
          go_wp2_with fail
          go_at_call 18
          refine (Go.Proofs.Ytdgbigkcophjoaa.GlToStampS.C (aList) A0 c0 _   (Lib.hid (Cells.below M0.out HBwt_31.out)) N0 qt_48).mono ?_
          rintro e_t_48 wt_48 ⟨At_48, ct_48, rfl, ot_48, bt_48⟩
          have Dt_48_t_14 := Lib.hid (apart_call ot_48 Ot_14.out)
          have Dt_48_t_16 := Lib.hid (apart_call ot_48 Ot_16.out)
          have Dt_48_t_24 := Lib.hid (apart_call ot_48 Ot_24.out)
          have Dt_48_t_27 := Lib.hid (apart_call ot_48 Ot_27.out)
          have Ot_48 := Lib.hid (own_lower ot_48 HBwt_31.out.size)
          clear ot_48
          have HBwt_48 := Lib.hid (Below.step HBwt_31.out bt_48)
          replace Ot_14 := Lib.hid (own_below Ot_14.out bt_48)
          replace Ot_16 := Lib.hid (own_below Ot_16.out bt_48)
          replace Ot_24 := Lib.hid (own_below Ot_24.out bt_48)
          replace Ot_27 := Lib.hid (own_below Ot_27.out bt_48)
          clear bt_48
          replace H := bind_hid H
          obtain ⟨t_49, qt_49, H⟩ := H
          go_wp2_with fail
          go_at_call 20
          refine (Go.Proofs.Ytdgbigkcophjoaa.GlEqStampS.C (t_24) (t_48) At_24 ct_24 At_48 ct_48 _   (Lib.hid (own_cells Ot_24.out)) (Lib.hid (own_max Ot_24.out)) (Lib.hid (own_cells Ot_48.out)) (Lib.hid (own_max Ot_48.out)) qt_49).mono ?_
          rintro e_t_49 wt_49 ⟨rfl, bt_49⟩
          have HBwt_49 := Lib.hid (Below.step HBwt_48.out bt_49)
          replace Ot_14 := Lib.hid (own_below Ot_14.out bt_49)
          replace Ot_16 := Lib.hid (own_below Ot_16.out bt_49)
          replace Ot_24 := Lib.hid (own_below Ot_24.out bt_49)
          replace Ot_27 := Lib.hid (own_below Ot_27.out bt_49)
          replace Ot_48 := Lib.hid (own_below Ot_48.out bt_49)
          clear bt_49
          cases t_49 with
          | false =>
            replace H := let_hid H
            obtain ⟨t_50, ht_50, H⟩ := H
            obtain rfl : t_50 = true := ht_50.symm
            replace H := ite_t H
            obtain rfl := ret_hid H
            go_wp2_with fail
            go_ret
            exact ⟨rfl, HBwt_49.out⟩
          | true =>
            replace H := let_hid H
            obtain ⟨t_50, ht_50, H⟩ := H
            obtain rfl : t_50 = false := ht_50.symm
            replace H := ite_f H
            replace H := bind_hid H
            obtain ⟨t_54, qt_54, H⟩ := H
            go_wp2_with fail
            go_at_call 28
            refine (Go.Proofs.Ytdgbigkcophjoaa.GlToIntS.C (aFranking) A1 c1 _   (Lib.hid (Cells.below M1.out HBwt_49.out)) N1 qt_54).mono ?_
            rintro e_t_54 wt_54 ⟨At_54, ct_54, rfl, ot_54, bt_54⟩
            have Dt_54_t_14 := Lib.hid (apart_call ot_54 Ot_14.out)
            have Dt_54_t_16 := Lib.hid (apart_call ot_54 Ot_16.out)
            have Dt_54_t_24 := Lib.hid (apart_call ot_54 Ot_24.out)
            have Dt_54_t_27 := Lib.hid (apart_call ot_54 Ot_27.out)
            have Dt_54_t_48 := Lib.hid (apart_call ot_54 Ot_48.out)
            have Ot_54 := Lib.hid (own_lower ot_54 HBwt_49.out.size)
            clear ot_54
            have HBwt_54 := Lib.hid (Below.step HBwt_49.out bt_54)
            replace Ot_14 := Lib.hid (own_below Ot_14.out bt_54)
            replace Ot_16 := Lib.hid (own_below Ot_16.out bt_54)
            replace Ot_24 := Lib.hid (own_below Ot_24.out bt_54)
            replace Ot_27 := Lib.hid (own_below Ot_27.out bt_54)
            replace Ot_48 := Lib.hid (own_below Ot_48.out bt_54)
            clear bt_54
            replace H := bind_hid H
            obtain ⟨t_55, qt_55, H⟩ := H
            go_wp2_with fail
            go_at_call 23
            refine (Go.Proofs.Ytdgbigkcophjoaa.GlEqIntS.C (t_27) (t_54) At_27 ct_27 At_54 ct_54 _   (Lib.hid (own_cells Ot_27.out)) (Lib.hid (own_max Ot_27.out)) (Lib.hid (own_cells Ot_54.out)) (Lib.hid (own_max Ot_54.out)) qt_55).mono ?_
            rintro e_t_55 wt_55 ⟨rfl, bt_55⟩
            have HBwt_55 := Lib.hid (Below.step HBwt_54.out bt_55)
            replace Ot_14 := Lib.hid (own_below Ot_14.out bt_55)
            replace Ot_16 := Lib.hid (own_below Ot_16.out bt_55)
            replace Ot_24 := Lib.hid (own_below Ot_24.out bt_55)
            replace Ot_27 := Lib.hid (own_below Ot_27.out bt_55)
            replace Ot_48 := Lib.hid (own_below Ot_48.out bt_55)
            replace Ot_54 := Lib.hid (own_below Ot_54.out bt_55)
            clear bt_55
            cases t_55 with
            | false =>
              replace H := let_hid H
              obtain ⟨t_56, ht_56, H⟩ := H
              obtain rfl : t_56 = true := ht_56.symm
              replace H := ite_t H
              obtain rfl := ret_hid H
              go_wp2_with fail
              go_ret
              exact ⟨rfl, HBwt_55.out⟩
            | true =>
              replace H := let_hid H
              obtain ⟨t_56, ht_56, H⟩ := H
              obtain rfl : t_56 = false := ht_56.symm
              replace H := ite_f H
              obtain rfl := ret_hid H
              go_wp2_with fail
              go_ret
              exact ⟨rfl, HBwt_55.out⟩
        | true =>
          replace H := ite_t H
          obtain rfl := ret_hid H
          go_wp2_with fail
          go_ret
          exact ⟨rfl, HBwt_31.out⟩
      | true =>
        replace H := ite_t H
        replace H := app_hid H
        replace H := ite_t H
        obtain rfl := ret_hid H
        go_wp2_with fail
        go_ret
        exact ⟨rfl, HBwt_31.out⟩
    | true =>
      replace H := ite_t H
      obtain rfl := ret_hid H
      go_wp2_with fail
      go_ret
      exact ⟨rfl, HBwt_8.out⟩
  | true =>
    have nht_3 : 1048576 < aFranking.length := by have := of_decide_eq_true ht_3; omega
    replace H := ite_t H
    obtain rfl := ret_hid H
    go_wp2_with fail
    go_ret
    exact ⟨rfl, HB.out⟩
end Go.Proofs.Ytdgbigkcophjoaa.GlFnExactValueOf
