/- loop.example/g01062/laws.FnExactNearestPaper as a plain function, and the contract of the program's: where the plain one has an answer, the program has it. Conditions: slices read as lists. -/
import Derived.Test.YtdgbigkcophjoaaChecked
import Derived.Test.YtdgbigkcophjoaaGoM
import Derived.Test.YtdgbigkcophjoaaGoRPaper
import Derived.Test.YtdgbigkcophjoaaGlSzPaperS
import Derived.Test.YtdgbigkcophjoaaGlToPaperS
import Derived.Test.YtdgbigkcophjoaaGsNearestPaper
import Derived.Test.YtdgbigkcophjoaaGiNearestPaper
import Derived.Test.YtdgbigkcophjoaaGlEqPaperS
import Derived.WalkKit
import Derived.WalkSpells
import Derived.WalkLawsBesides
import Derived.BigQuiet
import Derived.OwnWalk
import Derived.Deep.LoopGhost
import Derived.Deep.QuietTactic
import Derived.IntWalk
import Derived.Lib.QuietBelow
namespace Go.Proofs.Ytdgbigkcophjoaa.GlFnExactNearestPaper
set_option linter.unusedVariables false
set_option linter.unusedSimpArgs false
open Go.RowKit
open Go.Proofs.Ytdgbigkcophjoaa.Rowed Go.Proofs.Ytdgbigkcophjoaa.Turn Go.Proofs.Ytdgbigkcophjoaa.Aid Go.Proofs.Ytdgbigkcophjoaa.GoP Go.Proofs.Ytdgbigkcophjoaa.GoM

def P (aList : (List Go.Proofs.Ytdgbigkcophjoaa.PPaper.Paper)) (aThick : Int) : Option (Bool) :=
  Option.bind (Go.Proofs.Ytdgbigkcophjoaa.GlSzPaperS.P aList 1048576) fun (t_4 : Int) =>
  letK (decide (t_4 < 0)) fun (t_7 : Bool) =>
  iteK t_7
  (some true)
  (Option.bind (Go.Proofs.Ytdgbigkcophjoaa.GlToPaperS.P aList) fun (t_10 : (List Go.Proofs.Ytdgbigkcophjoaa.PPaper.Paper)) =>
  bind3 (Go.Proofs.Ytdgbigkcophjoaa.GsNearestPaper.P t_10 aThick) fun (t_12a : Int) (t_12b : Int) (t_12c : Bool) =>
  Option.bind (Go.Proofs.Ytdgbigkcophjoaa.GlToPaperS.P aList) fun (t_21 : (List Go.Proofs.Ytdgbigkcophjoaa.PPaper.Paper)) =>
  bind3 (Go.Proofs.Ytdgbigkcophjoaa.GiNearestPaper.P t_21 aThick) fun (t_25a : Int) (t_25b : Int) (t_25c : Bool) =>
  letK (t_25a != t_12a) fun (t_35 : Bool) =>
  joinK (fun (t_40 : Bool) =>
  joinK (fun (t_45 : Bool) =>
  iteK t_45
  (some false)
  (Option.bind (Go.Proofs.Ytdgbigkcophjoaa.GlToPaperS.P aList) fun (t_49 : (List Go.Proofs.Ytdgbigkcophjoaa.PPaper.Paper)) =>
  Option.bind (Go.Proofs.Ytdgbigkcophjoaa.GlEqPaperS.P t_21 t_49) fun (t_50 : Bool) =>
  letK (!t_50) fun (t_51 : Bool) =>
  iteK t_51
  (some false)
  (some true))) fun jt_45 => iteK t_40 (appK jt_45 true) (letK (!(t_25c == t_12c)) fun (t_44 : Bool) =>
  appK jt_45 t_44)) fun jt_40 => iteK t_35 (appK jt_40 true) (letK (t_25b != t_12b) fun (t_39 : Bool) =>
  appK jt_40 t_39))

set_option maxRecDepth 100000 in
set_option maxHeartbeats 2000000 in
theorem C (aList : (List Go.Proofs.Ytdgbigkcophjoaa.PPaper.Paper)) (aThick : Int) (A0 : Option Addr) (c0 : Nat)  (w : World) (M0 : Hid (Cells w 5 A0 aList.length (Go.Proofs.Ytdgbigkcophjoaa.PPaper.flat aList))) (N0 : Hid (aList.length ≤ 9223372036854775807))  {r : Bool} (H : Hid (P aList aThick = some r)) :
    Calls Try.prog 9 #[.slice A0 aList.length c0, .int .i64 aThick] w (Gives (.bool r) w) := by
  have HB := Lib.hid (Below.refl w.heap.size w)
  unfold P at H
  have N0o := N0.out
  go_enter Try.func9, Try.ntmps9
  replace H := bind_hid H
  obtain ⟨t_4, qt_4, H⟩ := H
  go_wp2_with fail
  go_at_call 34
  refine (Go.Proofs.Ytdgbigkcophjoaa.GlSzPaperS.C (aList) (1048576) A0 c0 _   (Lib.hid (Cells.below M0.out HB.out)) N0 qt_4).mono ?_
  rintro e_t_4 wt_4 ⟨rfl, bt_4⟩
  have HBwt_4 := Lib.hid (Below.step HB.out bt_4)
  clear bt_4
  replace H := let_hid H
  obtain ⟨t_7, ht_7, H⟩ := H
  cases t_7 with
  | false =>
    replace H := ite_f H
    replace H := bind_hid H
    obtain ⟨t_10, qt_10, H⟩ := H
    go_wp2_with fail
    go_at_call 36
    refine (Go.Proofs.Ytdgbigkcophjoaa.GlToPaperS.C (aList) A0 c0 _   (Lib.hid (Cells.below M0.out HBwt_4.out)) N0 qt_10).mono ?_
    rintro e_t_10 wt_10 ⟨At_10, ct_10, rfl, ot_10, bt_10⟩
    have Ot_10 := Lib.hid (own_lower ot_10 HBwt_4.out.size)
    clear ot_10
    have HBwt_10 := Lib.hid (Below.step HBwt_4.out bt_10)
    clear bt_10
    replace H := bind3_hid H
    obtain ⟨t_12a, t_12b, t_12c, qt_12, H⟩ := H
    go_wp2_with fail
    go_at_call 39
    refine (Go.Proofs.Ytdgbigkcophjoaa.GsNearestPaper.C (t_10) (aThick) At_10 ct_10 _   (Lib.hid (own_cells Ot_10.out)) (Lib.hid (own_max Ot_10.out)) qt_12).mono ?_
    rintro e_t_12 wt_12 ⟨rfl, bt_12⟩
    have HBwt_12 := Lib.hid (Below.step HBwt_10.out bt_12)
    replace Ot_10 := Lib.hid (own_below Ot_10.out bt_12)
    clear bt_12
    replace H := bind_hid H
    obtain ⟨t_21, qt_21, H⟩ := H
    go_wp2_with fail
    go_at_call 36
    refine (Go.Proofs.Ytdgbigkcophjoaa.GlToPaperS.C (aList) A0 c0 _   (Lib.hid (Cells.below M0.out HBwt_12.out)) N0 qt_21).mono ?_
    rintro e_t_21 wt_21 ⟨At_21, ct_21, rfl, ot_21, bt_21⟩
    have Dt_21_t_10 := Lib.hid (apart_call ot_21 Ot_10.out)
    have Ot_21 := Lib.hid (own_lower ot_21 HBwt_12.out.size)
    clear ot_21
    have HBwt_21 := Lib.hid (Below.step HBwt_12.out bt_21)
    replace Ot_10 := Lib.hid (own_below Ot_10.out bt_21)
    clear bt_21
    replace H := bind3_hid H
    obtain ⟨t_25a, t_25b, t_25c, qt_25, H⟩ := H
    go_wp2_with fail
    go_at_call 40
    refine (Go.Proofs.Ytdgbigkcophjoaa.GiNearestPaper.C (t_21) (aThick) At_21 ct_21 _   (Lib.hid (own_cells Ot_21.out)) (Lib.hid (own_max Ot_21.out)) qt_25).mono ?_
    rintro e_t_25 wt_25 ⟨rfl, bt_25⟩
    have HBwt_25 := Lib.hid (Below.step HBwt_21.out bt_25)
    replace Ot_10 := Lib.hid (own_below Ot_10.out bt_25)
    replace Ot_21 := Lib.hid (own_below Ot_21.out bt_25)
    clear bt_25
    replace H := let_hid H
    obtain ⟨t_35, ht_35, H⟩ := H
    replace H := join_hid H
    cases t_35 with
    | false =>
      replace H := ite_f H
      replace H := let_hid H
      obtain ⟨t_39, ht_39, H⟩ := H
      replace H := app_hid H
      replace H := join_hid H
      cases t_39 with
      | false =>
        replace H := ite_f H
        replace H := let_hid H
        obtain ⟨t_44, ht_44, H⟩ := H
        replace H := app_hid H
        cases t_44 with
        | false =>
          replace H := ite_f H
          replace H := bind_hid H
          obtain ⟨t_49, qt_49, H⟩ := H
          go_wp2_with fail
          go_at_call 36
          refine (Go.Proofs.Ytdgbigkcophjoaa.GlToPaperS.C (aList) A0 c0 _   (Lib.hid (Cells.below M0.out HBwt_25.out)) N0 qt_49).mono ?_
          rintro e_t_49 wt_49 ⟨At_49, ct_49, rfl, ot_49, bt_49⟩
          have Dt_49_t_10 := Lib.hid (apart_call ot_49 Ot_10.out)
          have Dt_49_t_21 := Lib.hid (apart_call ot_49 Ot_21.out)
          have Ot_49 := Lib.hid (own_lower ot_49 HBwt_25.out.size)
          clear ot_49
          have HBwt_49 := Lib.hid (Below.step HBwt_25.out bt_49)
          replace Ot_10 := Lib.hid (own_below Ot_10.out bt_49)
          replace Ot_21 := Lib.hid (own_below Ot_21.out bt_49)
          clear bt_49
          replace H := bind_hid H
          obtain ⟨t_50, qt_50, H⟩ := H
          go_wp2_with fail
          go_at_call 38
          refine (Go.Proofs.Ytdgbigkcophjoaa.GlEqPaperS.C (t_21) (t_49) At_21 ct_21 At_49 ct_49 _   (Lib.hid (own_cells Ot_21.out)) (Lib.hid (own_max Ot_21.out)) (Lib.hid (own_cells Ot_49.out)) (Lib.hid (own_max Ot_49.out)) qt_50).mono ?_
          rintro e_t_50 wt_50 ⟨rfl, bt_50⟩
          have HBwt_50 := Lib.hid (Below.step HBwt_49.out bt_50)
          replace Ot_10 := Lib.hid (own_below Ot_10.out bt_50)
          replace Ot_21 := Lib.hid (own_below Ot_21.out bt_50)
          replace Ot_49 := Lib.hid (own_below Ot_49.out bt_50)
          clear bt_50
          cases t_50 with
          | false =>
            replace H := let_hid H
            obtain ⟨t_51, ht_51, H⟩ := H
            obtain rfl : t_51 = true := ht_51.symm
            replace H := ite_t H
            obtain rfl := ret_hid H
            go_wp2_with fail
            go_ret
            exact ⟨rfl, HBwt_50.out⟩
          | true =>
            replace H := let_hid H
            obtain ⟨t_51, ht_51, H⟩ := H
            obtain rfl : t_51 = false := ht_51.symm
            replace H := ite_f H
            obtain rfl := ret_hid H
            go_wp2_with fail
            go_ret
            exact ⟨rfl, HBwt_50.out⟩
        | true =>
          replace H := ite_t H
          obtain rfl := ret_hid H
          go_wp2_with fail
          go_ret
          exact ⟨rfl, HBwt_25.out⟩
      | true =>
        replace H := ite_t H
        replace H := app_hid H
        replace H := ite_t H
        obtain rfl := ret_hid H
        go_wp2_with fail
        go_ret
        exact ⟨rfl, HBwt_25.out⟩
    | true =>
      replace H := ite_t H
      replace H := app_hid H
      replace H := join_hid H
      replace H := ite_t H
      replace H := app_hid H
      replace H := ite_t H
      obtain rfl := ret_hid H
      go_wp2_with fail
      go_ret
      exact ⟨rfl, HBwt_25.out⟩
  | true =>
    replace H := ite_t H
    obtain rfl := ret_hid H
    go_wp2_with fail
    go_ret
    exact ⟨rfl, HBwt_4.out⟩
end Go.Proofs.Ytdgbigkcophjoaa.GlFnExactNearestPaper
