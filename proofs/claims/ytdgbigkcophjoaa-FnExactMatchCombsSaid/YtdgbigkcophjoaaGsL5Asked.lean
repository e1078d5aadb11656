/- loop.example/g01062/spec.l5Asked as a plain function, and the contract of the program's: where the plain one has an answer, the program has it. Conditions: slices read as lists. -/
import Derived.Test.YtdgbigkcophjoaaChecked
import Derived.Test.YtdgbigkcophjoaaGoM
import Derived.Test.YtdgbigkcophjoaaGoRComb
import Derived.Test.YtdgbigkcophjoaaGsL5Good
import Derived.Test.YtdgbigkcophjoaaGsL5Gauge
import Derived.Test.YtdgbigkcophjoaaGsL1In
import Derived.WalkKit
import Derived.WalkSpells
import Derived.WalkLawsBesides
import Derived.BigQuiet
import Derived.OwnWalk
import Derived.Deep.LoopGhost
import Derived.Deep.QuietTactic
import Derived.IntWalk
import Derived.Lib.QuietBelow
namespace Go.Proofs.Ytdgbigkcophjoaa.GsL5Asked
set_option linter.unusedVariables false
set_option linter.unusedSimpArgs false
open Go.RowKit
open Go.Proofs.Ytdgbigkcophjoaa.Rowed Go.Proofs.Ytdgbigkcophjoaa.Turn Go.Proofs.Ytdgbigkcophjoaa.Aid Go.Proofs.Ytdgbigkcophjoaa.GoP Go.Proofs.Ytdgbigkcophjoaa.GoM

def P (list : (List Go.Proofs.Ytdgbigkcophjoaa.PComb.Comb)) (wide : Int) (high : Int) (off : Int) : Option (Bool) :=
  Option.bind (Go.Proofs.Ytdgbigkcophjoaa.GsL5Good.P list) fun (t_2 : Bool) =>
  joinK (fun (t_10 : Bool) =>
  joinK (fun (t_18 : Bool) =>
  joinK (fun (t_22 : Bool) =>
  some t_22) fun jt_22 => iteK t_18 (Option.bind (Go.Proofs.Ytdgbigkcophjoaa.GsL1In.P off 0 100) fun (t_21 : Bool) =>
  appK jt_22 t_21) (appK jt_22 false)) fun jt_18 => iteK t_10 (letK (high == 0) fun (t_13 : Bool) =>
  joinK (fun (t_17 : Bool) =>
  appK jt_18 t_17) fun jt_17 => iteK t_13 (appK jt_17 true) (Option.bind (Go.Proofs.Ytdgbigkcophjoaa.GsL5Gauge.P high) fun (t_16 : Bool) =>
  appK jt_17 t_16)) (appK jt_18 false)) fun jt_10 => iteK t_2 (letK (wide == 0) fun (t_5 : Bool) =>
  joinK (fun (t_9 : Bool) =>
  appK jt_10 t_9) fun jt_9 => iteK t_5 (appK jt_9 true) (Option.bind (Go.Proofs.Ytdgbigkcophjoaa.GsL5Gauge.P wide) fun (t_8 : Bool) =>
  appK jt_9 t_8)) (appK jt_10 false)

set_option maxRecDepth 100000 in
set_option maxHeartbeats 2000000 in
theorem C (list : (List Go.Proofs.Ytdgbigkcophjoaa.PComb.Comb)) (wide : Int) (high : Int) (off : Int) (A0 : Option Addr) (c0 : Nat)  (w : World) (M0 : Hid (Cells w 4 A0 list.length (Go.Proofs.Ytdgbigkcophjoaa.PComb.flat list))) (N0 : Hid (list.length ≤ 9223372036854775807))  {r : Bool} (H : Hid (P list wide high off = some r)) :
    Calls Try.prog 96 #[.slice A0 list.length c0, .int .i64 wide, .int .i64 high, .int .i64 off] w (Gives (.bool r) w) := by
  have HB := Lib.hid (Below.refl w.heap.size w)
  unfold P at H
  have N0o := N0.out
  go_enter Try.func96, Try.ntmps96
  replace H := bind_hid H
  obtain ⟨t_2, qt_2, H⟩ := H
  go_wp2_with fail
  go_at_call 90
  refine (Go.Proofs.Ytdgbigkcophjoaa.GsL5Good.C (list) A0 c0 _   (Lib.hid (Cells.below M0.out HB.out)) N0 qt_2).mono ?_
  rintro e_t_2 wt_2 ⟨rfl, bt_2⟩
  have HBwt_2 := Lib.hid (Below.step HB.out bt_2)
  clear bt_2
  replace H := join_hid H
  cases t_2 with
  | false =>
    replace H := ite_f H
    replace H := app_hid H
    replace H := join_hid H
    replace H := ite_f H
    replace H := app_hid H
    replace H := join_hid H
    replace H := ite_f H
    replace H := app_hid H
    obtain rfl := ret_hid H
    go_wp2_with fail
    go_ret
    exact ⟨rfl, HBwt_2.out⟩
  | true =>
    replace H := ite_t H
    replace H := let_hid H
    obtain ⟨t_5, ht_5, H⟩ := H
    replace H := join_hid H
    cases t_5 with
    | false =>
      replace H := ite_f H
      replace H := bind_hid H
      obtain ⟨t_8, qt_8, H⟩ := H
      go_wp2_with fail
      go_at_call 113
      refine (Go.Proofs.Ytdgbigkcophjoaa.GsL5Gauge.C (wide)  _    qt_8).mono ?_
      rintro e_t_8 wt_8 ⟨rfl, bt_8⟩
      have HBwt_8 := Lib.hid (Below.step HBwt_2.out bt_8)
      clear bt_8
      replace H := app_hid H
      replace H := app_hid H
      replace H := join_hid H
      cases t_8 with
      | false =>
        replace H := ite_f H
        replace H := app_hid H
        replace H := join_hid H
        replace H := ite_f H
        replace H := app_hid H
        obtain rfl := ret_hid H
        go_wp2_with fail
        go_ret
        exact ⟨rfl, HBwt_8.out⟩
      | true =>
        replace H := ite_t H
        replace H := let_hid H
        obtain ⟨t_13, ht_13, H⟩ := H
        replace H := join_hid H
        cases t_13 with
        | false =>
          replace H := ite_f H
          replace H := bind_hid H
          obtain ⟨t_16, qt_16, H⟩ := H
          go_wp2_with fail
          go_at_call 113
          refine (Go.Proofs.Ytdgbigkcophjoaa.GsL5Gauge.C (high)  _    qt_16).mono ?_
          rintro e_t_16 wt_16 ⟨rfl, bt_16⟩
          have HBwt_16 := Lib.hid (Below.step HBwt_8.out bt_16)
          clear bt_16
          replace H := app_hid H
          replace H := app_hid H
          replace H := join_hid H
          cases t_16 with
          | false =>
            replace H := ite_f H
            replace H := app_hid H
            obtain rfl := ret_hid H
            go_wp2_with fail
            go_ret
            exact ⟨rfl, HBwt_16.out⟩
          | true =>
            replace H := ite_t H
            replace H := bind_hid H
            obtain ⟨t_21, qt_21, H⟩ := H
            go_wp2_with fail
            go_at_call 67
            refine (Go.Proofs.Ytdgbigkcophjoaa.GsL1In.C (off) (0) (100)  _    qt_21).mono ?_
            rintro e_t_21 wt_21 ⟨rfl, bt_21⟩
            have HBwt_21 := Lib.hid (Below.step HBwt_16.out bt_21)
            clear bt_21
            replace H := app_hid H
            obtain rfl := ret_hid H
            go_wp2_with fail
            go_ret
            exact ⟨rfl, HBwt_21.out⟩
        | true =>
          replace H := ite_t H
          replace H := app_hid H
          replace H := app_hid H
          replace H := join_hid H
          replace H := ite_t H
          replace H := bind_hid H
          obtain ⟨t_21, qt_21, H⟩ := H
          go_wp2_with fail
          go_at_call 67
          refine (Go.Proofs.Ytdgbigkcophjoaa.GsL1In.C (off) (0) (100)  _    qt_21).mono ?_
          rintro e_t_21 wt_21 ⟨rfl, bt_21⟩
          have HBwt_21 := Lib.hid (Below.step HBwt_8.out bt_21)
          clear bt_21
          replace H := app_hid H
          obtain rfl := ret_hid H
          go_wp2_with fail
          go_ret
          exact ⟨rfl, HBwt_21.out⟩
    | true =>
      replace H := ite_t H
      replace H := app_hid H
      replace H := app_hid H
      replace H := join_hid H
      replace H := ite_t H
      replace H := let_hid H
      obtain ⟨t_13, ht_13, H⟩ := H
      replace H := join_hid H
      cases t_13 with
      | false =>
        replace H := ite_f H
        replace H := bind_hid H
        obtain ⟨t_16, qt_16, H⟩ := H
        go_wp2_with fail
        go_at_call 113
        refine (Go.Proofs.Ytdgbigkcophjoaa.GsL5Gauge.C (high)  _    qt_16).mono ?_
        rintro e_t_16 wt_16 ⟨rfl, bt_16⟩
        have HBwt_16 := Lib.hid (Below.step HBwt_2.out bt_16)
        clear bt_16
        replace H := app_hid H
        replace H := app_hid H
        replace H := join_hid H
        cases t_16 with
        | false =>
          replace H := ite_f H
          replace H := app_hid H
          obtain rfl := ret_hid H
          go_wp2_with fail
          go_ret
          exact ⟨rfl, HBwt_16.out⟩
        | true =>
          replace H := ite_t H
          replace H := bind_hid H
          obtain ⟨t_21, qt_21, H⟩ := H
          go_wp2_with fail
          go_at_call 67
          refine (Go.Proofs.Ytdgbigkcophjoaa.GsL1In.C (off) (0) (100)  _    qt_21).mono ?_
          rintro e_t_21 wt_21 ⟨rfl, bt_21⟩
          have HBwt_21 := Lib.hid (Below.step HBwt_16.out bt_21)
          clear bt_21
          replace H := app_hid H
          obtain rfl := ret_hid H
          go_wp2_with fail
          go_ret
          exact ⟨rfl, HBwt_21.out⟩
      | true =>
        replace H := ite_t H
        replace H := app_hid H
        replace H := app_hid H
        replace H := join_hid H
        replace H := ite_t H
        replace H := bind_hid H
        obtain ⟨t_21, qt_21, H⟩ := H
        go_wp2_with fail
        go_at_call 67
        refine (Go.Proofs.Ytdgbigkcophjoaa.GsL1In.C (off) (0) (100)  _    qt_21).mono ?_
        rintro e_t_21 wt_21 ⟨rfl, bt_21⟩
        have HBwt_21 := Lib.hid (Below.step HBwt_2.out bt_21)
        clear bt_21
        replace H := app_hid H
        obtain rfl := ret_hid H
        go_wp2_with fail
        go_ret
        exact ⟨rfl, HBwt_21.out⟩
end Go.Proofs.Ytdgbigkcophjoaa.GsL5Asked
