/- Texts on which the proofs of several laws stand, one behind the other (3 of 21). No condition of their own. -/
import Derived.Test.YtlljmgphgmklcaaChecked
import Derived.Test.YtlljmgphgmklcaaC10P1
import Derived.Test.YtlljmgphgmklcaaC10P2
import Derived.WalkKit
import Derived.WalkSpells
import Derived.WalkLawsBesides
import Derived.BigQuiet
import Derived.OwnWalk
import Derived.Deep.LoopGhost
import Derived.Deep.QuietTactic
import Derived.IntWalk
import Derived.Lib.QuietBelow
/- loop.example/g01062/spec.l10One as a plain function, and the contract of the program's: where the plain one has an answer, the program has it. Conditions: slices read as lists. -/
namespace Go.Proofs.Ytlljmgphgmklcaa.GsL10One
set_option linter.unusedVariables false
set_option linter.unusedSimpArgs false
open Go.RowKit
open Go.Proofs.Ytlljmgphgmklcaa.Rowed Go.Proofs.Ytlljmgphgmklcaa.Turn Go.Proofs.Ytlljmgphgmklcaa.Aid Go.Proofs.Ytlljmgphgmklcaa.GoP Go.Proofs.Ytlljmgphgmklcaa.GoM

def P (x : Go.Proofs.Ytlljmgphgmklcaa.PCover.Cover) : Option (Bool) :=
  unCover x fun (x_id : Int) (x_day : Int) (x_zone : Int) (x_grams : Int) (x_paid : Int) (x_from_ : Int) (x_to_ : Int) (x_leave : Int) (x_arrive : Int) =>
  Option.bind (Go.Proofs.Ytlljmgphgmklcaa.GsL1In.P x_id 1 999) fun (t_4 : Bool) =>
  letK (!t_4) fun (t_5 : Bool) =>
  joinK (fun (t_11 : Bool) =>
  joinK (fun (t_17 : Bool) =>
  joinK (fun (t_23 : Bool) =>
  joinK (fun (t_29 : Bool) =>
  iteK t_29
  (some false)
  (Option.bind (Go.Proofs.Ytlljmgphgmklcaa.GsL9Office.P x_from_) fun (t_33 : Bool) =>
  joinK (fun (t_38 : Bool) =>
  joinK (fun (t_45 : Bool) =>
  joinK (fun (t_50 : Bool) =>
  joinK (fun (t_57 : Bool) =>
  some t_57) fun jt_57 => iteK t_50 (Option.bind (Go.Proofs.Ytlljmgphgmklcaa.GsL1In.P x_leave 0 x_arrive) fun (t_56 : Bool) =>
  appK jt_57 t_56) (appK jt_57 false)) fun jt_50 => iteK t_45 (Option.bind (Go.Proofs.Ytlljmgphgmklcaa.GsL9Minute.P x_arrive) fun (t_49 : Bool) =>
  appK jt_50 t_49) (appK jt_50 false)) fun jt_45 => iteK t_38 (letK (x_from_ != x_to_) fun (t_44 : Bool) =>
  appK jt_45 t_44) (appK jt_45 false)) fun jt_38 => iteK t_33 (Option.bind (Go.Proofs.Ytlljmgphgmklcaa.GsL9Office.P x_to_) fun (t_37 : Bool) =>
  appK jt_38 t_37) (appK jt_38 false))) fun jt_29 => iteK t_23 (appK jt_29 true) (Option.bind (Go.Proofs.Ytlljmgphgmklcaa.GsL8Cents.P x_paid) fun (t_27 : Bool) =>
  letK (!t_27) fun (t_28 : Bool) =>
  appK jt_29 t_28)) fun jt_23 => iteK t_17 (appK jt_23 true) (Option.bind (Go.Proofs.Ytlljmgphgmklcaa.GsL8Grams.P x_grams) fun (t_21 : Bool) =>
  letK (!t_21) fun (t_22 : Bool) =>
  appK jt_23 t_22)) fun jt_17 => iteK t_11 (appK jt_17 true) (Option.bind (Go.Proofs.Ytlljmgphgmklcaa.GsL8Zone.P x_zone) fun (t_15 : Bool) =>
  letK (!t_15) fun (t_16 : Bool) =>
  appK jt_17 t_16)) fun jt_11 => iteK t_5 (appK jt_11 true) (Option.bind (Go.Proofs.Ytlljmgphgmklcaa.GsL2Day.P x_day) fun (t_9 : Bool) =>
  letK (!t_9) fun (t_10 : Bool) =>
  appK jt_11 t_10)

set_option maxRecDepth 100000 in
set_option maxHeartbeats 2000000 in
theorem C (x : Go.Proofs.Ytlljmgphgmklcaa.PCover.Cover)   (w : World)   {r : Bool} (H : Hid (P x = some r)) :
    Calls Try.prog 77 #[x.val] w (Gives (.bool r) w) := by
  have HB := Lib.hid (Below.refl w.heap.size w)
  unfold P at H
  obtain ⟨x_id, x_day, x_zone, x_grams, x_paid, x_from_, x_to_, x_leave, x_arrive⟩ := x
  replace H := unCover_hid H
  unfold Go.Proofs.Ytlljmgphgmklcaa.PCover.Cover.val
  go_enter Try.func77, Try.ntmps77
  obtain ⟨w_x_0, hw_x_0⟩ : ∃ x, w.alloc (.cells #[.int .i64 x_id, .int .i64 x_day, .int .i64 x_zone, .int .i64 x_grams, .int .i64 x_paid, .int .i64 x_from_, .int .i64 x_to_, .int .i64 x_leave, .int .i64 x_arrive] 25) = x := ⟨_, rfl⟩
  have bw_x_0 : Below w.heap.size w w_x_0 := by rw [← hw_x_0]; exact (Below.refl _ _).alloc (Nat.le_refl _) _
  have HBw_x_0 := Lib.hid (Below.step HB.out bw_x_0)
  clear bw_x_0
  have kx_0_0 : w_x_0.cell? ⟨w.heap.size, 0, none⟩ = some (.int .i64 x_id) := by rw [← hw_x_0]; exact box_new _ _ _ 0 _ rfl
  have kx_0_1 : w_x_0.cell? ⟨w.heap.size, 1, none⟩ = some (.int .i64 x_day) := by rw [← hw_x_0]; exact box_new _ _ _ 1 _ rfl
  have kx_0_2 : w_x_0.cell? ⟨w.heap.size, 2, none⟩ = some (.int .i64 x_zone) := by rw [← hw_x_0]; exact box_new _ _ _ 2 _ rfl
  have kx_0_3 : w_x_0.cell? ⟨w.heap.size, 3, none⟩ = some (.int .i64 x_grams) := by rw [← hw_x_0]; exact box_new _ _ _ 3 _ rfl
  have kx_0_4 : w_x_0.cell? ⟨w.heap.size, 4, none⟩ = some (.int .i64 x_paid) := by rw [← hw_x_0]; exact box_new _ _ _ 4 _ rfl
  have kx_0_5 : w_x_0.cell? ⟨w.heap.size, 5, none⟩ = some (.int .i64 x_from_) := by rw [← hw_x_0]; exact box_new _ _ _ 5 _ rfl
  have kx_0_6 : w_x_0.cell? ⟨w.heap.size, 6, none⟩ = some (.int .i64 x_to_) := by rw [← hw_x_0]; exact box_new _ _ _ 6 _ rfl
  have kx_0_7 : w_x_0.cell? ⟨w.heap.size, 7, none⟩ = some (.int .i64 x_leave) := by rw [← hw_x_0]; exact box_new _ _ _ 7 _ rfl
  have kx_0_8 : w_x_0.cell? ⟨w.heap.size, 8, none⟩ = some (.int .i64 x_arrive) := by rw [← hw_x_0]; exact box_new _ _ _ 8 _ rfl
  replace H := bind_hid H
  obtain ⟨t_4, qt_4, H⟩ := H
  go_wp2_with fail
  go_at_call 113
  refine (Go.Proofs.Ytlljmgphgmklcaa.GsL1In.C (x_id) (1) (999)  _    qt_4).mono ?_
  rintro e_t_4 wt_4 ⟨rfl, bt_4⟩
  have HBwt_4 := Lib.hid (Below.step HBw_x_0.out bt_4)
  replace kx_0_0 := cell_below bt_4 kx_0_0
  replace kx_0_1 := cell_below bt_4 kx_0_1
  replace kx_0_2 := cell_below bt_4 kx_0_2
  replace kx_0_3 := cell_below bt_4 kx_0_3
  replace kx_0_4 := cell_below bt_4 kx_0_4
  replace kx_0_5 := cell_below bt_4 kx_0_5
  replace kx_0_6 := cell_below bt_4 kx_0_6
  replace kx_0_7 := cell_below bt_4 kx_0_7
  replace kx_0_8 := cell_below bt_4 kx_0_8
  clear bt_4
  cases t_4 with
  | false =>
    replace H := let_hid H
    obtain ⟨t_5, ht_5, H⟩ := H
    obtain rfl : t_5 = true := ht_5.symm
    replace H := join_hid H
    replace H := ite_t H
    replace H := app_hid H
    replace H := join_hid H
    replace H := ite_t H
    replace H := app_hid H
    replace H := join_hid H
    replace H := ite_t H
    replace H := app_hid H
    replace H := join_hid H
    replace H := ite_t H
    replace H := app_hid H
    replace H := ite_t H
    obtain rfl := ret_hid H
    go_wp2_with fail
    go_ret
    exact ⟨rfl, HBwt_4.out⟩
  | true =>
    replace H := let_hid H
    obtain ⟨t_5, ht_5, H⟩ := H
    obtain rfl : t_5 = false := ht_5.symm
    replace H := join_hid H
    replace H := ite_f H
    replace H := bind_hid H
    obtain ⟨t_9, qt_9, H⟩ := H
    go_wp2_with fail
    go_at_call 129
    refine (Go.Proofs.Ytlljmgphgmklcaa.GsL2Day.C (x_day)  _    qt_9).mono ?_
    rintro e_t_9 wt_9 ⟨rfl, bt_9⟩
    have HBwt_9 := Lib.hid (Below.step HBwt_4.out bt_9)
    replace kx_0_0 := cell_below bt_9 kx_0_0
    replace kx_0_1 := cell_below bt_9 kx_0_1
    replace kx_0_2 := cell_below bt_9 kx_0_2
    replace kx_0_3 := cell_below bt_9 kx_0_3
    replace kx_0_4 := cell_below bt_9 kx_0_4
    replace kx_0_5 := cell_below bt_9 kx_0_5
    replace kx_0_6 := cell_below bt_9 kx_0_6
    replace kx_0_7 := cell_below bt_9 kx_0_7
    replace kx_0_8 := cell_below bt_9 kx_0_8
    clear bt_9
    cases t_9 with
    | false =>
      replace H := let_hid H
      obtain ⟨t_10, ht_10, H⟩ := H
      obtain rfl : t_10 = true := ht_10.symm
      replace H := app_hid H
      replace H := join_hid H
      replace H := ite_t H
      replace H := app_hid H
      replace H := join_hid H
      replace H := ite_t H
      replace H := app_hid H
      replace H := join_hid H
      replace H := ite_t H
      replace H := app_hid H
      replace H := ite_t H
      obtain rfl := ret_hid H
      go_wp2_with fail
      go_ret
      exact ⟨rfl, HBwt_9.out⟩
    | true =>
      replace H := let_hid H
      obtain ⟨t_10, ht_10, H⟩ := H
      obtain rfl : t_10 = false := ht_10.symm
      replace H := app_hid H
      replace H := join_hid H
      replace H := ite_f H
      replace H := bind_hid H
      obtain ⟨t_15, qt_15, H⟩ := H
      go_wp2_with fail
      go_at_call 139
      refine (Go.Proofs.Ytlljmgphgmklcaa.GsL8Zone.C (x_zone)  _    qt_15).mono ?_
      rintro e_t_15 wt_15 ⟨rfl, bt_15⟩
      have HBwt_15 := Lib.hid (Below.step HBwt_9.out bt_15)
      replace kx_0_0 := cell_below bt_15 kx_0_0
      replace kx_0_1 := cell_below bt_15 kx_0_1
      replace kx_0_2 := cell_below bt_15 kx_0_2
      replace kx_0_3 := cell_below bt_15 kx_0_3
      replace kx_0_4 := cell_below bt_15 kx_0_4
      replace kx_0_5 := cell_below bt_15 kx_0_5
      replace kx_0_6 := cell_below bt_15 kx_0_6
      replace kx_0_7 := cell_below bt_15 kx_0_7
      replace kx_0_8 := cell_below bt_15 kx_0_8
      clear bt_15
      cases t_15 with
      | false =>
        replace H := let_hid H
        obtain ⟨t_16, ht_16, H⟩ := H
        obtain rfl : t_16 = true := ht_16.symm
        replace H := app_hid H
        replace H := join_hid H
        replace H := ite_t H
        replace H := app_hid H
        replace H := join_hid H
        replace H := ite_t H
        replace H := app_hid H
        replace H := ite_t H
        obtain rfl := ret_hid H
        go_wp2_with fail
        go_ret
        exact ⟨rfl, HBwt_15.out⟩
      | true =>
        replace H := let_hid H
        obtain ⟨t_16, ht_16, H⟩ := H
        obtain rfl : t_16 = false := ht_16.symm
        replace H := app_hid H
        replace H := join_hid H
        replace H := ite_f H
        replace H := bind_hid H
        obtain ⟨t_21, qt_21, H⟩ := H
        go_wp2_with fail
        go_at_call 134
        refine (Go.Proofs.Ytlljmgphgmklcaa.GsL8Grams.C (x_grams)  _    qt_21).mono ?_
        rintro e_t_21 wt_21 ⟨rfl, bt_21⟩
        have HBwt_21 := Lib.hid (Below.step HBwt_15.out bt_21)
        replace kx_0_0 := cell_below bt_21 kx_0_0
        replace kx_0_1 := cell_below bt_21 kx_0_1
        replace kx_0_2 := cell_below bt_21 kx_0_2
        replace kx_0_3 := cell_below bt_21 kx_0_3
        replace kx_0_4 := cell_below bt_21 kx_0_4
        replace kx_0_5 := cell_below bt_21 kx_0_5
        replace kx_0_6 := cell_below bt_21 kx_0_6
        replace kx_0_7 := cell_below bt_21 kx_0_7
        replace kx_0_8 := cell_below bt_21 kx_0_8
        clear bt_21
        cases t_21 with
        | false =>
          replace H := let_hid H
          obtain ⟨t_22, ht_22, H⟩ := H
          obtain rfl : t_22 = true := ht_22.symm
          replace H := app_hid H
          replace H := join_hid H
          replace H := ite_t H
          replace H := app_hid H
          replace H := ite_t H
          obtain rfl := ret_hid H
          go_wp2_with fail
          go_ret
          exact ⟨rfl, HBwt_21.out⟩
        | true =>
          replace H := let_hid H
          obtain ⟨t_22, ht_22, H⟩ := H
          obtain rfl : t_22 = false := ht_22.symm
          replace H := app_hid H
          replace H := join_hid H
          replace H := ite_f H
          replace H := bind_hid H
          obtain ⟨t_27, qt_27, H⟩ := H
          go_wp2_with fail
          go_at_call 130
          refine (Go.Proofs.Ytlljmgphgmklcaa.GsL8Cents.C (x_paid)  _    qt_27).mono ?_
          rintro e_t_27 wt_27 ⟨rfl, bt_27⟩
          have HBwt_27 := Lib.hid (Below.step HBwt_21.out bt_27)
          replace kx_0_0 := cell_below bt_27 kx_0_0
          replace kx_0_1 := cell_below bt_27 kx_0_1
          replace kx_0_2 := cell_below bt_27 kx_0_2
          replace kx_0_3 := cell_below bt_27 kx_0_3
          replace kx_0_4 := cell_below bt_27 kx_0_4
          replace kx_0_5 := cell_below bt_27 kx_0_5
          replace kx_0_6 := cell_below bt_27 kx_0_6
          replace kx_0_7 := cell_below bt_27 kx_0_7
          replace kx_0_8 := cell_below bt_27 kx_0_8
          clear bt_27
          cases t_27 with
          | false =>
            replace H := let_hid H
            obtain ⟨t_28, ht_28, H⟩ := H
            obtain rfl : t_28 = true := ht_28.symm
            replace H := app_hid H
            replace H := ite_t H
            obtain rfl := ret_hid H
            go_wp2_with fail
            go_ret
            exact ⟨rfl, HBwt_27.out⟩
          | true =>
            replace H := let_hid H
            obtain ⟨t_28, ht_28, H⟩ := H
            obtain rfl : t_28 = false := ht_28.symm
            replace H := app_hid H
            replace H := ite_f H
            replace H := bind_hid H
            obtain ⟨t_33, qt_33, H⟩ := H
            go_wp2_with fail
            go_at_call 109
            refine (Go.Proofs.Ytlljmgphgmklcaa.GsL9Office.C (x_from_)  _    qt_33).mono ?_
            rintro e_t_33 wt_33 ⟨rfl, bt_33⟩
            have HBwt_33 := Lib.hid (Below.step HBwt_27.out bt_33)
            replace kx_0_0 := cell_below bt_33 kx_0_0
            replace kx_0_1 := cell_below bt_33 kx_0_1
            replace kx_0_2 := cell_below bt_33 kx_0_2
            replace kx_0_3 := cell_below bt_33 kx_0_3
            replace kx_0_4 := cell_below bt_33 kx_0_4
            replace kx_0_5 := cell_below bt_33 kx_0_5
            replace kx_0_6 := cell_below bt_33 kx_0_6
            replace kx_0_7 := cell_below bt_33 kx_0_7
            replace kx_0_8 := cell_below bt_33 kx_0_8
            clear bt_33
            replace H := join_hid H
            cases t_33 with
            | false =>
              replace H := ite_f H
              replace H := app_hid H
              replace H := join_hid H
              replace H := ite_f H
              replace H := app_hid H
              replace H := join_hid H
              replace H := ite_f H
              replace H := app_hid H
              replace H := join_hid H
              replace H := ite_f H
              replace H := app_hid H
              obtain rfl := ret_hid H
              go_wp2_with fail
              go_ret
              exact ⟨rfl, HBwt_33.out⟩
            | true =>
              replace H := ite_t H
              replace H := bind_hid H
              obtain ⟨t_37, qt_37, H⟩ := H
              go_wp2_with fail
              go_at_call 109
              refine (Go.Proofs.Ytlljmgphgmklcaa.GsL9Office.C (x_to_)  _    qt_37).mono ?_
              rintro e_t_37 wt_37 ⟨rfl, bt_37⟩
              have HBwt_37 := Lib.hid (Below.step HBwt_33.out bt_37)
              replace kx_0_0 := cell_below bt_37 kx_0_0
              replace kx_0_1 := cell_below bt_37 kx_0_1
              replace kx_0_2 := cell_below bt_37 kx_0_2
              replace kx_0_3 := cell_below bt_37 kx_0_3
              replace kx_0_4 := cell_below bt_37 kx_0_4
              replace kx_0_5 := cell_below bt_37 kx_0_5
              replace kx_0_6 := cell_below bt_37 kx_0_6
              replace kx_0_7 := cell_below bt_37 kx_0_7
              replace kx_0_8 := cell_below bt_37 kx_0_8
              clear bt_37
              replace H := app_hid H
              replace H := join_hid H
              cases t_37 with
              | false =>
                replace H := ite_f H
                replace H := app_hid H
                replace H := join_hid H
                replace H := ite_f H
                replace H := app_hid H
                replace H := join_hid H
                replace H := ite_f H
                replace H := app_hid H
                obtain rfl := ret_hid H
                go_wp2_with fail
                go_ret
                exact ⟨rfl, HBwt_37.out⟩
              | true =>
                replace H := ite_t H
                replace H := let_hid H
                obtain ⟨t_44, ht_44, H⟩ := H
                replace H := app_hid H
                replace H := join_hid H
                cases t_44 with
                | false =>
                  replace H := ite_f H
                  replace H := app_hid H
                  replace H := join_hid H
                  replace H := ite_f H
                  replace H := app_hid H
                  obtain rfl := ret_hid H
                  go_wp2_with fail
                  go_ret
                  exact ⟨rfl, HBwt_37.out⟩
                | true =>
                  replace H := ite_t H
                  replace H := bind_hid H
                  obtain ⟨t_49, qt_49, H⟩ := H
                  go_wp2_with fail
                  go_at_call 140
                  refine (Go.Proofs.Ytlljmgphgmklcaa.GsL9Minute.C (x_arrive)  _    qt_49).mono ?_
                  rintro e_t_49 wt_49 ⟨rfl, bt_49⟩
                  have HBwt_49 := Lib.hid (Below.step HBwt_37.out bt_49)
                  replace kx_0_0 := cell_below bt_49 kx_0_0
                  replace kx_0_1 := cell_below bt_49 kx_0_1
                  replace kx_0_2 := cell_below bt_49 kx_0_2
                  replace kx_0_3 := cell_below bt_49 kx_0_3
                  replace kx_0_4 := cell_below bt_49 kx_0_4
                  replace kx_0_5 := cell_below bt_49 kx_0_5
                  replace kx_0_6 := cell_below bt_49 kx_0_6
                  replace kx_0_7 := cell_below bt_49 kx_0_7
                  replace kx_0_8 := cell_below bt_49 kx_0_8
                  clear bt_49
                  replace H := app_hid H
                  replace H := join_hid H
                  cases t_49 with
                  | false =>
                    replace H := ite_f H
                    replace H := app_hid H
                    obtain rfl := ret_hid H
                    go_wp2_with fail
                    go_ret
                    exact ⟨rfl, HBwt_49.out⟩
                  | true =>
                    replace H := ite_t H
                    replace H := bind_hid H
                    obtain ⟨t_56, qt_56, H⟩ := H
                    go_wp2_with fail
                    go_at_call 113
                    refine (Go.Proofs.Ytlljmgphgmklcaa.GsL1In.C (x_leave) (0) (x_arrive)  _    qt_56).mono ?_
                    rintro e_t_56 wt_56 ⟨rfl, bt_56⟩
                    have HBwt_56 := Lib.hid (Below.step HBwt_49.out bt_56)
                    replace kx_0_0 := cell_below bt_56 kx_0_0
                    replace kx_0_1 := cell_below bt_56 kx_0_1
                    replace kx_0_2 := cell_below bt_56 kx_0_2
                    replace kx_0_3 := cell_below bt_56 kx_0_3
                    replace kx_0_4 := cell_below bt_56 kx_0_4
                    replace kx_0_5 := cell_below bt_56 kx_0_5
                    replace kx_0_6 := cell_below bt_56 kx_0_6
                    replace kx_0_7 := cell_below bt_56 kx_0_7
                    replace kx_0_8 := cell_below bt_56 kx_0_8
                    clear bt_56
                    replace H := app_hid H
                    obtain rfl := ret_hid H
                    go_wp2_with fail
                    go_ret
                    exact ⟨rfl, HBwt_56.out⟩
end Go.Proofs.Ytlljmgphgmklcaa.GsL10One

/- loop.example/g01062/spec.l10Good as a plain function, and the contract of the program's: where the plain one has an answer, the program has it. Conditions: slices read as lists. -/
namespace Go.Proofs.Ytlljmgphgmklcaa.GsL10Good
set_option linter.unusedVariables false
set_option linter.unusedSimpArgs false
open Go.RowKit
open Go.Proofs.Ytlljmgphgmklcaa.Rowed Go.Proofs.Ytlljmgphgmklcaa.Turn Go.Proofs.Ytlljmgphgmklcaa.Aid Go.Proofs.Ytlljmgphgmklcaa.GoP Go.Proofs.Ytlljmgphgmklcaa.GoM

def l0 (list : (List Go.Proofs.Ytlljmgphgmklcaa.PCover.Cover)) (k0 : Nat) (s : Unit) (nx0 bk0 : Unit → Option (Bool)) : Option (Bool) :=
  
  Option.bind (idx list (k0 : Int)) fun (yt_8 : Go.Proofs.Ytlljmgphgmklcaa.PCover.Cover) =>
  unCover yt_8 fun (t_8_id : Int) (t_8_day : Int) (t_8_zone : Int) (t_8_grams : Int) (t_8_paid : Int) (t_8_from_ : Int) (t_8_to_ : Int) (t_8_leave : Int) (t_8_arrive : Int) =>
  Option.bind (Go.Proofs.Ytlljmgphgmklcaa.GsL10One.P (Go.Proofs.Ytlljmgphgmklcaa.PCover.Cover.mk t_8_id t_8_day t_8_zone t_8_grams t_8_paid t_8_from_ t_8_to_ t_8_leave t_8_arrive)) fun (t_10 : Bool) =>
  letK (!t_10) fun (t_11 : Bool) =>
  joinK (fun (t_29 : Bool) =>
  iteK t_29
  (some false)
  (appK nx0 ())) fun jt_29 => iteK t_11 (appK jt_29 true) (letK (decide (0 < (k0 : Int))) fun (t_14 : Bool) =>
  joinK (fun (t_28 : Bool) =>
  appK jt_29 t_28) fun jt_28 => iteK t_14 (letK (IntKind.i64.wrap ((k0 : Int) - 1)) fun (t_18 : Int) =>
  Option.bind (idx list t_18) fun (yt_19 : Go.Proofs.Ytlljmgphgmklcaa.PCover.Cover) =>
  unCover yt_19 fun (t_19_id : Int) (t_19_day : Int) (t_19_zone : Int) (t_19_grams : Int) (t_19_paid : Int) (t_19_from_ : Int) (t_19_to_ : Int) (t_19_leave : Int) (t_19_arrive : Int) =>
  Option.bind (idx list (k0 : Int)) fun (yt_24 : Go.Proofs.Ytlljmgphgmklcaa.PCover.Cover) =>
  unCover yt_24 fun (t_24_id : Int) (t_24_day : Int) (t_24_zone : Int) (t_24_grams : Int) (t_24_paid : Int) (t_24_from_ : Int) (t_24_to_ : Int) (t_24_leave : Int) (t_24_arrive : Int) =>
  letK (decide (t_24_id ≤ t_19_id)) fun (t_27 : Bool) =>
  appK jt_28 t_27) (appK jt_28 false))

def e0 (list : (List Go.Proofs.Ytlljmgphgmklcaa.PCover.Cover)) (s : Unit) : Option (Bool) :=
  
  letK (decide ((list.length : Int) ≤ 10)) fun (t_36 : Bool) =>
  some t_36

def P (list : (List Go.Proofs.Ytlljmgphgmklcaa.PCover.Cover)) : Option (Bool) :=
  cntK (l0 list) (list.length) 0 () (e0 list)

set_option maxRecDepth 100000 in
set_option maxHeartbeats 2000000 in
theorem C (list : (List Go.Proofs.Ytlljmgphgmklcaa.PCover.Cover)) (A0 : Option Addr) (c0 : Nat)  (w : World) (M0 : Hid (Cells w 9 A0 list.length (Go.Proofs.Ytlljmgphgmklcaa.PCover.flat list))) (N0 : Hid (list.length ≤ 9223372036854775807))  {r : Bool} (H : Hid (P list = some r)) :
    Calls Try.prog 85 #[.slice A0 list.length c0] w (Gives (.bool r) w) := by
  have HB := Lib.hid (Below.refl w.heap.size w)
  unfold P at H
  have N0o := N0.out
  go_enter Try.func85, Try.ntmps85
  go_wp2_with fail
  go_loopg [3] (list.length) (fun m_ v3_ wr => ∃ (k0 : Nat) , k0 + m_ = list.length ∧ v3_ = .int .i64 (k0 : Int) ∧ Hid (cntK (l0 list) m_ k0 () (e0 list) = some r) ∧ Hid (Below w.heap.size w wr))
  case atStart => exact ⟨0, by omega, rfl, H, HB⟩
  case round =>
    obtain ⟨k0, hkm0, rfl, H, HBwr0⟩ := hrel
    rename World => wr0
    cases gk with
    | zero =>
      obtain rfl : k0 = list.length := by omega
      have hc0 : decide (((list.length : Nat) : Int) < ((list.length : Nat) : Int)) = false := by simp
      replace H := cnt_zero H
      unfold e0 at H
      replace H := let_hid H
      obtain ⟨t_36, ht_36, H⟩ := H
      obtain rfl := ret_hid H
      go_wp2_with fail
      go_ret
      exact ⟨rfl, HBwr0.out⟩
    | succ m0 =>
      have hlt0 : k0 < list.length := by omega
      have hc0 : decide ((k0 : Int) < ((list.length : Nat) : Int)) = true := by simp; omega
      replace H := cnt_succ H
      unfold l0 at H
      go_wp2_with fail
      replace H := idx_hid H
      obtain ⟨nt_8, yt_8, et_8, lt_8, gt_8, H⟩ := H
      obtain rfl : k0 = nt_8 := by omega
      clear et_8
      obtain ⟨t_8_id, t_8_day, t_8_zone, t_8_grams, t_8_paid, t_8_from_, t_8_to_, t_8_leave, t_8_arrive⟩ := yt_8
      replace H := unCover_hid H
      obtain ⟨ab_t_8, ao_t_8, zt_8, At_8, z_t_8, ct_8_0, ct_8_1, ct_8_2, ct_8_3, ct_8_4, ct_8_5, ct_8_6, ct_8_7, ct_8_8⟩ := Go.Proofs.Ytlljmgphgmklcaa.OCover.at_ M0.out lt_8
      obtain rfl := Option.some.inj (gt_8.out.symm.trans z_t_8)
      subst At_8
      have ltt_8 := cell_lt ct_8_0
      replace ct_8_0 := cell_below HBwr0.out ct_8_0
      replace ct_8_1 := cell_below HBwr0.out ct_8_1
      replace ct_8_2 := cell_below HBwr0.out ct_8_2
      replace ct_8_3 := cell_below HBwr0.out ct_8_3
      replace ct_8_4 := cell_below HBwr0.out ct_8_4
      replace ct_8_5 := cell_below HBwr0.out ct_8_5
      replace ct_8_6 := cell_below HBwr0.out ct_8_6
      replace ct_8_7 := cell_below HBwr0.out ct_8_7
      replace ct_8_8 := cell_below HBwr0.out ct_8_8
      clear z_t_8
      have b0t_8 : (0 : Int) ≤ (k0 : Int) := by omega
      have b1t_8 : (k0 : Int) < ((list.length : Nat) : Int) := by omega
      have b2t_8 : ((k0 : Int)).toNat = k0 := by omega
      have Hct_8_0 := Lib.hid ct_8_0
      replace ct_8_0 := cell_regrown ct_8_0
      have Hct_8_1 := Lib.hid ct_8_1
      replace ct_8_1 := cell_regrown ct_8_1
      have Hct_8_2 := Lib.hid ct_8_2
      replace ct_8_2 := cell_regrown ct_8_2
      have Hct_8_3 := Lib.hid ct_8_3
      replace ct_8_3 := cell_regrown ct_8_3
      have Hct_8_4 := Lib.hid ct_8_4
      replace ct_8_4 := cell_regrown ct_8_4
      have Hct_8_5 := Lib.hid ct_8_5
      replace ct_8_5 := cell_regrown ct_8_5
      have Hct_8_6 := Lib.hid ct_8_6
      replace ct_8_6 := cell_regrown ct_8_6
      have Hct_8_7 := Lib.hid ct_8_7
      replace ct_8_7 := cell_regrown ct_8_7
      have Hct_8_8 := Lib.hid ct_8_8
      replace ct_8_8 := cell_regrown ct_8_8
      replace H := bind_hid H
      obtain ⟨t_10, qt_10, H⟩ := H
      have nt_10 : ∀ d os, Calls Try.prog 77 #[.agg #[.int .i64 t_8_id, .int .i64 t_8_day, .int .i64 t_8_zone, .int .i64 t_8_grams, .int .i64 t_8_paid, .int .i64 t_8_from_, .int .i64 t_8_to_, .int .i64 t_8_leave, .int .i64 t_8_arrive]] (Go.Sort.grow (redrawn wr0 d) os) fun e w'' => e = .returned (.bool t_10) ∧ ∃ p : Regrown, w'' = Go.Sort.grow (redrawn wr0 p.d) p.os := fun d os => Calls.regrown_of (Go.Proofs.Ytlljmgphgmklcaa.GsL10One.C ((Go.Proofs.Ytlljmgphgmklcaa.PCover.Cover.mk t_8_id t_8_day t_8_zone t_8_grams t_8_paid t_8_from_ t_8_to_ t_8_leave t_8_arrive))  _    qt_10)
      cases t_10 with
      | false =>
        replace H := let_hid H
        obtain ⟨t_11, ht_11, H⟩ := H
        obtain rfl : t_11 = true := ht_11.symm
        replace H := join_hid H
        replace H := ite_t H
        replace H := app_hid H
        refine wp_region_quiet_below (by kernel_rfl) (by kernel_rfl) ?_
        repeat (go_big_quiet_step (first | (go_at_call 77; exact nt_10 _ _)))
        refine wpQuiet_nil ?_
        intro Y4 hY4
        replace hY4 := below_class hY4
        clear nt_10
        replace ct_8_0 := Hct_8_0.out
        clear Hct_8_0
        replace ct_8_1 := Hct_8_1.out
        clear Hct_8_1
        replace ct_8_2 := Hct_8_2.out
        clear Hct_8_2
        replace ct_8_3 := Hct_8_3.out
        clear Hct_8_3
        replace ct_8_4 := Hct_8_4.out
        clear Hct_8_4
        replace ct_8_5 := Hct_8_5.out
        clear Hct_8_5
        replace ct_8_6 := Hct_8_6.out
        clear Hct_8_6
        replace ct_8_7 := Hct_8_7.out
        clear Hct_8_7
        replace ct_8_8 := Hct_8_8.out
        clear Hct_8_8
        have HBY4 := Lib.hid (Below.step HBwr0.out hY4)
        replace ct_8_0 := cell_below hY4 ct_8_0
        replace ct_8_1 := cell_below hY4 ct_8_1
        replace ct_8_2 := cell_below hY4 ct_8_2
        replace ct_8_3 := cell_below hY4 ct_8_3
        replace ct_8_4 := cell_below hY4 ct_8_4
        replace ct_8_5 := cell_below hY4 ct_8_5
        replace ct_8_6 := cell_below hY4 ct_8_6
        replace ct_8_7 := cell_below hY4 ct_8_7
        replace ct_8_8 := cell_below hY4 ct_8_8
        clear hY4
        replace H := ite_t H
        obtain rfl := ret_hid H
        go_wp2_with fail
        go_ret
        exact ⟨rfl, HBY4.out⟩
      | true =>
        replace H := let_hid H
        obtain ⟨t_11, ht_11, H⟩ := H
        obtain rfl : t_11 = false := ht_11.symm
        replace H := join_hid H
        replace H := ite_f H
        replace H := let_hid H
        obtain ⟨t_14, ht_14, H⟩ := H
        replace H := join_hid H
        cases t_14 with
        | false =>
          have nht_14 : ¬ (0 < k0) := by have := of_decide_eq_false ht_14; omega
          replace H := ite_f H
          replace H := app_hid H
          replace H := app_hid H
          refine wp_region_quiet_below (by kernel_rfl) (by kernel_rfl) ?_
          repeat (go_big_quiet_step (first | (go_at_call 77; exact nt_10 _ _)))
          refine wpQuiet_nil ?_
          intro Y4 hY4
          replace hY4 := below_class hY4
          clear nt_10
          replace ct_8_0 := Hct_8_0.out
          clear Hct_8_0
          replace ct_8_1 := Hct_8_1.out
          clear Hct_8_1
          replace ct_8_2 := Hct_8_2.out
          clear Hct_8_2
          replace ct_8_3 := Hct_8_3.out
          clear Hct_8_3
          replace ct_8_4 := Hct_8_4.out
          clear Hct_8_4
          replace ct_8_5 := Hct_8_5.out
          clear Hct_8_5
          replace ct_8_6 := Hct_8_6.out
          clear Hct_8_6
          replace ct_8_7 := Hct_8_7.out
          clear Hct_8_7
          replace ct_8_8 := Hct_8_8.out
          clear Hct_8_8
          have HBY4 := Lib.hid (Below.step HBwr0.out hY4)
          replace ct_8_0 := cell_below hY4 ct_8_0
          replace ct_8_1 := cell_below hY4 ct_8_1
          replace ct_8_2 := cell_below hY4 ct_8_2
          replace ct_8_3 := cell_below hY4 ct_8_3
          replace ct_8_4 := cell_below hY4 ct_8_4
          replace ct_8_5 := cell_below hY4 ct_8_5
          replace ct_8_6 := cell_below hY4 ct_8_6
          replace ct_8_7 := cell_below hY4 ct_8_7
          replace ct_8_8 := cell_below hY4 ct_8_8
          clear hY4
          replace H := ite_f H
          replace H := app_hid H
          go_wp2_with fail
          go_roundg m0
          case measure => omega
          case rel => exact ⟨k0 + 1, by omega, by go_num, H, HBY4⟩
        | true =>
          have nht_14 : 0 < k0 := by have := of_decide_eq_true ht_14; omega
          replace H := ite_t H
          replace H := let_hid H
          obtain ⟨t_18, ht_18, H⟩ := H
          replace H := idx_hid H
          obtain ⟨nt_19, yt_19, et_19, lt_19, gt_19, H⟩ := H
          subst et_19
          obtain ⟨t_19_id, t_19_day, t_19_zone, t_19_grams, t_19_paid, t_19_from_, t_19_to_, t_19_leave, t_19_arrive⟩ := yt_19
          replace H := unCover_hid H
          obtain ⟨ab_t_19, ao_t_19, zt_19, At_19, z_t_19, ct_19_0, ct_19_1, ct_19_2, ct_19_3, ct_19_4, ct_19_5, ct_19_6, ct_19_7, ct_19_8⟩ := Go.Proofs.Ytlljmgphgmklcaa.OCover.at_ M0.out lt_19
          obtain rfl := Option.some.inj (gt_19.out.symm.trans z_t_19)
          simp only [Option.some.injEq, Addr.mk.injEq] at At_19
          obtain ⟨rfl, rfl, _⟩ := At_19
          have ltt_19 := cell_lt ct_19_0
          replace ct_19_0 := cell_below HBwr0.out ct_19_0
          replace ct_19_1 := cell_below HBwr0.out ct_19_1
          replace ct_19_2 := cell_below HBwr0.out ct_19_2
          replace ct_19_3 := cell_below HBwr0.out ct_19_3
          replace ct_19_4 := cell_below HBwr0.out ct_19_4
          replace ct_19_5 := cell_below HBwr0.out ct_19_5
          replace ct_19_6 := cell_below HBwr0.out ct_19_6
          replace ct_19_7 := cell_below HBwr0.out ct_19_7
          replace ct_19_8 := cell_below HBwr0.out ct_19_8
          clear z_t_19
          have b0t_19 : (0 : Int) ≤ (nt_19 : Int) := by omega
          have b1t_19 : (nt_19 : Int) < ((list.length : Nat) : Int) := by omega
          have b2t_19 : ((nt_19 : Int)).toNat = nt_19 := by omega
          have Hct_19_0 := Lib.hid ct_19_0
          replace ct_19_0 := cell_regrown ct_19_0
          have Hct_19_1 := Lib.hid ct_19_1
          replace ct_19_1 := cell_regrown ct_19_1
          have Hct_19_2 := Lib.hid ct_19_2
          replace ct_19_2 := cell_regrown ct_19_2
          have Hct_19_3 := Lib.hid ct_19_3
          replace ct_19_3 := cell_regrown ct_19_3
          have Hct_19_4 := Lib.hid ct_19_4
          replace ct_19_4 := cell_regrown ct_19_4
          have Hct_19_5 := Lib.hid ct_19_5
          replace ct_19_5 := cell_regrown ct_19_5
          have Hct_19_6 := Lib.hid ct_19_6
          replace ct_19_6 := cell_regrown ct_19_6
          have Hct_19_7 := Lib.hid ct_19_7
          replace ct_19_7 := cell_regrown ct_19_7
          have Hct_19_8 := Lib.hid ct_19_8
          replace ct_19_8 := cell_regrown ct_19_8
          replace H := idx_hid H
          obtain ⟨nt_24, yt_24, et_24, lt_24, gt_24, H⟩ := H
          obtain rfl : k0 = nt_24 := by omega
          clear et_24
          obtain rfl := Option.some.inj (gt_8.out.symm.trans gt_24.out)
          clear gt_24 lt_24
          replace H := unCover_hid H
          replace H := let_hid H
          obtain ⟨t_27, ht_27, H⟩ := H
          replace H := app_hid H
          replace H := app_hid H
          refine wp_region_quiet_below (by kernel_rfl) (by kernel_rfl) ?_
          repeat (go_big_quiet_step (first | (go_at_call 77; exact nt_10 _ _)))
          refine wpQuiet_nil ?_
          intro Y4 hY4
          replace hY4 := below_class hY4
          clear nt_10
          replace ct_8_0 := Hct_8_0.out
          clear Hct_8_0
          replace ct_8_1 := Hct_8_1.out
          clear Hct_8_1
          replace ct_8_2 := Hct_8_2.out
          clear Hct_8_2
          replace ct_8_3 := Hct_8_3.out
          clear Hct_8_3
          replace ct_8_4 := Hct_8_4.out
          clear Hct_8_4
          replace ct_8_5 := Hct_8_5.out
          clear Hct_8_5
          replace ct_8_6 := Hct_8_6.out
          clear Hct_8_6
          replace ct_8_7 := Hct_8_7.out
          clear Hct_8_7
          replace ct_8_8 := Hct_8_8.out
          clear Hct_8_8
          replace ct_19_0 := Hct_19_0.out
          clear Hct_19_0
          replace ct_19_1 := Hct_19_1.out
          clear Hct_19_1
          replace ct_19_2 := Hct_19_2.out
          clear Hct_19_2
          replace ct_19_3 := Hct_19_3.out
          clear Hct_19_3
          replace ct_19_4 := Hct_19_4.out
          clear Hct_19_4
          replace ct_19_5 := Hct_19_5.out
          clear Hct_19_5
          replace ct_19_6 := Hct_19_6.out
          clear Hct_19_6
          replace ct_19_7 := Hct_19_7.out
          clear Hct_19_7
          replace ct_19_8 := Hct_19_8.out
          clear Hct_19_8
          have HBY4 := Lib.hid (Below.step HBwr0.out hY4)
          replace ct_8_0 := cell_below hY4 ct_8_0
          replace ct_8_1 := cell_below hY4 ct_8_1
          replace ct_8_2 := cell_below hY4 ct_8_2
          replace ct_8_3 := cell_below hY4 ct_8_3
          replace ct_8_4 := cell_below hY4 ct_8_4
          replace ct_8_5 := cell_below hY4 ct_8_5
          replace ct_8_6 := cell_below hY4 ct_8_6
          replace ct_8_7 := cell_below hY4 ct_8_7
          replace ct_8_8 := cell_below hY4 ct_8_8
          replace ct_19_0 := cell_below hY4 ct_19_0
          replace ct_19_1 := cell_below hY4 ct_19_1
          replace ct_19_2 := cell_below hY4 ct_19_2
          replace ct_19_3 := cell_below hY4 ct_19_3
          replace ct_19_4 := cell_below hY4 ct_19_4
          replace ct_19_5 := cell_below hY4 ct_19_5
          replace ct_19_6 := cell_below hY4 ct_19_6
          replace ct_19_7 := cell_below hY4 ct_19_7
          replace ct_19_8 := cell_below hY4 ct_19_8
          clear hY4
          cases t_27 with
          | false =>
            replace H := ite_f H
            replace H := app_hid H
            go_wp2_with fail
            go_roundg m0
            case measure => omega
            case rel => exact ⟨k0 + 1, by omega, by go_num, H, HBY4⟩
          | true =>
            replace H := ite_t H
            obtain rfl := ret_hid H
            go_wp2_with fail
            go_ret
            exact ⟨rfl, HBY4.out⟩
end Go.Proofs.Ytlljmgphgmklcaa.GsL10Good

/- loop.example/g01062/impl.isDay as a plain function, and the contract of the program's: where the plain one has an answer, the program has it. Conditions: slices read as lists. -/
namespace Go.Proofs.Ytlljmgphgmklcaa.GiIsDay
set_option linter.unusedVariables false
set_option linter.unusedSimpArgs false
open Go.RowKit
open Go.Proofs.Ytlljmgphgmklcaa.Rowed Go.Proofs.Ytlljmgphgmklcaa.Turn Go.Proofs.Ytlljmgphgmklcaa.Aid Go.Proofs.Ytlljmgphgmklcaa.GoP Go.Proofs.Ytlljmgphgmklcaa.GoM

def P (day : Int) : Option (Bool) :=
  Option.bind (Go.Proofs.Ytlljmgphgmklcaa.GiWithin.P day 0 4000) fun (t_2 : Bool) =>
  some t_2

set_option maxRecDepth 100000 in
set_option maxHeartbeats 2000000 in
theorem C (day : Int)   (w : World)   {r : Bool} (H : Hid (P day = some r)) :
    Calls Try.prog 79 #[.int .i64 day] w (Gives (.bool r) w) := by
  have HB := Lib.hid (Below.refl w.heap.size w)
  unfold P at H
  go_enter Try.func79, Try.ntmps79
  replace H := bind_hid H
  obtain ⟨t_2, qt_2, H⟩ := H
  go_wp2_with fail
  go_at_call 78
  refine (Go.Proofs.Ytlljmgphgmklcaa.GiWithin.C (day) (0) (4000)  _    qt_2).mono ?_
  rintro e_t_2 wt_2 ⟨rfl, bt_2⟩
  have HBwt_2 := Lib.hid (Below.step HB.out bt_2)
  clear bt_2
  obtain rfl := ret_hid H
  go_wp2_with fail
  go_ret
  exact ⟨rfl, HBwt_2.out⟩
end Go.Proofs.Ytlljmgphgmklcaa.GiIsDay

/- loop.example/g01062/impl.isZone as a plain function, and the contract of the program's: where the plain one has an answer, the program has it. Conditions: slices read as lists. -/
namespace Go.Proofs.Ytlljmgphgmklcaa.GiIsZone
set_option linter.unusedVariables false
set_option linter.unusedSimpArgs false
open Go.RowKit
open Go.Proofs.Ytlljmgphgmklcaa.Rowed Go.Proofs.Ytlljmgphgmklcaa.Turn Go.Proofs.Ytlljmgphgmklcaa.Aid Go.Proofs.Ytlljmgphgmklcaa.GoP Go.Proofs.Ytlljmgphgmklcaa.GoM

def P (zone : Int) : Option (Bool) :=
  Option.bind (Go.Proofs.Ytlljmgphgmklcaa.GiWithin.P zone 0 9) fun (t_2 : Bool) =>
  some t_2

set_option maxRecDepth 100000 in
set_option maxHeartbeats 2000000 in
theorem C (zone : Int)   (w : World)   {r : Bool} (H : Hid (P zone = some r)) :
    Calls Try.prog 80 #[.int .i64 zone] w (Gives (.bool r) w) := by
  have HB := Lib.hid (Below.refl w.heap.size w)
  unfold P at H
  go_enter Try.func80, Try.ntmps80
  replace H := bind_hid H
  obtain ⟨t_2, qt_2, H⟩ := H
  go_wp2_with fail
  go_at_call 78
  refine (Go.Proofs.Ytlljmgphgmklcaa.GiWithin.C (zone) (0) (9)  _    qt_2).mono ?_
  rintro e_t_2 wt_2 ⟨rfl, bt_2⟩
  have HBwt_2 := Lib.hid (Below.step HB.out bt_2)
  clear bt_2
  obtain rfl := ret_hid H
  go_wp2_with fail
  go_ret
  exact ⟨rfl, HBwt_2.out⟩
end Go.Proofs.Ytlljmgphgmklcaa.GiIsZone

/- loop.example/g01062/impl.isWeight as a plain function, and the contract of the program's: where the plain one has an answer, the program has it. Conditions: slices read as lists. -/
namespace Go.Proofs.Ytlljmgphgmklcaa.GiIsWeight
set_option linter.unusedVariables false
set_option linter.unusedSimpArgs false
open Go.RowKit
open Go.Proofs.Ytlljmgphgmklcaa.Rowed Go.Proofs.Ytlljmgphgmklcaa.Turn Go.Proofs.Ytlljmgphgmklcaa.Aid Go.Proofs.Ytlljmgphgmklcaa.GoP Go.Proofs.Ytlljmgphgmklcaa.GoM

def P (grams : Int) : Option (Bool) :=
  Option.bind (Go.Proofs.Ytlljmgphgmklcaa.GiWithin.P grams 1 2000) fun (t_2 : Bool) =>
  some t_2

set_option maxRecDepth 100000 in
set_option maxHeartbeats 2000000 in
theorem C (grams : Int)   (w : World)   {r : Bool} (H : Hid (P grams = some r)) :
    Calls Try.prog 81 #[.int .i64 grams] w (Gives (.bool r) w) := by
  have HB := Lib.hid (Below.refl w.heap.size w)
  unfold P at H
  go_enter Try.func81, Try.ntmps81
  replace H := bind_hid H
  obtain ⟨t_2, qt_2, H⟩ := H
  go_wp2_with fail
  go_at_call 78
  refine (Go.Proofs.Ytlljmgphgmklcaa.GiWithin.C (grams) (1) (2000)  _    qt_2).mono ?_
  rintro e_t_2 wt_2 ⟨rfl, bt_2⟩
  have HBwt_2 := Lib.hid (Below.step HB.out bt_2)
  clear bt_2
  obtain rfl := ret_hid H
  go_wp2_with fail
  go_ret
  exact ⟨rfl, HBwt_2.out⟩
end Go.Proofs.Ytlljmgphgmklcaa.GiIsWeight

/- loop.example/g01062/impl.isRateCents as a plain function, and the contract of the program's: where the plain one has an answer, the program has it. Conditions: slices read as lists. -/
namespace Go.Proofs.Ytlljmgphgmklcaa.GiIsRateCents
set_option linter.unusedVariables false
set_option linter.unusedSimpArgs false
open Go.RowKit
open Go.Proofs.Ytlljmgphgmklcaa.Rowed Go.Proofs.Ytlljmgphgmklcaa.Turn Go.Proofs.Ytlljmgphgmklcaa.Aid Go.Proofs.Ytlljmgphgmklcaa.GoP Go.Proofs.Ytlljmgphgmklcaa.GoM

def P (cents : Int) : Option (Bool) :=
  Option.bind (Go.Proofs.Ytlljmgphgmklcaa.GiWithin.P cents 1 9999) fun (t_2 : Bool) =>
  some t_2

set_option maxRecDepth 100000 in
set_option maxHeartbeats 2000000 in
theorem C (cents : Int)   (w : World)   {r : Bool} (H : Hid (P cents = some r)) :
    Calls Try.prog 82 #[.int .i64 cents] w (Gives (.bool r) w) := by
  have HB := Lib.hid (Below.refl w.heap.size w)
  unfold P at H
  go_enter Try.func82, Try.ntmps82
  replace H := bind_hid H
  obtain ⟨t_2, qt_2, H⟩ := H
  go_wp2_with fail
  go_at_call 78
  refine (Go.Proofs.Ytlljmgphgmklcaa.GiWithin.C (cents) (1) (9999)  _    qt_2).mono ?_
  rintro e_t_2 wt_2 ⟨rfl, bt_2⟩
  have HBwt_2 := Lib.hid (Below.step HB.out bt_2)
  clear bt_2
  obtain rfl := ret_hid H
  go_wp2_with fail
  go_ret
  exact ⟨rfl, HBwt_2.out⟩
end Go.Proofs.Ytlljmgphgmklcaa.GiIsRateCents

/- loop.example/g01062/impl.isPostOffice as a plain function, and the contract of the program's: where the plain one has an answer, the program has it. Conditions: slices read as lists. -/
namespace Go.Proofs.Ytlljmgphgmklcaa.GiIsPostOffice
set_option linter.unusedVariables false
set_option linter.unusedSimpArgs false
open Go.RowKit
open Go.Proofs.Ytlljmgphgmklcaa.Rowed Go.Proofs.Ytlljmgphgmklcaa.Turn Go.Proofs.Ytlljmgphgmklcaa.Aid Go.Proofs.Ytlljmgphgmklcaa.GoP Go.Proofs.Ytlljmgphgmklcaa.GoM

def P (office : Int) : Option (Bool) :=
  Option.bind (Go.Proofs.Ytlljmgphgmklcaa.GiWithin.P office 0 9) fun (t_2 : Bool) =>
  some t_2

set_option maxRecDepth 100000 in
set_option maxHeartbeats 2000000 in
theorem C (office : Int)   (w : World)   {r : Bool} (H : Hid (P office = some r)) :
    Calls Try.prog 83 #[.int .i64 office] w (Gives (.bool r) w) := by
  have HB := Lib.hid (Below.refl w.heap.size w)
  unfold P at H
  go_enter Try.func83, Try.ntmps83
  replace H := bind_hid H
  obtain ⟨t_2, qt_2, H⟩ := H
  go_wp2_with fail
  go_at_call 78
  refine (Go.Proofs.Ytlljmgphgmklcaa.GiWithin.C (office) (0) (9)  _    qt_2).mono ?_
  rintro e_t_2 wt_2 ⟨rfl, bt_2⟩
  have HBwt_2 := Lib.hid (Below.step HB.out bt_2)
  clear bt_2
  obtain rfl := ret_hid H
  go_wp2_with fail
  go_ret
  exact ⟨rfl, HBwt_2.out⟩
end Go.Proofs.Ytlljmgphgmklcaa.GiIsPostOffice

/- loop.example/g01062/impl.isMinute as a plain function, and the contract of the program's: where the plain one has an answer, the program has it. Conditions: slices read as lists. -/
namespace Go.Proofs.Ytlljmgphgmklcaa.GiIsMinute
set_option linter.unusedVariables false
set_option linter.unusedSimpArgs false
open Go.RowKit
open Go.Proofs.Ytlljmgphgmklcaa.Rowed Go.Proofs.Ytlljmgphgmklcaa.Turn Go.Proofs.Ytlljmgphgmklcaa.Aid Go.Proofs.Ytlljmgphgmklcaa.GoP Go.Proofs.Ytlljmgphgmklcaa.GoM

def P (minute : Int) : Option (Bool) :=
  Option.bind (Go.Proofs.Ytlljmgphgmklcaa.GiWithin.P minute 0 9999) fun (t_2 : Bool) =>
  some t_2

set_option maxRecDepth 100000 in
set_option maxHeartbeats 2000000 in
theorem C (minute : Int)   (w : World)   {r : Bool} (H : Hid (P minute = some r)) :
    Calls Try.prog 84 #[.int .i64 minute] w (Gives (.bool r) w) := by
  have HB := Lib.hid (Below.refl w.heap.size w)
  unfold P at H
  go_enter Try.func84, Try.ntmps84
  replace H := bind_hid H
  obtain ⟨t_2, qt_2, H⟩ := H
  go_wp2_with fail
  go_at_call 78
  refine (Go.Proofs.Ytlljmgphgmklcaa.GiWithin.C (minute) (0) (9999)  _    qt_2).mono ?_
  rintro e_t_2 wt_2 ⟨rfl, bt_2⟩
  have HBwt_2 := Lib.hid (Below.step HB.out bt_2)
  clear bt_2
  obtain rfl := ret_hid H
  go_wp2_with fail
  go_ret
  exact ⟨rfl, HBwt_2.out⟩
end Go.Proofs.Ytlljmgphgmklcaa.GiIsMinute

/- loop.example/g01062/impl.IsCover as a plain function, and the contract of the program's: where the plain one has an answer, the program has it. Conditions: slices read as lists. -/
namespace Go.Proofs.Ytlljmgphgmklcaa.GiIsCover
set_option linter.unusedVariables false
set_option linter.unusedSimpArgs false
open Go.RowKit
open Go.Proofs.Ytlljmgphgmklcaa.Rowed Go.Proofs.Ytlljmgphgmklcaa.Turn Go.Proofs.Ytlljmgphgmklcaa.Aid Go.Proofs.Ytlljmgphgmklcaa.GoP Go.Proofs.Ytlljmgphgmklcaa.GoM

def P (x : Go.Proofs.Ytlljmgphgmklcaa.PCover.Cover) : Option (Bool) :=
  unCover x fun (x_id : Int) (x_day : Int) (x_zone : Int) (x_grams : Int) (x_paid : Int) (x_from_ : Int) (x_to_ : Int) (x_leave : Int) (x_arrive : Int) =>
  Option.bind (Go.Proofs.Ytlljmgphgmklcaa.GiWithin.P x_id 1 999) fun (t_4 : Bool) =>
  joinK (fun (t_9 : Bool) =>
  joinK (fun (t_14 : Bool) =>
  joinK (fun (t_19 : Bool) =>
  joinK (fun (t_24 : Bool) =>
  joinK (fun (t_29 : Bool) =>
  joinK (fun (t_34 : Bool) =>
  joinK (fun (t_41 : Bool) =>
  joinK (fun (t_46 : Bool) =>
  joinK (fun (t_51 : Bool) =>
  joinK (fun (t_58 : Bool) =>
  some t_58) fun jt_58 => iteK t_51 (letK (decide (x_leave ≤ x_arrive)) fun (t_57 : Bool) =>
  appK jt_58 t_57) (appK jt_58 false)) fun jt_51 => iteK t_46 (Option.bind (Go.Proofs.Ytlljmgphgmklcaa.GiIsMinute.P x_arrive) fun (t_50 : Bool) =>
  appK jt_51 t_50) (appK jt_51 false)) fun jt_46 => iteK t_41 (Option.bind (Go.Proofs.Ytlljmgphgmklcaa.GiIsMinute.P x_leave) fun (t_45 : Bool) =>
  appK jt_46 t_45) (appK jt_46 false)) fun jt_41 => iteK t_34 (letK (x_from_ != x_to_) fun (t_40 : Bool) =>
  appK jt_41 t_40) (appK jt_41 false)) fun jt_34 => iteK t_29 (Option.bind (Go.Proofs.Ytlljmgphgmklcaa.GiIsPostOffice.P x_to_) fun (t_33 : Bool) =>
  appK jt_34 t_33) (appK jt_34 false)) fun jt_29 => iteK t_24 (Option.bind (Go.Proofs.Ytlljmgphgmklcaa.GiIsPostOffice.P x_from_) fun (t_28 : Bool) =>
  appK jt_29 t_28) (appK jt_29 false)) fun jt_24 => iteK t_19 (Option.bind (Go.Proofs.Ytlljmgphgmklcaa.GiIsRateCents.P x_paid) fun (t_23 : Bool) =>
  appK jt_24 t_23) (appK jt_24 false)) fun jt_19 => iteK t_14 (Option.bind (Go.Proofs.Ytlljmgphgmklcaa.GiIsWeight.P x_grams) fun (t_18 : Bool) =>
  appK jt_19 t_18) (appK jt_19 false)) fun jt_14 => iteK t_9 (Option.bind (Go.Proofs.Ytlljmgphgmklcaa.GiIsZone.P x_zone) fun (t_13 : Bool) =>
  appK jt_14 t_13) (appK jt_14 false)) fun jt_9 => iteK t_4 (Option.bind (Go.Proofs.Ytlljmgphgmklcaa.GiIsDay.P x_day) fun (t_8 : Bool) =>
  appK jt_9 t_8) (appK jt_9 false)

set_option maxRecDepth 100000 in
set_option maxHeartbeats 2000000 in
theorem C (x : Go.Proofs.Ytlljmgphgmklcaa.PCover.Cover)   (w : World)   {r : Bool} (H : Hid (P x = some r)) :
    Calls Try.prog 18 #[x.val] w (Gives (.bool r) w) := by
  have HB := Lib.hid (Below.refl w.heap.size w)
  unfold P at H
  obtain ⟨x_id, x_day, x_zone, x_grams, x_paid, x_from_, x_to_, x_leave, x_arrive⟩ := x
  replace H := unCover_hid H
  unfold Go.Proofs.Ytlljmgphgmklcaa.PCover.Cover.val
  go_enter Try.func18, Try.ntmps18
  obtain ⟨w_x_0, hw_x_0⟩ : ∃ x, w.alloc (.cells #[.int .i64 x_id, .int .i64 x_day, .int .i64 x_zone, .int .i64 x_grams, .int .i64 x_paid, .int .i64 x_from_, .int .i64 x_to_, .int .i64 x_leave, .int .i64 x_arrive] 25) = x := ⟨_, rfl⟩
  have bw_x_0 : Below w.heap.size w w_x_0 := by rw [← hw_x_0]; exact (Below.refl _ _).alloc (Nat.le_refl _) _
  have HBw_x_0 := Lib.hid (Below.step HB.out bw_x_0)
  clear bw_x_0
  have kx_0_0 : w_x_0.cell? ⟨w.heap.size, 0, none⟩ = some (.int .i64 x_id) := by rw [← hw_x_0]; exact box_new _ _ _ 0 _ rfl
  have kx_0_1 : w_x_0.cell? ⟨w.heap.size, 1, none⟩ = some (.int .i64 x_day) := by rw [← hw_x_0]; exact box_new _ _ _ 1 _ rfl
  have kx_0_2 : w_x_0.cell? ⟨w.heap.size, 2, none⟩ = some (.int .i64 x_zone) := by rw [← hw_x_0]; exact box_new _ _ _ 2 _ rfl
  have kx_0_3 : w_x_0.cell? ⟨w.heap.size, 3, none⟩ = some (.int .i64 x_grams) := by rw [← hw_x_0]; exact box_new _ _ _ 3 _ rfl
  have kx_0_4 : w_x_0.cell? ⟨w.heap.size, 4, none⟩ = some (.int .i64 x_paid) := by rw [← hw_x_0]; exact box_new _ _ _ 4 _ rfl
  have kx_0_5 : w_x_0.cell? ⟨w.heap.size, 5, none⟩ = some (.int .i64 x_from_) := by rw [← hw_x_0]; exact box_new _ _ _ 5 _ rfl
  have kx_0_6 : w_x_0.cell? ⟨w.heap.size, 6, none⟩ = some (.int .i64 x_to_) := by rw [← hw_x_0]; exact box_new _ _ _ 6 _ rfl
  have kx_0_7 : w_x_0.cell? ⟨w.heap.size, 7, none⟩ = some (.int .i64 x_leave) := by rw [← hw_x_0]; exact box_new _ _ _ 7 _ rfl
  have kx_0_8 : w_x_0.cell? ⟨w.heap.size, 8, none⟩ = some (.int .i64 x_arrive) := by rw [← hw_x_0]; exact box_new _ _ _ 8 _ rfl
  replace H := bind_hid H
  obtain ⟨t_4, qt_4, H⟩ := H
  go_wp2_with fail
  go_at_call 78
  refine (Go.Proofs.Ytlljmgphgmklcaa.GiWithin.C (x_id) (1) (999)  _    qt_4).mono ?_
  rintro e_t_4 wt_4 ⟨rfl, bt_4⟩
  have HBwt_4 := Lib.hid (Below.step HBw_x_0.out bt_4)
  replace kx_0_0 := cell_below bt_4 kx_0_0
  replace kx_0_1 := cell_below bt_4 kx_0_1
  replace kx_0_2 := cell_below bt_4 kx_0_2
  replace kx_0_3 := cell_below bt_4 kx_0_3
  replace kx_0_4 := cell_below bt_4 kx_0_4
  replace kx_0_5 := cell_below bt_4 kx_0_5
  replace kx_0_6 := cell_below bt_4 kx_0_6
  replace kx_0_7 := cell_below bt_4 kx_0_7
  replace kx_0_8 := cell_below bt_4 kx_0_8
  clear bt_4
  replace H := join_hid H
  cases t_4 with
  | false =>
    replace H := ite_f H
    replace H := app_hid H
    replace H := join_hid H
    replace H := ite_f H
    replace H := app_hid H
    replace H := join_hid H
    replace H := ite_f H
    replace H := app_hid H
    replace H := join_hid H
    replace H := ite_f H
    replace H := app_hid H
    replace H := join_hid H
    replace H := ite_f H
    replace H := app_hid H
    replace H := join_hid H
    replace H := ite_f H
    replace H := app_hid H
    replace H := join_hid H
    replace H := ite_f H
    replace H := app_hid H
    replace H := join_hid H
    replace H := ite_f H
    replace H := app_hid H
    replace H := join_hid H
    replace H := ite_f H
    replace H := app_hid H
    replace H := join_hid H
    replace H := ite_f H
    replace H := app_hid H
    obtain rfl := ret_hid H
    go_wp2_with fail
    go_ret
    exact ⟨rfl, HBwt_4.out⟩
  | true =>
    replace H := ite_t H
    replace H := bind_hid H
    obtain ⟨t_8, qt_8, H⟩ := H
    go_wp2_with fail
    go_at_call 79
    refine (Go.Proofs.Ytlljmgphgmklcaa.GiIsDay.C (x_day)  _    qt_8).mono ?_
    rintro e_t_8 wt_8 ⟨rfl, bt_8⟩
    have HBwt_8 := Lib.hid (Below.step HBwt_4.out bt_8)
    replace kx_0_0 := cell_below bt_8 kx_0_0
    replace kx_0_1 := cell_below bt_8 kx_0_1
    replace kx_0_2 := cell_below bt_8 kx_0_2
    replace kx_0_3 := cell_below bt_8 kx_0_3
    replace kx_0_4 := cell_below bt_8 kx_0_4
    replace kx_0_5 := cell_below bt_8 kx_0_5
    replace kx_0_6 := cell_below bt_8 kx_0_6
    replace kx_0_7 := cell_below bt_8 kx_0_7
    replace kx_0_8 := cell_below bt_8 kx_0_8
    clear bt_8
    replace H := app_hid H
    replace H := join_hid H
    cases t_8 with
    | false =>
      replace H := ite_f H
      replace H := app_hid H
      replace H := join_hid H
      replace H := ite_f H
      replace H := app_hid H
      replace H := join_hid H
      replace H := ite_f H
      replace H := app_hid H
      replace H := join_hid H
      replace H := ite_f H
      replace H := app_hid H
      replace H := join_hid H
      replace H := ite_f H
      replace H := app_hid H
      replace H := join_hid H
      replace H := ite_f H
      replace H := app_hid H
      replace H := join_hid H
      replace H := ite_f H
      replace H := app_hid H
      replace H := join_hid H
      replace H := ite_f H
      replace H := app_hid H
      replace H := join_hid H
      replace H := ite_f H
      replace H := app_hid H
      obtain rfl := ret_hid H
      go_wp2_with fail
      go_ret
      exact ⟨rfl, HBwt_8.out⟩
    | true =>
      replace H := ite_t H
      replace H := bind_hid H
      obtain ⟨t_13, qt_13, H⟩ := H
      go_wp2_with fail
      go_at_call 80
      refine (Go.Proofs.Ytlljmgphgmklcaa.GiIsZone.C (x_zone)  _    qt_13).mono ?_
      rintro e_t_13 wt_13 ⟨rfl, bt_13⟩
      have HBwt_13 := Lib.hid (Below.step HBwt_8.out bt_13)
      replace kx_0_0 := cell_below bt_13 kx_0_0
      replace kx_0_1 := cell_below bt_13 kx_0_1
      replace kx_0_2 := cell_below bt_13 kx_0_2
      replace kx_0_3 := cell_below bt_13 kx_0_3
      replace kx_0_4 := cell_below bt_13 kx_0_4
      replace kx_0_5 := cell_below bt_13 kx_0_5
      replace kx_0_6 := cell_below bt_13 kx_0_6
      replace kx_0_7 := cell_below bt_13 kx_0_7
      replace kx_0_8 := cell_below bt_13 kx_0_8
      clear bt_13
      replace H := app_hid H
      replace H := join_hid H
      cases t_13 with
      | false =>
        replace H := ite_f H
        replace H := app_hid H
        replace H := join_hid H
        replace H := ite_f H
        replace H := app_hid H
        replace H := join_hid H
        replace H := ite_f H
        replace H := app_hid H
        replace H := join_hid H
        replace H := ite_f H
        replace H := app_hid H
        replace H := join_hid H
        replace H := ite_f H
        replace H := app_hid H
        replace H := join_hid H
        replace H := ite_f H
        replace H := app_hid H
        replace H := join_hid H
        replace H := ite_f H
        replace H := app_hid H
        replace H := join_hid H
        replace H := ite_f H
        replace H := app_hid H
        obtain rfl := ret_hid H
        go_wp2_with fail
        go_ret
        exact ⟨rfl, HBwt_13.out⟩
      | true =>
        replace H := ite_t H
        replace H := bind_hid H
        obtain ⟨t_18, qt_18, H⟩ := H
        go_wp2_with fail
        go_at_call 81
        refine (Go.Proofs.Ytlljmgphgmklcaa.GiIsWeight.C (x_grams)  _    qt_18).mono ?_
        rintro e_t_18 wt_18 ⟨rfl, bt_18⟩
        have HBwt_18 := Lib.hid (Below.step HBwt_13.out bt_18)
        replace kx_0_0 := cell_below bt_18 kx_0_0
        replace kx_0_1 := cell_below bt_18 kx_0_1
        replace kx_0_2 := cell_below bt_18 kx_0_2
        replace kx_0_3 := cell_below bt_18 kx_0_3
        replace kx_0_4 := cell_below bt_18 kx_0_4
        replace kx_0_5 := cell_below bt_18 kx_0_5
        replace kx_0_6 := cell_below bt_18 kx_0_6
        replace kx_0_7 := cell_below bt_18 kx_0_7
        replace kx_0_8 := cell_below bt_18 kx_0_8
        clear bt_18
        replace H := app_hid H
        replace H := join_hid H
        cases t_18 with
        | false =>
          replace H := ite_f H
          replace H := app_hid H
          replace H := join_hid H
          replace H := ite_f H
          replace H := app_hid H
          replace H := join_hid H
          replace H := ite_f H
          replace H := app_hid H
          replace H := join_hid H
          replace H := ite_f H
          replace H := app_hid H
          replace H := join_hid H
          replace H := ite_f H
          replace H := app_hid H
          replace H := join_hid H
          replace H := ite_f H
          replace H := app_hid H
          replace H := join_hid H
          replace H := ite_f H
          replace H := app_hid H
          obtain rfl := ret_hid H
          go_wp2_with fail
          go_ret
          exact ⟨rfl, HBwt_18.out⟩
        | true =>
          replace H := ite_t H
          replace H := bind_hid H
          obtain ⟨t_23, qt_23, H⟩ := H
          go_wp2_with fail
          go_at_call 82
          refine (Go.Proofs.Ytlljmgphgmklcaa.GiIsRateCents.C (x_paid)  _    qt_23).mono ?_
          rintro e_t_23 wt_23 ⟨rfl, bt_23⟩
          have HBwt_23 := Lib.hid (Below.step HBwt_18.out bt_23)
          replace kx_0_0 := cell_below bt_23 kx_0_0
          replace kx_0_1 := cell_below bt_23 kx_0_1
          replace kx_0_2 := cell_below bt_23 kx_0_2
          replace kx_0_3 := cell_below bt_23 kx_0_3
          replace kx_0_4 := cell_below bt_23 kx_0_4
          replace kx_0_5 := cell_below bt_23 kx_0_5
          replace kx_0_6 := cell_below bt_23 kx_0_6
          replace kx_0_7 := cell_below bt_23 kx_0_7
          replace kx_0_8 := cell_below bt_23 kx_0_8
          clear bt_23
          replace H := app_hid H
          replace H := join_hid H
          cases t_23 with
          | false =>
            replace H := ite_f H
            replace H := app_hid H
            replace H := join_hid H
            replace H := ite_f H
            replace H := app_hid H
            replace H := join_hid H
            replace H := ite_f H
            replace H := app_hid H
            replace H := join_hid H
            replace H := ite_f H
            replace H := app_hid H
            replace H := join_hid H
            replace H := ite_f H
            replace H := app_hid H
            replace H := join_hid H
            replace H := ite_f H
            replace H := app_hid H
            obtain rfl := ret_hid H
            go_wp2_with fail
            go_ret
            exact ⟨rfl, HBwt_23.out⟩
          | true =>
            replace H := ite_t H
            replace H := bind_hid H
            obtain ⟨t_28, qt_28, H⟩ := H
            go_wp2_with fail
            go_at_call 83
            refine (Go.Proofs.Ytlljmgphgmklcaa.GiIsPostOffice.C (x_from_)  _    qt_28).mono ?_
            rintro e_t_28 wt_28 ⟨rfl, bt_28⟩
            have HBwt_28 := Lib.hid (Below.step HBwt_23.out bt_28)
            replace kx_0_0 := cell_below bt_28 kx_0_0
            replace kx_0_1 := cell_below bt_28 kx_0_1
            replace kx_0_2 := cell_below bt_28 kx_0_2
            replace kx_0_3 := cell_below bt_28 kx_0_3
            replace kx_0_4 := cell_below bt_28 kx_0_4
            replace kx_0_5 := cell_below bt_28 kx_0_5
            replace kx_0_6 := cell_below bt_28 kx_0_6
            replace kx_0_7 := cell_below bt_28 kx_0_7
            replace kx_0_8 := cell_below bt_28 kx_0_8
            clear bt_28
            replace H := app_hid H
            replace H := join_hid H
            cases t_28 with
            | false =>
              replace H := ite_f H
              replace H := app_hid H
              replace H := join_hid H
              replace H := ite_f H
              replace H := app_hid H
              replace H := join_hid H
              replace H := ite_f H
              replace H := app_hid H
              replace H := join_hid H
              replace H := ite_f H
              replace H := app_hid H
              replace H := join_hid H
              replace H := ite_f H
              replace H := app_hid H
              obtain rfl := ret_hid H
              go_wp2_with fail
              go_ret
              exact ⟨rfl, HBwt_28.out⟩
            | true =>
              replace H := ite_t H
              replace H := bind_hid H
              obtain ⟨t_33, qt_33, H⟩ := H
              go_wp2_with fail
              go_at_call 83
              refine (Go.Proofs.Ytlljmgphgmklcaa.GiIsPostOffice.C (x_to_)  _    qt_33).mono ?_
              rintro e_t_33 wt_33 ⟨rfl, bt_33⟩
              have HBwt_33 := Lib.hid (Below.step HBwt_28.out bt_33)
              replace kx_0_0 := cell_below bt_33 kx_0_0
              replace kx_0_1 := cell_below bt_33 kx_0_1
              replace kx_0_2 := cell_below bt_33 kx_0_2
              replace kx_0_3 := cell_below bt_33 kx_0_3
              replace kx_0_4 := cell_below bt_33 kx_0_4
              replace kx_0_5 := cell_below bt_33 kx_0_5
              replace kx_0_6 := cell_below bt_33 kx_0_6
              replace kx_0_7 := cell_below bt_33 kx_0_7
              replace kx_0_8 := cell_below bt_33 kx_0_8
              clear bt_33
              replace H := app_hid H
              replace H := join_hid H
              cases t_33 with
              | false =>
                replace H := ite_f H
                replace H := app_hid H
                replace H := join_hid H
                replace H := ite_f H
                replace H := app_hid H
                replace H := join_hid H
                replace H := ite_f H
                replace H := app_hid H
                replace H := join_hid H
                replace H := ite_f H
                replace H := app_hid H
                obtain rfl := ret_hid H
                go_wp2_with fail
                go_ret
                exact ⟨rfl, HBwt_33.out⟩
              | true =>
                replace H := ite_t H
                replace H := let_hid H
                obtain ⟨t_40, ht_40, H⟩ := H
                replace H := app_hid H
                replace H := join_hid H
                cases t_40 with
                | false =>
                  replace H := ite_f H
                  replace H := app_hid H
                  replace H := join_hid H
                  replace H := ite_f H
                  replace H := app_hid H
                  replace H := join_hid H
                  replace H := ite_f H
                  replace H := app_hid H
                  obtain rfl := ret_hid H
                  go_wp2_with fail
                  go_ret
                  exact ⟨rfl, HBwt_33.out⟩
                | true =>
                  replace H := ite_t H
                  replace H := bind_hid H
                  obtain ⟨t_45, qt_45, H⟩ := H
                  go_wp2_with fail
                  go_at_call 84
                  refine (Go.Proofs.Ytlljmgphgmklcaa.GiIsMinute.C (x_leave)  _    qt_45).mono ?_
                  rintro e_t_45 wt_45 ⟨rfl, bt_45⟩
                  have HBwt_45 := Lib.hid (Below.step HBwt_33.out bt_45)
                  replace kx_0_0 := cell_below bt_45 kx_0_0
                  replace kx_0_1 := cell_below bt_45 kx_0_1
                  replace kx_0_2 := cell_below bt_45 kx_0_2
                  replace kx_0_3 := cell_below bt_45 kx_0_3
                  replace kx_0_4 := cell_below bt_45 kx_0_4
                  replace kx_0_5 := cell_below bt_45 kx_0_5
                  replace kx_0_6 := cell_below bt_45 kx_0_6
                  replace kx_0_7 := cell_below bt_45 kx_0_7
                  replace kx_0_8 := cell_below bt_45 kx_0_8
                  clear bt_45
                  replace H := app_hid H
                  replace H := join_hid H
                  cases t_45 with
                  | false =>
                    replace H := ite_f H
                    replace H := app_hid H
                    replace H := join_hid H
                    replace H := ite_f H
                    replace H := app_hid H
                    obtain rfl := ret_hid H
                    go_wp2_with fail
                    go_ret
                    exact ⟨rfl, HBwt_45.out⟩
                  | true =>
                    replace H := ite_t H
                    replace H := bind_hid H
                    obtain ⟨t_50, qt_50, H⟩ := H
                    go_wp2_with fail
                    go_at_call 84
                    refine (Go.Proofs.Ytlljmgphgmklcaa.GiIsMinute.C (x_arrive)  _    qt_50).mono ?_
                    rintro e_t_50 wt_50 ⟨rfl, bt_50⟩
                    have HBwt_50 := Lib.hid (Below.step HBwt_45.out bt_50)
                    replace kx_0_0 := cell_below bt_50 kx_0_0
                    replace kx_0_1 := cell_below bt_50 kx_0_1
                    replace kx_0_2 := cell_below bt_50 kx_0_2
                    replace kx_0_3 := cell_below bt_50 kx_0_3
                    replace kx_0_4 := cell_below bt_50 kx_0_4
                    replace kx_0_5 := cell_below bt_50 kx_0_5
                    replace kx_0_6 := cell_below bt_50 kx_0_6
                    replace kx_0_7 := cell_below bt_50 kx_0_7
                    replace kx_0_8 := cell_below bt_50 kx_0_8
                    clear bt_50
                    replace H := app_hid H
                    replace H := join_hid H
                    cases t_50 with
                    | false =>
                      replace H := ite_f H
                      replace H := app_hid H
                      obtain rfl := ret_hid H
                      go_wp2_with fail
                      go_ret
                      exact ⟨rfl, HBwt_50.out⟩
                    | true =>
                      replace H := ite_t H
                      replace H := let_hid H
                      obtain ⟨t_57, ht_57, H⟩ := H
                      replace H := app_hid H
                      obtain rfl := ret_hid H
                      go_wp2_with fail
                      go_ret
                      exact ⟨rfl, HBwt_50.out⟩
end Go.Proofs.Ytlljmgphgmklcaa.GiIsCover

/- loop.example/g01062/impl.idOfCover as a plain function, and the contract of the program's: where the plain one has an answer, the program has it. Conditions: slices read as lists. -/
namespace Go.Proofs.Ytlljmgphgmklcaa.GiIdOfCover
set_option linter.unusedVariables false
set_option linter.unusedSimpArgs false
open Go.RowKit
open Go.Proofs.Ytlljmgphgmklcaa.Rowed Go.Proofs.Ytlljmgphgmklcaa.Turn Go.Proofs.Ytlljmgphgmklcaa.Aid Go.Proofs.Ytlljmgphgmklcaa.GoP Go.Proofs.Ytlljmgphgmklcaa.GoM

def P (x : Go.Proofs.Ytlljmgphgmklcaa.PCover.Cover) : Option (Int) :=
  unCover x fun (x_id : Int) (x_day : Int) (x_zone : Int) (x_grams : Int) (x_paid : Int) (x_from_ : Int) (x_to_ : Int) (x_leave : Int) (x_arrive : Int) =>
  some x_id

set_option maxRecDepth 100000 in
set_option maxHeartbeats 2000000 in
theorem C (x : Go.Proofs.Ytlljmgphgmklcaa.PCover.Cover)   (w : World)   {r : Int} (H : Hid (P x = some r)) :
    Calls Try.prog 87 #[x.val] w (Gives (.int .i64 r) w) := by
  have HB := Lib.hid (Below.refl w.heap.size w)
  unfold P at H
  obtain ⟨x_id, x_day, x_zone, x_grams, x_paid, x_from_, x_to_, x_leave, x_arrive⟩ := x
  replace H := unCover_hid H
  unfold Go.Proofs.Ytlljmgphgmklcaa.PCover.Cover.val
  go_enter Try.func87, Try.ntmps87
  obtain ⟨w_x_0, hw_x_0⟩ : ∃ x, w.alloc (.cells #[.int .i64 x_id, .int .i64 x_day, .int .i64 x_zone, .int .i64 x_grams, .int .i64 x_paid, .int .i64 x_from_, .int .i64 x_to_, .int .i64 x_leave, .int .i64 x_arrive] 25) = x := ⟨_, rfl⟩
  have bw_x_0 : Below w.heap.size w w_x_0 := by rw [← hw_x_0]; exact (Below.refl _ _).alloc (Nat.le_refl _) _
  have HBw_x_0 := Lib.hid (Below.step HB.out bw_x_0)
  clear bw_x_0
  have kx_0_0 : w_x_0.cell? ⟨w.heap.size, 0, none⟩ = some (.int .i64 x_id) := by rw [← hw_x_0]; exact box_new _ _ _ 0 _ rfl
  have kx_0_1 : w_x_0.cell? ⟨w.heap.size, 1, none⟩ = some (.int .i64 x_day) := by rw [← hw_x_0]; exact box_new _ _ _ 1 _ rfl
  have kx_0_2 : w_x_0.cell? ⟨w.heap.size, 2, none⟩ = some (.int .i64 x_zone) := by rw [← hw_x_0]; exact box_new _ _ _ 2 _ rfl
  have kx_0_3 : w_x_0.cell? ⟨w.heap.size, 3, none⟩ = some (.int .i64 x_grams) := by rw [← hw_x_0]; exact box_new _ _ _ 3 _ rfl
  have kx_0_4 : w_x_0.cell? ⟨w.heap.size, 4, none⟩ = some (.int .i64 x_paid) := by rw [← hw_x_0]; exact box_new _ _ _ 4 _ rfl
  have kx_0_5 : w_x_0.cell? ⟨w.heap.size, 5, none⟩ = some (.int .i64 x_from_) := by rw [← hw_x_0]; exact box_new _ _ _ 5 _ rfl
  have kx_0_6 : w_x_0.cell? ⟨w.heap.size, 6, none⟩ = some (.int .i64 x_to_) := by rw [← hw_x_0]; exact box_new _ _ _ 6 _ rfl
  have kx_0_7 : w_x_0.cell? ⟨w.heap.size, 7, none⟩ = some (.int .i64 x_leave) := by rw [← hw_x_0]; exact box_new _ _ _ 7 _ rfl
  have kx_0_8 : w_x_0.cell? ⟨w.heap.size, 8, none⟩ = some (.int .i64 x_arrive) := by rw [← hw_x_0]; exact box_new _ _ _ 8 _ rfl
  obtain rfl := ret_hid H
  go_wp2_with fail
  go_ret
  exact ⟨rfl, HBw_x_0.out⟩
end Go.Proofs.Ytlljmgphgmklcaa.GiIdOfCover

/- loop.example/g01062/impl.areByKey[loop.example/g01062/impl.Cover,int] as a plain function, and the contract of the program's: where the plain one has an answer, the program has it. Conditions: slices read as lists. -/
namespace Go.Proofs.Ytlljmgphgmklcaa.GiAreByKeyCoverIntiIsCoveriIdOfCover
set_option linter.unusedVariables false
set_option linter.unusedSimpArgs false
open Go.RowKit
open Go.Proofs.Ytlljmgphgmklcaa.Rowed Go.Proofs.Ytlljmgphgmklcaa.Turn Go.Proofs.Ytlljmgphgmklcaa.Aid Go.Proofs.Ytlljmgphgmklcaa.GoP Go.Proofs.Ytlljmgphgmklcaa.GoM

def l0 (list : (List Go.Proofs.Ytlljmgphgmklcaa.PCover.Cover)) (k0 : Nat) (s : Unit) (nx0 bk0 : Unit → Option (Bool)) : Option (Bool) :=
  
  Option.bind (idx list (k0 : Int)) fun (yt_11 : Go.Proofs.Ytlljmgphgmklcaa.PCover.Cover) =>
  unCover yt_11 fun (t_11_id : Int) (t_11_day : Int) (t_11_zone : Int) (t_11_grams : Int) (t_11_paid : Int) (t_11_from_ : Int) (t_11_to_ : Int) (t_11_leave : Int) (t_11_arrive : Int) =>
  Option.bind (Go.Proofs.Ytlljmgphgmklcaa.GiIsCover.P (Go.Proofs.Ytlljmgphgmklcaa.PCover.Cover.mk t_11_id t_11_day t_11_zone t_11_grams t_11_paid t_11_from_ t_11_to_ t_11_leave t_11_arrive)) fun (t_18 : Bool) =>
  letK (!t_18) fun (t_19 : Bool) =>
  joinK (fun (t_36 : Bool) =>
  iteK t_36
  (some false)
  (appK nx0 ())) fun jt_36 => iteK t_19 (appK jt_36 true) (letK (decide (0 < (k0 : Int))) fun (t_22 : Bool) =>
  joinK (fun (t_35 : Bool) =>
  appK jt_36 t_35) fun jt_35 => iteK t_22 (Option.bind (Go.Proofs.Ytlljmgphgmklcaa.GiIdOfCover.P (Go.Proofs.Ytlljmgphgmklcaa.PCover.Cover.mk t_11_id t_11_day t_11_zone t_11_grams t_11_paid t_11_from_ t_11_to_ t_11_leave t_11_arrive)) fun (t_26 : Int) =>
  letK (IntKind.i64.wrap ((k0 : Int) - 1)) fun (t_30 : Int) =>
  Option.bind (idx list t_30) fun (yt_31 : Go.Proofs.Ytlljmgphgmklcaa.PCover.Cover) =>
  unCover yt_31 fun (t_31_id : Int) (t_31_day : Int) (t_31_zone : Int) (t_31_grams : Int) (t_31_paid : Int) (t_31_from_ : Int) (t_31_to_ : Int) (t_31_leave : Int) (t_31_arrive : Int) =>
  Option.bind (Go.Proofs.Ytlljmgphgmklcaa.GiIdOfCover.P (Go.Proofs.Ytlljmgphgmklcaa.PCover.Cover.mk t_31_id t_31_day t_31_zone t_31_grams t_31_paid t_31_from_ t_31_to_ t_31_leave t_31_arrive)) fun (t_33 : Int) =>
  letK (decide (t_26 ≤ t_33)) fun (t_34 : Bool) =>
  appK jt_35 t_34) (appK jt_35 false))

def e0  (s : Unit) : Option (Bool) :=
  
  some true

def P (list : (List Go.Proofs.Ytlljmgphgmklcaa.PCover.Cover)) (most : Int) : Option (Bool) :=
  letK (decide (most < (list.length : Int))) fun (t_4 : Bool) =>
  iteK t_4
  (some false)
  (cntK (l0 list) (list.length) 0 () (e0 ))

set_option maxRecDepth 100000 in
set_option maxHeartbeats 2000000 in
theorem C (list : (List Go.Proofs.Ytlljmgphgmklcaa.PCover.Cover)) (most : Int) (A0 : Option Addr) (c0 : Nat)  (w : World) (M0 : Hid (Cells w 9 A0 list.length (Go.Proofs.Ytlljmgphgmklcaa.PCover.flat list))) (N0 : Hid (list.length ≤ 9223372036854775807))  {r : Bool} (H : Hid (P list most = some r)) :
    Calls Try.prog 86 #[.slice A0 list.length c0, .int .i64 most, .func (.func 18) #[] #[], .func (.func 87) #[] #[]] w (Gives (.bool r) w) := by
  have HB := Lib.hid (Below.refl w.heap.size w)
  unfold P at H
  have N0o := N0.out
  go_enter Try.func86, Try.ntmps86
  replace H := let_hid H
  obtain ⟨t_4, ht_4, H⟩ := H
  cases t_4 with
  | false =>
    replace H := ite_f H
    go_wp2_with fail
    go_loopg [17] (list.length) (fun m_ v17_ wr => ∃ (k0 : Nat) , k0 + m_ = list.length ∧ v17_ = .int .i64 (k0 : Int) ∧ Hid (cntK (l0 list) m_ k0 () (e0 ) = some r) ∧ Hid (Below w.heap.size w wr))
    case atStart => exact ⟨0, by omega, rfl, H, HB⟩
    case round =>
      obtain ⟨k0, hkm0, rfl, H, HBwr0⟩ := hrel
      rename World => wr0
      cases gk with
      | zero =>
        obtain rfl : k0 = list.length := by omega
        have hc0 : decide (((list.length : Nat) : Int) < ((list.length : Nat) : Int)) = false := by simp
        replace H := cnt_zero H
        unfold e0 at H
        obtain rfl := ret_hid H
        go_wp2_with fail
        go_ret
        exact ⟨rfl, HBwr0.out⟩
      | succ m0 =>
        have hlt0 : k0 < list.length := by omega
        have hc0 : decide ((k0 : Int) < ((list.length : Nat) : Int)) = true := by simp; omega
        replace H := cnt_succ H
        unfold l0 at H
        replace H := idx_hid H
        obtain ⟨nt_11, yt_11, et_11, lt_11, gt_11, H⟩ := H
        obtain rfl : k0 = nt_11 := by omega
        clear et_11
        obtain ⟨t_11_id, t_11_day, t_11_zone, t_11_grams, t_11_paid, t_11_from_, t_11_to_, t_11_leave, t_11_arrive⟩ := yt_11
        replace H := unCover_hid H
        obtain ⟨ab_t_11, ao_t_11, zt_11, At_11, z_t_11, ct_11_0, ct_11_1, ct_11_2, ct_11_3, ct_11_4, ct_11_5, ct_11_6, ct_11_7, ct_11_8⟩ := Go.Proofs.Ytlljmgphgmklcaa.OCover.at_ M0.out lt_11
        obtain rfl := Option.some.inj (gt_11.out.symm.trans z_t_11)
        subst At_11
        have ltt_11 := cell_lt ct_11_0
        replace ct_11_0 := cell_below HBwr0.out ct_11_0
        replace ct_11_1 := cell_below HBwr0.out ct_11_1
        replace ct_11_2 := cell_below HBwr0.out ct_11_2
        replace ct_11_3 := cell_below HBwr0.out ct_11_3
        replace ct_11_4 := cell_below HBwr0.out ct_11_4
        replace ct_11_5 := cell_below HBwr0.out ct_11_5
        replace ct_11_6 := cell_below HBwr0.out ct_11_6
        replace ct_11_7 := cell_below HBwr0.out ct_11_7
        replace ct_11_8 := cell_below HBwr0.out ct_11_8
        clear z_t_11
        have b0t_11 : (0 : Int) ≤ (k0 : Int) := by omega
        have b1t_11 : (k0 : Int) < ((list.length : Nat) : Int) := by omega
        have b2t_11 : ((k0 : Int)).toNat = k0 := by omega
        obtain ⟨w_e_13, hw_e_13⟩ : ∃ x, wr0.alloc (.cells #[.int .i64 t_11_id, .int .i64 t_11_day, .int .i64 t_11_zone, .int .i64 t_11_grams, .int .i64 t_11_paid, .int .i64 t_11_from_, .int .i64 t_11_to_, .int .i64 t_11_leave, .int .i64 t_11_arrive] 25) = x := ⟨_, rfl⟩
        have bw_e_13 : Below wr0.heap.size wr0 w_e_13 := by rw [← hw_e_13]; exact (Below.refl _ _).alloc (Nat.le_refl _) _
        have HBw_e_13 := Lib.hid (Below.step HBwr0.out bw_e_13)
        have ct_11_0__464 := cell_below bw_e_13 ct_11_0
        have ct_11_1__465 := cell_below bw_e_13 ct_11_1
        have ct_11_2__466 := cell_below bw_e_13 ct_11_2
        have ct_11_3__467 := cell_below bw_e_13 ct_11_3
        have ct_11_4__468 := cell_below bw_e_13 ct_11_4
        have ct_11_5__469 := cell_below bw_e_13 ct_11_5
        have ct_11_6__470 := cell_below bw_e_13 ct_11_6
        have ct_11_7__471 := cell_below bw_e_13 ct_11_7
        have ct_11_8__472 := cell_below bw_e_13 ct_11_8
        clear bw_e_13
        have ke_13_0 : w_e_13.cell? ⟨wr0.heap.size, 0, none⟩ = some (.int .i64 t_11_id) := by rw [← hw_e_13]; exact box_new _ _ _ 0 _ rfl
        have ke_13_1 : w_e_13.cell? ⟨wr0.heap.size, 1, none⟩ = some (.int .i64 t_11_day) := by rw [← hw_e_13]; exact box_new _ _ _ 1 _ rfl
        have ke_13_2 : w_e_13.cell? ⟨wr0.heap.size, 2, none⟩ = some (.int .i64 t_11_zone) := by rw [← hw_e_13]; exact box_new _ _ _ 2 _ rfl
        have ke_13_3 : w_e_13.cell? ⟨wr0.heap.size, 3, none⟩ = some (.int .i64 t_11_grams) := by rw [← hw_e_13]; exact box_new _ _ _ 3 _ rfl
        have ke_13_4 : w_e_13.cell? ⟨wr0.heap.size, 4, none⟩ = some (.int .i64 t_11_paid) := by rw [← hw_e_13]; exact box_new _ _ _ 4 _ rfl
        have ke_13_5 : w_e_13.cell? ⟨wr0.heap.size, 5, none⟩ = some (.int .i64 t_11_from_) := by rw [← hw_e_13]; exact box_new _ _ _ 5 _ rfl
        have ke_13_6 : w_e_13.cell? ⟨wr0.heap.size, 6, none⟩ = some (.int .i64 t_11_to_) := by rw [← hw_e_13]; exact box_new _ _ _ 6 _ rfl
        have ke_13_7 : w_e_13.cell? ⟨wr0.heap.size, 7, none⟩ = some (.int .i64 t_11_leave) := by rw [← hw_e_13]; exact box_new _ _ _ 7 _ rfl
        have ke_13_8 : w_e_13.cell? ⟨wr0.heap.size, 8, none⟩ = some (.int .i64 t_11_arrive) := by rw [← hw_e_13]; exact box_new _ _ _ 8 _ rfl
        go_wp2_with fail
        clear ct_11_0 ct_11_1 ct_11_2 ct_11_3 ct_11_4 ct_11_5 ct_11_6 ct_11_7 ct_11_8
        have Hct_11_0__464 := Lib.hid ct_11_0__464
        replace ct_11_0__464 := cell_regrown ct_11_0__464
        have Hct_11_1__465 := Lib.hid ct_11_1__465
        replace ct_11_1__465 := cell_regrown ct_11_1__465
        have Hct_11_2__466 := Lib.hid ct_11_2__466
        replace ct_11_2__466 := cell_regrown ct_11_2__466
        have Hct_11_3__467 := Lib.hid ct_11_3__467
        replace ct_11_3__467 := cell_regrown ct_11_3__467
        have Hct_11_4__468 := Lib.hid ct_11_4__468
        replace ct_11_4__468 := cell_regrown ct_11_4__468
        have Hct_11_5__469 := Lib.hid ct_11_5__469
        replace ct_11_5__469 := cell_regrown ct_11_5__469
        have Hct_11_6__470 := Lib.hid ct_11_6__470
        replace ct_11_6__470 := cell_regrown ct_11_6__470
        have Hct_11_7__471 := Lib.hid ct_11_7__471
        replace ct_11_7__471 := cell_regrown ct_11_7__471
        have Hct_11_8__472 := Lib.hid ct_11_8__472
        replace ct_11_8__472 := cell_regrown ct_11_8__472
        have Hke_13_0 := Lib.hid ke_13_0
        replace ke_13_0 := cell_regrown ke_13_0
        have Hke_13_1 := Lib.hid ke_13_1
        replace ke_13_1 := cell_regrown ke_13_1
        have Hke_13_2 := Lib.hid ke_13_2
        replace ke_13_2 := cell_regrown ke_13_2
        have Hke_13_3 := Lib.hid ke_13_3
        replace ke_13_3 := cell_regrown ke_13_3
        have Hke_13_4 := Lib.hid ke_13_4
        replace ke_13_4 := cell_regrown ke_13_4
        have Hke_13_5 := Lib.hid ke_13_5
        replace ke_13_5 := cell_regrown ke_13_5
        have Hke_13_6 := Lib.hid ke_13_6
        replace ke_13_6 := cell_regrown ke_13_6
        have Hke_13_7 := Lib.hid ke_13_7
        replace ke_13_7 := cell_regrown ke_13_7
        have Hke_13_8 := Lib.hid ke_13_8
        replace ke_13_8 := cell_regrown ke_13_8
        replace H := bind_hid H
        obtain ⟨t_18, qt_18, H⟩ := H
        have nt_18 : ∀ d os, Calls Try.prog 18 #[.agg #[.int .i64 t_11_id, .int .i64 t_11_day, .int .i64 t_11_zone, .int .i64 t_11_grams, .int .i64 t_11_paid, .int .i64 t_11_from_, .int .i64 t_11_to_, .int .i64 t_11_leave, .int .i64 t_11_arrive]] (Go.Sort.grow (redrawn w_e_13 d) os) fun e w'' => e = .returned (.bool t_18) ∧ ∃ p : Regrown, w'' = Go.Sort.grow (redrawn w_e_13 p.d) p.os := fun d os => Calls.regrown_of (Go.Proofs.Ytlljmgphgmklcaa.GiIsCover.C ((Go.Proofs.Ytlljmgphgmklcaa.PCover.Cover.mk t_11_id t_11_day t_11_zone t_11_grams t_11_paid t_11_from_ t_11_to_ t_11_leave t_11_arrive))  _    qt_18)
        cases t_18 with
        | false =>
          replace H := let_hid H
          obtain ⟨t_19, ht_19, H⟩ := H
          obtain rfl : t_19 = true := ht_19.symm
          replace H := join_hid H
          replace H := ite_t H
          replace H := app_hid H
          refine wp_region_quiet_below (by kernel_rfl) (by kernel_rfl) ?_
          repeat (go_big_quiet_step (first | (go_at_call 18; exact nt_18 _ _)))
          refine wpQuiet_nil ?_
          intro Y6 hY6
          replace hY6 := below_class hY6
          clear nt_18
          replace ct_11_0__464 := Hct_11_0__464.out
          clear Hct_11_0__464
          replace ct_11_1__465 := Hct_11_1__465.out
          clear Hct_11_1__465
          replace ct_11_2__466 := Hct_11_2__466.out
          clear Hct_11_2__466
          replace ct_11_3__467 := Hct_11_3__467.out
          clear Hct_11_3__467
          replace ct_11_4__468 := Hct_11_4__468.out
          clear Hct_11_4__468
          replace ct_11_5__469 := Hct_11_5__469.out
          clear Hct_11_5__469
          replace ct_11_6__470 := Hct_11_6__470.out
          clear Hct_11_6__470
          replace ct_11_7__471 := Hct_11_7__471.out
          clear Hct_11_7__471
          replace ct_11_8__472 := Hct_11_8__472.out
          clear Hct_11_8__472
          replace ke_13_0 := Hke_13_0.out
          clear Hke_13_0
          replace ke_13_1 := Hke_13_1.out
          clear Hke_13_1
          replace ke_13_2 := Hke_13_2.out
          clear Hke_13_2
          replace ke_13_3 := Hke_13_3.out
          clear Hke_13_3
          replace ke_13_4 := Hke_13_4.out
          clear Hke_13_4
          replace ke_13_5 := Hke_13_5.out
          clear Hke_13_5
          replace ke_13_6 := Hke_13_6.out
          clear Hke_13_6
          replace ke_13_7 := Hke_13_7.out
          clear Hke_13_7
          replace ke_13_8 := Hke_13_8.out
          clear Hke_13_8
          have HBY6 := Lib.hid (Below.step HBw_e_13.out hY6)
          replace ct_11_0__464 := cell_below hY6 ct_11_0__464
          replace ct_11_1__465 := cell_below hY6 ct_11_1__465
          replace ct_11_2__466 := cell_below hY6 ct_11_2__466
          replace ct_11_3__467 := cell_below hY6 ct_11_3__467
          replace ct_11_4__468 := cell_below hY6 ct_11_4__468
          replace ct_11_5__469 := cell_below hY6 ct_11_5__469
          replace ct_11_6__470 := cell_below hY6 ct_11_6__470
          replace ct_11_7__471 := cell_below hY6 ct_11_7__471
          replace ct_11_8__472 := cell_below hY6 ct_11_8__472
          replace ke_13_0 := cell_below hY6 ke_13_0
          replace ke_13_1 := cell_below hY6 ke_13_1
          replace ke_13_2 := cell_below hY6 ke_13_2
          replace ke_13_3 := cell_below hY6 ke_13_3
          replace ke_13_4 := cell_below hY6 ke_13_4
          replace ke_13_5 := cell_below hY6 ke_13_5
          replace ke_13_6 := cell_below hY6 ke_13_6
          replace ke_13_7 := cell_below hY6 ke_13_7
          replace ke_13_8 := cell_below hY6 ke_13_8
          clear hY6
          replace H := ite_t H
          obtain rfl := ret_hid H
          go_wp2_with fail
          go_ret
          exact ⟨rfl, HBY6.out⟩
        | true =>
          replace H := let_hid H
          obtain ⟨t_19, ht_19, H⟩ := H
          obtain rfl : t_19 = false := ht_19.symm
          replace H := join_hid H
          replace H := ite_f H
          replace H := let_hid H
          obtain ⟨t_22, ht_22, H⟩ := H
          replace H := join_hid H
          cases t_22 with
          | false =>
            have nht_22 : ¬ (0 < k0) := by have := of_decide_eq_false ht_22; omega
            replace H := ite_f H
            replace H := app_hid H
            replace H := app_hid H
            refine wp_region_quiet_below (by kernel_rfl) (by kernel_rfl) ?_
            repeat (go_big_quiet_step (first | (go_at_call 18; exact nt_18 _ _)))
            refine wpQuiet_nil ?_
            intro Y6 hY6
            replace hY6 := below_class hY6
            clear nt_18
            replace ct_11_0__464 := Hct_11_0__464.out
            clear Hct_11_0__464
            replace ct_11_1__465 := Hct_11_1__465.out
            clear Hct_11_1__465
            replace ct_11_2__466 := Hct_11_2__466.out
            clear Hct_11_2__466
            replace ct_11_3__467 := Hct_11_3__467.out
            clear Hct_11_3__467
            replace ct_11_4__468 := Hct_11_4__468.out
            clear Hct_11_4__468
            replace ct_11_5__469 := Hct_11_5__469.out
            clear Hct_11_5__469
            replace ct_11_6__470 := Hct_11_6__470.out
            clear Hct_11_6__470
            replace ct_11_7__471 := Hct_11_7__471.out
            clear Hct_11_7__471
            replace ct_11_8__472 := Hct_11_8__472.out
            clear Hct_11_8__472
            replace ke_13_0 := Hke_13_0.out
            clear Hke_13_0
            replace ke_13_1 := Hke_13_1.out
            clear Hke_13_1
            replace ke_13_2 := Hke_13_2.out
            clear Hke_13_2
            replace ke_13_3 := Hke_13_3.out
            clear Hke_13_3
            replace ke_13_4 := Hke_13_4.out
            clear Hke_13_4
            replace ke_13_5 := Hke_13_5.out
            clear Hke_13_5
            replace ke_13_6 := Hke_13_6.out
            clear Hke_13_6
            replace ke_13_7 := Hke_13_7.out
            clear Hke_13_7
            replace ke_13_8 := Hke_13_8.out
            clear Hke_13_8
            have HBY6 := Lib.hid (Below.step HBw_e_13.out hY6)
            replace ct_11_0__464 := cell_below hY6 ct_11_0__464
            replace ct_11_1__465 := cell_below hY6 ct_11_1__465
            replace ct_11_2__466 := cell_below hY6 ct_11_2__466
            replace ct_11_3__467 := cell_below hY6 ct_11_3__467
            replace ct_11_4__468 := cell_below hY6 ct_11_4__468
            replace ct_11_5__469 := cell_below hY6 ct_11_5__469
            replace ct_11_6__470 := cell_below hY6 ct_11_6__470
            replace ct_11_7__471 := cell_below hY6 ct_11_7__471
            replace ct_11_8__472 := cell_below hY6 ct_11_8__472
            replace ke_13_0 := cell_below hY6 ke_13_0
            replace ke_13_1 := cell_below hY6 ke_13_1
            replace ke_13_2 := cell_below hY6 ke_13_2
            replace ke_13_3 := cell_below hY6 ke_13_3
            replace ke_13_4 := cell_below hY6 ke_13_4
            replace ke_13_5 := cell_below hY6 ke_13_5
            replace ke_13_6 := cell_below hY6 ke_13_6
            replace ke_13_7 := cell_below hY6 ke_13_7
            replace ke_13_8 := cell_below hY6 ke_13_8
            clear hY6
            replace H := ite_f H
            replace H := app_hid H
            go_wp2_with fail
            go_roundg m0
            case measure => omega
            case rel => exact ⟨k0 + 1, by omega, by go_num, H, HBY6⟩
          | true =>
            have nht_22 : 0 < k0 := by have := of_decide_eq_true ht_22; omega
            replace H := ite_t H
            replace H := bind_hid H
            obtain ⟨t_26, qt_26, H⟩ := H
            have nt_26 : ∀ d os, Calls Try.prog 87 #[.agg #[.int .i64 t_11_id, .int .i64 t_11_day, .int .i64 t_11_zone, .int .i64 t_11_grams, .int .i64 t_11_paid, .int .i64 t_11_from_, .int .i64 t_11_to_, .int .i64 t_11_leave, .int .i64 t_11_arrive]] (Go.Sort.grow (redrawn w_e_13 d) os) fun e w'' => e = .returned (.int .i64 t_26) ∧ ∃ p : Regrown, w'' = Go.Sort.grow (redrawn w_e_13 p.d) p.os := fun d os => Calls.regrown_of (Go.Proofs.Ytlljmgphgmklcaa.GiIdOfCover.C ((Go.Proofs.Ytlljmgphgmklcaa.PCover.Cover.mk t_11_id t_11_day t_11_zone t_11_grams t_11_paid t_11_from_ t_11_to_ t_11_leave t_11_arrive))  _    qt_26)
            replace H := let_hid H
            obtain ⟨t_30, ht_30, H⟩ := H
            replace H := idx_hid H
            obtain ⟨nt_31, yt_31, et_31, lt_31, gt_31, H⟩ := H
            subst et_31
            obtain ⟨t_31_id, t_31_day, t_31_zone, t_31_grams, t_31_paid, t_31_from_, t_31_to_, t_31_leave, t_31_arrive⟩ := yt_31
            replace H := unCover_hid H
            obtain ⟨ab_t_31, ao_t_31, zt_31, At_31, z_t_31, ct_31_0, ct_31_1, ct_31_2, ct_31_3, ct_31_4, ct_31_5, ct_31_6, ct_31_7, ct_31_8⟩ := Go.Proofs.Ytlljmgphgmklcaa.OCover.at_ M0.out lt_31
            obtain rfl := Option.some.inj (gt_31.out.symm.trans z_t_31)
            simp only [Option.some.injEq, Addr.mk.injEq] at At_31
            obtain ⟨rfl, rfl, _⟩ := At_31
            have ltt_31 := cell_lt ct_31_0
            replace ct_31_0 := cell_below HBw_e_13.out ct_31_0
            replace ct_31_1 := cell_below HBw_e_13.out ct_31_1
            replace ct_31_2 := cell_below HBw_e_13.out ct_31_2
            replace ct_31_3 := cell_below HBw_e_13.out ct_31_3
            replace ct_31_4 := cell_below HBw_e_13.out ct_31_4
            replace ct_31_5 := cell_below HBw_e_13.out ct_31_5
            replace ct_31_6 := cell_below HBw_e_13.out ct_31_6
            replace ct_31_7 := cell_below HBw_e_13.out ct_31_7
            replace ct_31_8 := cell_below HBw_e_13.out ct_31_8
            clear z_t_31
            have b0t_31 : (0 : Int) ≤ (nt_31 : Int) := by omega
            have b1t_31 : (nt_31 : Int) < ((list.length : Nat) : Int) := by omega
            have b2t_31 : ((nt_31 : Int)).toNat = nt_31 := by omega
            have Hct_31_0 := Lib.hid ct_31_0
            replace ct_31_0 := cell_regrown ct_31_0
            have Hct_31_1 := Lib.hid ct_31_1
            replace ct_31_1 := cell_regrown ct_31_1
            have Hct_31_2 := Lib.hid ct_31_2
            replace ct_31_2 := cell_regrown ct_31_2
            have Hct_31_3 := Lib.hid ct_31_3
            replace ct_31_3 := cell_regrown ct_31_3
            have Hct_31_4 := Lib.hid ct_31_4
            replace ct_31_4 := cell_regrown ct_31_4
            have Hct_31_5 := Lib.hid ct_31_5
            replace ct_31_5 := cell_regrown ct_31_5
            have Hct_31_6 := Lib.hid ct_31_6
            replace ct_31_6 := cell_regrown ct_31_6
            have Hct_31_7 := Lib.hid ct_31_7
            replace ct_31_7 := cell_regrown ct_31_7
            have Hct_31_8 := Lib.hid ct_31_8
            replace ct_31_8 := cell_regrown ct_31_8
            replace H := bind_hid H
            obtain ⟨t_33, qt_33, H⟩ := H
            have nt_33 : ∀ d os, Calls Try.prog 87 #[.agg #[.int .i64 t_31_id, .int .i64 t_31_day, .int .i64 t_31_zone, .int .i64 t_31_grams, .int .i64 t_31_paid, .int .i64 t_31_from_, .int .i64 t_31_to_, .int .i64 t_31_leave, .int .i64 t_31_arrive]] (Go.Sort.grow (redrawn w_e_13 d) os) fun e w'' => e = .returned (.int .i64 t_33) ∧ ∃ p : Regrown, w'' = Go.Sort.grow (redrawn w_e_13 p.d) p.os := fun d os => Calls.regrown_of (Go.Proofs.Ytlljmgphgmklcaa.GiIdOfCover.C ((Go.Proofs.Ytlljmgphgmklcaa.PCover.Cover.mk t_31_id t_31_day t_31_zone t_31_grams t_31_paid t_31_from_ t_31_to_ t_31_leave t_31_arrive))  _    qt_33)
            replace H := let_hid H
            obtain ⟨t_34, ht_34, H⟩ := H
            replace H := app_hid H
            replace H := app_hid H
            refine wp_region_quiet_below (by kernel_rfl) (by kernel_rfl) ?_
            repeat (go_big_quiet_step (first | (go_at_call 87; with_reducible exact nt_26 _ _) | (go_at_call 87; with_reducible exact nt_33 _ _) | (go_at_call 18; exact nt_18 _ _) | (go_at_call 87; exact nt_26 _ _) | (go_at_call 87; exact nt_33 _ _)))
            refine wpQuiet_nil ?_
            intro Y6 hY6
            replace hY6 := below_class hY6
            clear nt_18 nt_26 nt_33
            replace ct_11_0__464 := Hct_11_0__464.out
            clear Hct_11_0__464
            replace ct_11_1__465 := Hct_11_1__465.out
            clear Hct_11_1__465
            replace ct_11_2__466 := Hct_11_2__466.out
            clear Hct_11_2__466
            replace ct_11_3__467 := Hct_11_3__467.out
            clear Hct_11_3__467
            replace ct_11_4__468 := Hct_11_4__468.out
            clear Hct_11_4__468
            replace ct_11_5__469 := Hct_11_5__469.out
            clear Hct_11_5__469
            replace ct_11_6__470 := Hct_11_6__470.out
            clear Hct_11_6__470
            replace ct_11_7__471 := Hct_11_7__471.out
            clear Hct_11_7__471
            replace ct_11_8__472 := Hct_11_8__472.out
            clear Hct_11_8__472
            replace ke_13_0 := Hke_13_0.out
            clear Hke_13_0
            replace ke_13_1 := Hke_13_1.out
            clear Hke_13_1
            replace ke_13_2 := Hke_13_2.out
            clear Hke_13_2
            replace ke_13_3 := Hke_13_3.out
            clear Hke_13_3
            replace ke_13_4 := Hke_13_4.out
            clear Hke_13_4
            replace ke_13_5 := Hke_13_5.out
            clear Hke_13_5
            replace ke_13_6 := Hke_13_6.out
            clear Hke_13_6
            replace ke_13_7 := Hke_13_7.out
            clear Hke_13_7
            replace ke_13_8 := Hke_13_8.out
            clear Hke_13_8
            replace ct_31_0 := Hct_31_0.out
            clear Hct_31_0
            replace ct_31_1 := Hct_31_1.out
            clear Hct_31_1
            replace ct_31_2 := Hct_31_2.out
            clear Hct_31_2
            replace ct_31_3 := Hct_31_3.out
            clear Hct_31_3
            replace ct_31_4 := Hct_31_4.out
            clear Hct_31_4
            replace ct_31_5 := Hct_31_5.out
            clear Hct_31_5
            replace ct_31_6 := Hct_31_6.out
            clear Hct_31_6
            replace ct_31_7 := Hct_31_7.out
            clear Hct_31_7
            replace ct_31_8 := Hct_31_8.out
            clear Hct_31_8
            have HBY6 := Lib.hid (Below.step HBw_e_13.out hY6)
            replace ct_11_0__464 := cell_below hY6 ct_11_0__464
            replace ct_11_1__465 := cell_below hY6 ct_11_1__465
            replace ct_11_2__466 := cell_below hY6 ct_11_2__466
            replace ct_11_3__467 := cell_below hY6 ct_11_3__467
            replace ct_11_4__468 := cell_below hY6 ct_11_4__468
            replace ct_11_5__469 := cell_below hY6 ct_11_5__469
            replace ct_11_6__470 := cell_below hY6 ct_11_6__470
            replace ct_11_7__471 := cell_below hY6 ct_11_7__471
            replace ct_11_8__472 := cell_below hY6 ct_11_8__472
            replace ke_13_0 := cell_below hY6 ke_13_0
            replace ke_13_1 := cell_below hY6 ke_13_1
            replace ke_13_2 := cell_below hY6 ke_13_2
            replace ke_13_3 := cell_below hY6 ke_13_3
            replace ke_13_4 := cell_below hY6 ke_13_4
            replace ke_13_5 := cell_below hY6 ke_13_5
            replace ke_13_6 := cell_below hY6 ke_13_6
            replace ke_13_7 := cell_below hY6 ke_13_7
            replace ke_13_8 := cell_below hY6 ke_13_8
            replace ct_31_0 := cell_below hY6 ct_31_0
            replace ct_31_1 := cell_below hY6 ct_31_1
            replace ct_31_2 := cell_below hY6 ct_31_2
            replace ct_31_3 := cell_below hY6 ct_31_3
            replace ct_31_4 := cell_below hY6 ct_31_4
            replace ct_31_5 := cell_below hY6 ct_31_5
            replace ct_31_6 := cell_below hY6 ct_31_6
            replace ct_31_7 := cell_below hY6 ct_31_7
            replace ct_31_8 := cell_below hY6 ct_31_8
            clear hY6
            cases t_34 with
            | false =>
              replace H := ite_f H
              replace H := app_hid H
              go_wp2_with fail
              go_roundg m0
              case measure => omega
              case rel => exact ⟨k0 + 1, by omega, by go_num, H, HBY6⟩
            | true =>
              replace H := ite_t H
              obtain rfl := ret_hid H
              go_wp2_with fail
              go_ret
              exact ⟨rfl, HBY6.out⟩
  | true =>
    replace H := ite_t H
    obtain rfl := ret_hid H
    go_wp2_with fail
    go_ret
    exact ⟨rfl, HB.out⟩
end Go.Proofs.Ytlljmgphgmklcaa.GiAreByKeyCoverIntiIsCoveriIdOfCover

/- loop.example/g01062/impl.AreCovers as a plain function, and the contract of the program's: where the plain one has an answer, the program has it. Conditions: slices read as lists. -/
namespace Go.Proofs.Ytlljmgphgmklcaa.GiAreCovers
set_option linter.unusedVariables false
set_option linter.unusedSimpArgs false
open Go.RowKit
open Go.Proofs.Ytlljmgphgmklcaa.Rowed Go.Proofs.Ytlljmgphgmklcaa.Turn Go.Proofs.Ytlljmgphgmklcaa.Aid Go.Proofs.Ytlljmgphgmklcaa.GoP Go.Proofs.Ytlljmgphgmklcaa.GoM

def P (list : (List Go.Proofs.Ytlljmgphgmklcaa.PCover.Cover)) : Option (Bool) :=
  Option.bind (Go.Proofs.Ytlljmgphgmklcaa.GiAreByKeyCoverIntiIsCoveriIdOfCover.P list 10) fun (t_2 : Bool) =>
  some t_2

set_option maxRecDepth 100000 in
set_option maxHeartbeats 2000000 in
theorem C (list : (List Go.Proofs.Ytlljmgphgmklcaa.PCover.Cover)) (A0 : Option Addr) (c0 : Nat)  (w : World) (M0 : Hid (Cells w 9 A0 list.length (Go.Proofs.Ytlljmgphgmklcaa.PCover.flat list))) (N0 : Hid (list.length ≤ 9223372036854775807))  {r : Bool} (H : Hid (P list = some r)) :
    Calls Try.prog 22 #[.slice A0 list.length c0] w (Gives (.bool r) w) := by
  have HB := Lib.hid (Below.refl w.heap.size w)
  unfold P at H
  have N0o := N0.out
  go_enter Try.func22, Try.ntmps22
  replace H := bind_hid H
  obtain ⟨t_2, qt_2, H⟩ := H
  go_wp2_with fail
  go_at_call 86
  refine (Go.Proofs.Ytlljmgphgmklcaa.GiAreByKeyCoverIntiIsCoveriIdOfCover.C (list) (10) A0 c0 _   (Lib.hid (Cells.below M0.out HB.out)) N0 qt_2).mono ?_
  rintro e_t_2 wt_2 ⟨rfl, bt_2⟩
  have HBwt_2 := Lib.hid (Below.step HB.out bt_2)
  clear bt_2
  obtain rfl := ret_hid H
  go_wp2_with fail
  go_ret
  exact ⟨rfl, HBwt_2.out⟩
end Go.Proofs.Ytlljmgphgmklcaa.GiAreCovers

/- loop.example/g01062/laws.eqCover as a plain function, and the contract of the program's: where the plain one has an answer, the program has it. Conditions: slices read as lists. -/
namespace Go.Proofs.Ytlljmgphgmklcaa.GlEqCover
set_option linter.unusedVariables false
set_option linter.unusedSimpArgs false
open Go.RowKit
open Go.Proofs.Ytlljmgphgmklcaa.Rowed Go.Proofs.Ytlljmgphgmklcaa.Turn Go.Proofs.Ytlljmgphgmklcaa.Aid Go.Proofs.Ytlljmgphgmklcaa.GoP Go.Proofs.Ytlljmgphgmklcaa.GoM

def P (a : Go.Proofs.Ytlljmgphgmklcaa.PCover.Cover) (b : Go.Proofs.Ytlljmgphgmklcaa.PCover.Cover) : Option (Bool) :=
  unCover a fun (a_id : Int) (a_day : Int) (a_zone : Int) (a_grams : Int) (a_paid : Int) (a_from_ : Int) (a_to_ : Int) (a_leave : Int) (a_arrive : Int) =>
  unCover b fun (b_id : Int) (b_day : Int) (b_zone : Int) (b_grams : Int) (b_paid : Int) (b_from_ : Int) (b_to_ : Int) (b_leave : Int) (b_arrive : Int) =>
  letK (a_id != b_id) fun (t_7 : Bool) =>
  iteK t_7
  (some false)
  (letK (a_day != b_day) fun (t_13 : Bool) =>
  iteK t_13
  (some false)
  (letK (a_zone != b_zone) fun (t_19 : Bool) =>
  iteK t_19
  (some false)
  (letK (a_grams != b_grams) fun (t_25 : Bool) =>
  iteK t_25
  (some false)
  (letK (a_paid != b_paid) fun (t_31 : Bool) =>
  iteK t_31
  (some false)
  (letK (a_from_ != b_from_) fun (t_37 : Bool) =>
  iteK t_37
  (some false)
  (letK (a_to_ != b_to_) fun (t_43 : Bool) =>
  iteK t_43
  (some false)
  (letK (a_leave != b_leave) fun (t_49 : Bool) =>
  iteK t_49
  (some false)
  (letK (a_arrive != b_arrive) fun (t_55 : Bool) =>
  iteK t_55
  (some false)
  (some true)))))))))

set_option maxRecDepth 100000 in
set_option maxHeartbeats 2000000 in
theorem C (a : Go.Proofs.Ytlljmgphgmklcaa.PCover.Cover) (b : Go.Proofs.Ytlljmgphgmklcaa.PCover.Cover)   (w : World)   {r : Bool} (H : Hid (P a b = some r)) :
    Calls Try.prog 88 #[a.val, b.val] w (Gives (.bool r) w) := by
  have HB := Lib.hid (Below.refl w.heap.size w)
  unfold P at H
  obtain ⟨a_id, a_day, a_zone, a_grams, a_paid, a_from_, a_to_, a_leave, a_arrive⟩ := a
  replace H := unCover_hid H
  obtain ⟨b_id, b_day, b_zone, b_grams, b_paid, b_from_, b_to_, b_leave, b_arrive⟩ := b
  replace H := unCover_hid H
  unfold Go.Proofs.Ytlljmgphgmklcaa.PCover.Cover.val
  go_enter Try.func88, Try.ntmps88
  obtain ⟨w_a_0, hw_a_0⟩ : ∃ x, w.alloc (.cells #[.int .i64 a_id, .int .i64 a_day, .int .i64 a_zone, .int .i64 a_grams, .int .i64 a_paid, .int .i64 a_from_, .int .i64 a_to_, .int .i64 a_leave, .int .i64 a_arrive] 25) = x := ⟨_, rfl⟩
  have bw_a_0 : Below w.heap.size w w_a_0 := by rw [← hw_a_0]; exact (Below.refl _ _).alloc (Nat.le_refl _) _
  have HBw_a_0 := Lib.hid (Below.step HB.out bw_a_0)
  clear bw_a_0
  have ka_0_0 : w_a_0.cell? ⟨w.heap.size, 0, none⟩ = some (.int .i64 a_id) := by rw [← hw_a_0]; exact box_new _ _ _ 0 _ rfl
  have ka_0_1 : w_a_0.cell? ⟨w.heap.size, 1, none⟩ = some (.int .i64 a_day) := by rw [← hw_a_0]; exact box_new _ _ _ 1 _ rfl
  have ka_0_2 : w_a_0.cell? ⟨w.heap.size, 2, none⟩ = some (.int .i64 a_zone) := by rw [← hw_a_0]; exact box_new _ _ _ 2 _ rfl
  have ka_0_3 : w_a_0.cell? ⟨w.heap.size, 3, none⟩ = some (.int .i64 a_grams) := by rw [← hw_a_0]; exact box_new _ _ _ 3 _ rfl
  have ka_0_4 : w_a_0.cell? ⟨w.heap.size, 4, none⟩ = some (.int .i64 a_paid) := by rw [← hw_a_0]; exact box_new _ _ _ 4 _ rfl
  have ka_0_5 : w_a_0.cell? ⟨w.heap.size, 5, none⟩ = some (.int .i64 a_from_) := by rw [← hw_a_0]; exact box_new _ _ _ 5 _ rfl
  have ka_0_6 : w_a_0.cell? ⟨w.heap.size, 6, none⟩ = some (.int .i64 a_to_) := by rw [← hw_a_0]; exact box_new _ _ _ 6 _ rfl
  have ka_0_7 : w_a_0.cell? ⟨w.heap.size, 7, none⟩ = some (.int .i64 a_leave) := by rw [← hw_a_0]; exact box_new _ _ _ 7 _ rfl
  have ka_0_8 : w_a_0.cell? ⟨w.heap.size, 8, none⟩ = some (.int .i64 a_arrive) := by rw [← hw_a_0]; exact box_new _ _ _ 8 _ rfl
  obtain ⟨w_b_1, hw_b_1⟩ : ∃ x, w_a_0.alloc (.cells #[.int .i64 b_id, .int .i64 b_day, .int .i64 b_zone, .int .i64 b_grams, .int .i64 b_paid, .int .i64 b_from_, .int .i64 b_to_, .int .i64 b_leave, .int .i64 b_arrive] 25) = x := ⟨_, rfl⟩
  have bw_b_1 : Below w_a_0.heap.size w_a_0 w_b_1 := by rw [← hw_b_1]; exact (Below.refl _ _).alloc (Nat.le_refl _) _
  have HBw_b_1 := Lib.hid (Below.step HBw_a_0.out bw_b_1)
  have ka_0_0__754 := cell_below bw_b_1 ka_0_0
  have ka_0_1__755 := cell_below bw_b_1 ka_0_1
  have ka_0_2__756 := cell_below bw_b_1 ka_0_2
  have ka_0_3__757 := cell_below bw_b_1 ka_0_3
  have ka_0_4__758 := cell_below bw_b_1 ka_0_4
  have ka_0_5__759 := cell_below bw_b_1 ka_0_5
  have ka_0_6__760 := cell_below bw_b_1 ka_0_6
  have ka_0_7__761 := cell_below bw_b_1 ka_0_7
  have ka_0_8__762 := cell_below bw_b_1 ka_0_8
  clear bw_b_1
  have kb_1_0 : w_b_1.cell? ⟨w_a_0.heap.size, 0, none⟩ = some (.int .i64 b_id) := by rw [← hw_b_1]; exact box_new _ _ _ 0 _ rfl
  have kb_1_1 : w_b_1.cell? ⟨w_a_0.heap.size, 1, none⟩ = some (.int .i64 b_day) := by rw [← hw_b_1]; exact box_new _ _ _ 1 _ rfl
  have kb_1_2 : w_b_1.cell? ⟨w_a_0.heap.size, 2, none⟩ = some (.int .i64 b_zone) := by rw [← hw_b_1]; exact box_new _ _ _ 2 _ rfl
  have kb_1_3 : w_b_1.cell? ⟨w_a_0.heap.size, 3, none⟩ = some (.int .i64 b_grams) := by rw [← hw_b_1]; exact box_new _ _ _ 3 _ rfl
  have kb_1_4 : w_b_1.cell? ⟨w_a_0.heap.size, 4, none⟩ = some (.int .i64 b_paid) := by rw [← hw_b_1]; exact box_new _ _ _ 4 _ rfl
  have kb_1_5 : w_b_1.cell? ⟨w_a_0.heap.size, 5, none⟩ = some (.int .i64 b_from_) := by rw [← hw_b_1]; exact box_new _ _ _ 5 _ rfl
  have kb_1_6 : w_b_1.cell? ⟨w_a_0.heap.size, 6, none⟩ = some (.int .i64 b_to_) := by rw [← hw_b_1]; exact box_new _ _ _ 6 _ rfl
  have kb_1_7 : w_b_1.cell? ⟨w_a_0.heap.size, 7, none⟩ = some (.int .i64 b_leave) := by rw [← hw_b_1]; exact box_new _ _ _ 7 _ rfl
  have kb_1_8 : w_b_1.cell? ⟨w_a_0.heap.size, 8, none⟩ = some (.int .i64 b_arrive) := by rw [← hw_b_1]; exact box_new _ _ _ 8 _ rfl
  replace H := let_hid H
  obtain ⟨t_7, ht_7, H⟩ := H
  cases t_7 with
  | false =>
    replace H := ite_f H
    replace H := let_hid H
    obtain ⟨t_13, ht_13, H⟩ := H
    cases t_13 with
    | false =>
      replace H := ite_f H
      replace H := let_hid H
      obtain ⟨t_19, ht_19, H⟩ := H
      cases t_19 with
      | false =>
        replace H := ite_f H
        replace H := let_hid H
        obtain ⟨t_25, ht_25, H⟩ := H
        cases t_25 with
        | false =>
          replace H := ite_f H
          replace H := let_hid H
          obtain ⟨t_31, ht_31, H⟩ := H
          cases t_31 with
          | false =>
            replace H := ite_f H
            replace H := let_hid H
            obtain ⟨t_37, ht_37, H⟩ := H
            cases t_37 with
            | false =>
              replace H := ite_f H
              replace H := let_hid H
              obtain ⟨t_43, ht_43, H⟩ := H
              cases t_43 with
              | false =>
                replace H := ite_f H
                replace H := let_hid H
                obtain ⟨t_49, ht_49, H⟩ := H
                cases t_49 with
                | false =>
                  replace H := ite_f H
                  replace H := let_hid H
                  obtain ⟨t_55, ht_55, H⟩ := H
                  cases t_55 with
                  | false =>
                    replace H := ite_f H
                    obtain rfl := ret_hid H
                    go_wp2_with fail
                    go_ret
                    exact ⟨rfl, HBw_b_1.out⟩
                  | true =>
                    replace H := ite_t H
                    obtain rfl := ret_hid H
                    go_wp2_with fail
                    go_ret
                    exact ⟨rfl, HBw_b_1.out⟩
                | true =>
                  replace H := ite_t H
                  obtain rfl := ret_hid H
                  go_wp2_with fail
                  go_ret
                  exact ⟨rfl, HBw_b_1.out⟩
              | true =>
                replace H := ite_t H
                obtain rfl := ret_hid H
                go_wp2_with fail
                go_ret
                exact ⟨rfl, HBw_b_1.out⟩
            | true =>
              replace H := ite_t H
              obtain rfl := ret_hid H
              go_wp2_with fail
              go_ret
              exact ⟨rfl, HBw_b_1.out⟩
          | true =>
            replace H := ite_t H
            obtain rfl := ret_hid H
            go_wp2_with fail
            go_ret
            exact ⟨rfl, HBw_b_1.out⟩
        | true =>
          replace H := ite_t H
          obtain rfl := ret_hid H
          go_wp2_with fail
          go_ret
          exact ⟨rfl, HBw_b_1.out⟩
      | true =>
        replace H := ite_t H
        obtain rfl := ret_hid H
        go_wp2_with fail
        go_ret
        exact ⟨rfl, HBw_b_1.out⟩
    | true =>
      replace H := ite_t H
      obtain rfl := ret_hid H
      go_wp2_with fail
      go_ret
      exact ⟨rfl, HBw_b_1.out⟩
  | true =>
    replace H := ite_t H
    obtain rfl := ret_hid H
    go_wp2_with fail
    go_ret
    exact ⟨rfl, HBw_b_1.out⟩
end Go.Proofs.Ytlljmgphgmklcaa.GlEqCover

