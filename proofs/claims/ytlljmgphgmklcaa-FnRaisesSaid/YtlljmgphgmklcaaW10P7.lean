/- Texts on which the proofs of several laws stand, one behind the other (7 of 13). No condition of their own. -/
import Derived.Test.YtlljmgphgmklcaaChecked
import Derived.Test.YtlljmgphgmklcaaW10P1
import Derived.WalkKit
import Derived.WalkSpells
import Derived.WalkLawsBesides
import Derived.BigQuiet
import Derived.OwnWalk
import Derived.Deep.LoopGhost
import Derived.Deep.QuietTactic
import Derived.IntWalk
import Derived.Lib.QuietBelow
/- loop.example/g01062/spec.l1In as a plain function, and the contract of the program's: where the plain one has an answer, the program has it. Conditions: slices read as lists. -/
namespace Go.Proofs.Ytlljmgphgmklcaa.GsL1In
set_option linter.unusedVariables false
set_option linter.unusedSimpArgs false
open Go.RowKit
open Go.Proofs.Ytlljmgphgmklcaa.Rowed Go.Proofs.Ytlljmgphgmklcaa.Turn Go.Proofs.Ytlljmgphgmklcaa.Aid Go.Proofs.Ytlljmgphgmklcaa.GoP Go.Proofs.Ytlljmgphgmklcaa.GoM

def P (x : Int) (a : Int) (b : Int) : Option (Bool) :=
  letK (decide (a ≤ x)) fun (t_3 : Bool) =>
  joinK (fun (t_8 : Bool) =>
  some t_8) fun jt_8 => iteK t_3 (letK (decide (x ≤ b)) fun (t_7 : Bool) =>
  appK jt_8 t_7) (appK jt_8 false)

set_option maxRecDepth 100000 in
set_option maxHeartbeats 2000000 in
theorem C (x : Int) (a : Int) (b : Int)   (w : World)   {r : Bool} (H : Hid (P x a b = some r)) :
    Calls Try.prog 113 #[.int .i64 x, .int .i64 a, .int .i64 b] w (Gives (.bool r) w) := by
  have HB := Lib.hid (Below.refl w.heap.size w)
  unfold P at H
  go_enter Try.func113, Try.ntmps113
  replace H := let_hid H
  obtain ⟨t_3, ht_3, H⟩ := H
  replace H := join_hid H
  cases t_3 with
  | false =>
    replace H := ite_f H
    replace H := app_hid H
    obtain rfl := ret_hid H
    go_wp2_with fail
    go_ret
    exact ⟨rfl, HB.out⟩
  | true =>
    replace H := ite_t H
    replace H := let_hid H
    obtain ⟨t_7, ht_7, H⟩ := H
    replace H := app_hid H
    obtain rfl := ret_hid H
    go_wp2_with fail
    go_ret
    exact ⟨rfl, HB.out⟩

set_option maxRecDepth 100000 in
set_option maxHeartbeats 2000000 in
theorem C0 (x : Int) (a : Int) (b : Int)   (w : World)   {r : Bool} (H : Hid (P x a b = some r)) :
    Calls Try.prog 113 #[.int .i64 x, .int .i64 a, .int .i64 b] w (fun e w'' => e = .returned (.bool r) ∧ w'' = w) := by
  have HB := Lib.hid (Below.refl w.heap.size w)
  unfold P at H
  go_enter Try.func113, Try.ntmps113
  replace H := let_hid H
  obtain ⟨t_3, ht_3, H⟩ := H
  replace H := join_hid H
  cases t_3 with
  | false =>
    replace H := ite_f H
    replace H := app_hid H
    obtain rfl := ret_hid H
    go_wp2_with fail
    go_ret
    exact ⟨rfl, rfl⟩
  | true =>
    replace H := ite_t H
    replace H := let_hid H
    obtain ⟨t_7, ht_7, H⟩ := H
    replace H := app_hid H
    obtain rfl := ret_hid H
    go_wp2_with fail
    go_ret
    exact ⟨rfl, rfl⟩
end Go.Proofs.Ytlljmgphgmklcaa.GsL1In

/- loop.example/g01062/spec.l8Zone as a plain function, and the contract of the program's: where the plain one has an answer, the program has it. Conditions: slices read as lists. -/
namespace Go.Proofs.Ytlljmgphgmklcaa.GsL8Zone
set_option linter.unusedVariables false
set_option linter.unusedSimpArgs false
open Go.RowKit
open Go.Proofs.Ytlljmgphgmklcaa.Rowed Go.Proofs.Ytlljmgphgmklcaa.Turn Go.Proofs.Ytlljmgphgmklcaa.Aid Go.Proofs.Ytlljmgphgmklcaa.GoP Go.Proofs.Ytlljmgphgmklcaa.GoM

def P (zone : Int) : Option (Bool) :=
  Option.bind (Go.Proofs.Ytlljmgphgmklcaa.GsL1In.P zone 0 9) fun (t_2 : Bool) =>
  some t_2

set_option maxRecDepth 100000 in
set_option maxHeartbeats 2000000 in
theorem C (zone : Int)   (w : World)   {r : Bool} (H : Hid (P zone = some r)) :
    Calls Try.prog 139 #[.int .i64 zone] w (Gives (.bool r) w) := by
  have HB := Lib.hid (Below.refl w.heap.size w)
  unfold P at H
  go_enter Try.func139, Try.ntmps139
  replace H := bind_hid H
  obtain ⟨t_2, qt_2, H⟩ := H
  go_wp2_with fail
  go_at_call 113
  refine (Go.Proofs.Ytlljmgphgmklcaa.GsL1In.C (zone) (0) (9)  _    qt_2).mono ?_
  rintro e_t_2 wt_2 ⟨rfl, bt_2⟩
  have HBwt_2 := Lib.hid (Below.step HB.out bt_2)
  clear bt_2
  obtain rfl := ret_hid H
  go_wp2_with fail
  go_ret
  exact ⟨rfl, HBwt_2.out⟩
end Go.Proofs.Ytlljmgphgmklcaa.GsL8Zone

/- loop.example/g01062/spec.l8Grams as a plain function, and the contract of the program's: where the plain one has an answer, the program has it. Conditions: slices read as lists. -/
namespace Go.Proofs.Ytlljmgphgmklcaa.GsL8Grams
set_option linter.unusedVariables false
set_option linter.unusedSimpArgs false
open Go.RowKit
open Go.Proofs.Ytlljmgphgmklcaa.Rowed Go.Proofs.Ytlljmgphgmklcaa.Turn Go.Proofs.Ytlljmgphgmklcaa.Aid Go.Proofs.Ytlljmgphgmklcaa.GoP Go.Proofs.Ytlljmgphgmklcaa.GoM

def P (grams : Int) : Option (Bool) :=
  Option.bind (Go.Proofs.Ytlljmgphgmklcaa.GsL1In.P grams 1 2000) fun (t_2 : Bool) =>
  some t_2

set_option maxRecDepth 100000 in
set_option maxHeartbeats 2000000 in
theorem C (grams : Int)   (w : World)   {r : Bool} (H : Hid (P grams = some r)) :
    Calls Try.prog 134 #[.int .i64 grams] w (Gives (.bool r) w) := by
  have HB := Lib.hid (Below.refl w.heap.size w)
  unfold P at H
  go_enter Try.func134, Try.ntmps134
  replace H := bind_hid H
  obtain ⟨t_2, qt_2, H⟩ := H
  go_wp2_with fail
  go_at_call 113
  refine (Go.Proofs.Ytlljmgphgmklcaa.GsL1In.C (grams) (1) (2000)  _    qt_2).mono ?_
  rintro e_t_2 wt_2 ⟨rfl, bt_2⟩
  have HBwt_2 := Lib.hid (Below.step HB.out bt_2)
  clear bt_2
  obtain rfl := ret_hid H
  go_wp2_with fail
  go_ret
  exact ⟨rfl, HBwt_2.out⟩
end Go.Proofs.Ytlljmgphgmklcaa.GsL8Grams

/- loop.example/g01062/spec.l2Day as a plain function, and the contract of the program's: where the plain one has an answer, the program has it. Conditions: slices read as lists. -/
namespace Go.Proofs.Ytlljmgphgmklcaa.GsL2Day
set_option linter.unusedVariables false
set_option linter.unusedSimpArgs false
open Go.RowKit
open Go.Proofs.Ytlljmgphgmklcaa.Rowed Go.Proofs.Ytlljmgphgmklcaa.Turn Go.Proofs.Ytlljmgphgmklcaa.Aid Go.Proofs.Ytlljmgphgmklcaa.GoP Go.Proofs.Ytlljmgphgmklcaa.GoM

def P (d_0 : Int) : Option (Bool) :=
  Option.bind (Go.Proofs.Ytlljmgphgmklcaa.GsL1In.P d_0 0 4000) fun (t_2 : Bool) =>
  some t_2

set_option maxRecDepth 100000 in
set_option maxHeartbeats 2000000 in
theorem C (d_0 : Int)   (w : World)   {r : Bool} (H : Hid (P d_0 = some r)) :
    Calls Try.prog 129 #[.int .i64 d_0] w (Gives (.bool r) w) := by
  have HB := Lib.hid (Below.refl w.heap.size w)
  unfold P at H
  go_enter Try.func129, Try.ntmps129
  replace H := bind_hid H
  obtain ⟨t_2, qt_2, H⟩ := H
  go_wp2_with fail
  go_at_call 113
  refine (Go.Proofs.Ytlljmgphgmklcaa.GsL1In.C (d_0) (0) (4000)  _    qt_2).mono ?_
  rintro e_t_2 wt_2 ⟨rfl, bt_2⟩
  have HBwt_2 := Lib.hid (Below.step HB.out bt_2)
  clear bt_2
  obtain rfl := ret_hid H
  go_wp2_with fail
  go_ret
  exact ⟨rfl, HBwt_2.out⟩
end Go.Proofs.Ytlljmgphgmklcaa.GsL2Day

/- loop.example/g01062/spec.l8Cents as a plain function, and the contract of the program's: where the plain one has an answer, the program has it. Conditions: slices read as lists. -/
namespace Go.Proofs.Ytlljmgphgmklcaa.GsL8Cents
set_option linter.unusedVariables false
set_option linter.unusedSimpArgs false
open Go.RowKit
open Go.Proofs.Ytlljmgphgmklcaa.Rowed Go.Proofs.Ytlljmgphgmklcaa.Turn Go.Proofs.Ytlljmgphgmklcaa.Aid Go.Proofs.Ytlljmgphgmklcaa.GoP Go.Proofs.Ytlljmgphgmklcaa.GoM

def P (cents : Int) : Option (Bool) :=
  Option.bind (Go.Proofs.Ytlljmgphgmklcaa.GsL1In.P cents 1 9999) fun (t_2 : Bool) =>
  some t_2

set_option maxRecDepth 100000 in
set_option maxHeartbeats 2000000 in
theorem C (cents : Int)   (w : World)   {r : Bool} (H : Hid (P cents = some r)) :
    Calls Try.prog 130 #[.int .i64 cents] w (Gives (.bool r) w) := by
  have HB := Lib.hid (Below.refl w.heap.size w)
  unfold P at H
  go_enter Try.func130, Try.ntmps130
  replace H := bind_hid H
  obtain ⟨t_2, qt_2, H⟩ := H
  go_wp2_with fail
  go_at_call 113
  refine (Go.Proofs.Ytlljmgphgmklcaa.GsL1In.C (cents) (1) (9999)  _    qt_2).mono ?_
  rintro e_t_2 wt_2 ⟨rfl, bt_2⟩
  have HBwt_2 := Lib.hid (Below.step HB.out bt_2)
  clear bt_2
  obtain rfl := ret_hid H
  go_wp2_with fail
  go_ret
  exact ⟨rfl, HBwt_2.out⟩
end Go.Proofs.Ytlljmgphgmklcaa.GsL8Cents

/- loop.example/g01062/spec.l8One as a plain function, and the contract of the program's: where the plain one has an answer, the program has it. Conditions: slices read as lists. -/
namespace Go.Proofs.Ytlljmgphgmklcaa.GsL8One
set_option linter.unusedVariables false
set_option linter.unusedSimpArgs false
open Go.RowKit
open Go.Proofs.Ytlljmgphgmklcaa.Rowed Go.Proofs.Ytlljmgphgmklcaa.Turn Go.Proofs.Ytlljmgphgmklcaa.Aid Go.Proofs.Ytlljmgphgmklcaa.GoP Go.Proofs.Ytlljmgphgmklcaa.GoM

def P (r_0 : Go.Proofs.Ytlljmgphgmklcaa.PRate.Rate) : Option (Bool) :=
  unRate r_0 fun (r_0_zone : Int) (r_0_grams : Int) (r_0_from_ : Int) (r_0_until_ : Int) (r_0_cents : Int) =>
  Option.bind (Go.Proofs.Ytlljmgphgmklcaa.GsL8Zone.P r_0_zone) fun (t_4 : Bool) =>
  joinK (fun (t_9 : Bool) =>
  joinK (fun (t_14 : Bool) =>
  joinK (fun (t_21 : Bool) =>
  joinK (fun (t_26 : Bool) =>
  some t_26) fun jt_26 => iteK t_21 (Option.bind (Go.Proofs.Ytlljmgphgmklcaa.GsL8Cents.P r_0_cents) fun (t_25 : Bool) =>
  appK jt_26 t_25) (appK jt_26 false)) fun jt_21 => iteK t_14 (Option.bind (Go.Proofs.Ytlljmgphgmklcaa.GsL1In.P r_0_from_ 0 r_0_until_) fun (t_20 : Bool) =>
  appK jt_21 t_20) (appK jt_21 false)) fun jt_14 => iteK t_9 (Option.bind (Go.Proofs.Ytlljmgphgmklcaa.GsL2Day.P r_0_until_) fun (t_13 : Bool) =>
  appK jt_14 t_13) (appK jt_14 false)) fun jt_9 => iteK t_4 (Option.bind (Go.Proofs.Ytlljmgphgmklcaa.GsL8Grams.P r_0_grams) fun (t_8 : Bool) =>
  appK jt_9 t_8) (appK jt_9 false)

set_option maxRecDepth 100000 in
set_option maxHeartbeats 2000000 in
theorem C (r_0 : Go.Proofs.Ytlljmgphgmklcaa.PRate.Rate)   (w : World)   {r : Bool} (H : Hid (P r_0 = some r)) :
    Calls Try.prog 141 #[r_0.val] w (Gives (.bool r) w) := by
  have HB := Lib.hid (Below.refl w.heap.size w)
  unfold P at H
  obtain ⟨r_0_zone, r_0_grams, r_0_from_, r_0_until_, r_0_cents⟩ := r_0
  replace H := unRate_hid H
  unfold Go.Proofs.Ytlljmgphgmklcaa.PRate.Rate.val
  go_enter Try.func141, Try.ntmps141
  obtain ⟨w_r_0, hw_r_0⟩ : ∃ x, w.alloc (.cells #[.int .i64 r_0_zone, .int .i64 r_0_grams, .int .i64 r_0_from_, .int .i64 r_0_until_, .int .i64 r_0_cents] 104) = x := ⟨_, rfl⟩
  have bw_r_0 : Below w.heap.size w w_r_0 := by rw [← hw_r_0]; exact (Below.refl _ _).alloc (Nat.le_refl _) _
  have HBw_r_0 := Lib.hid (Below.step HB.out bw_r_0)
  clear bw_r_0
  have kr_0_0 : w_r_0.cell? ⟨w.heap.size, 0, none⟩ = some (.int .i64 r_0_zone) := by rw [← hw_r_0]; exact box_new _ _ _ 0 _ rfl
  have kr_0_1 : w_r_0.cell? ⟨w.heap.size, 1, none⟩ = some (.int .i64 r_0_grams) := by rw [← hw_r_0]; exact box_new _ _ _ 1 _ rfl
  have kr_0_2 : w_r_0.cell? ⟨w.heap.size, 2, none⟩ = some (.int .i64 r_0_from_) := by rw [← hw_r_0]; exact box_new _ _ _ 2 _ rfl
  have kr_0_3 : w_r_0.cell? ⟨w.heap.size, 3, none⟩ = some (.int .i64 r_0_until_) := by rw [← hw_r_0]; exact box_new _ _ _ 3 _ rfl
  have kr_0_4 : w_r_0.cell? ⟨w.heap.size, 4, none⟩ = some (.int .i64 r_0_cents) := by rw [← hw_r_0]; exact box_new _ _ _ 4 _ rfl
  replace H := bind_hid H
  obtain ⟨t_4, qt_4, H⟩ := H
  go_wp2_with fail
  go_at_call 139
  refine (Go.Proofs.Ytlljmgphgmklcaa.GsL8Zone.C (r_0_zone)  _    qt_4).mono ?_
  rintro e_t_4 wt_4 ⟨rfl, bt_4⟩
  have HBwt_4 := Lib.hid (Below.step HBw_r_0.out bt_4)
  replace kr_0_0 := cell_below bt_4 kr_0_0
  replace kr_0_1 := cell_below bt_4 kr_0_1
  replace kr_0_2 := cell_below bt_4 kr_0_2
  replace kr_0_3 := cell_below bt_4 kr_0_3
  replace kr_0_4 := cell_below bt_4 kr_0_4
  clear bt_4
  replace H := join_hid H
  cases t_4 with
  | false =>
    replace H := ite_f H
    replace H := app_hid H
    replace H := join_hid H
    replace H := ite_f H
    replace H := app_hid H
    replace H := join_hid H
    replace H := ite_f H
    replace H := app_hid H
    replace H := join_hid H
    replace H := ite_f H
    replace H := app_hid H
    obtain rfl := ret_hid H
    go_wp2_with fail
    go_ret
    exact ⟨rfl, HBwt_4.out⟩
  | true =>
    replace H := ite_t H
    replace H := bind_hid H
    obtain ⟨t_8, qt_8, H⟩ := H
    go_wp2_with fail
    go_at_call 134
    refine (Go.Proofs.Ytlljmgphgmklcaa.GsL8Grams.C (r_0_grams)  _    qt_8).mono ?_
    rintro e_t_8 wt_8 ⟨rfl, bt_8⟩
    have HBwt_8 := Lib.hid (Below.step HBwt_4.out bt_8)
    replace kr_0_0 := cell_below bt_8 kr_0_0
    replace kr_0_1 := cell_below bt_8 kr_0_1
    replace kr_0_2 := cell_below bt_8 kr_0_2
    replace kr_0_3 := cell_below bt_8 kr_0_3
    replace kr_0_4 := cell_below bt_8 kr_0_4
    clear bt_8
    replace H := app_hid H
    replace H := join_hid H
    cases t_8 with
    | false =>
      replace H := ite_f H
      replace H := app_hid H
      replace H := join_hid H
      replace H := ite_f H
      replace H := app_hid H
      replace H := join_hid H
      replace H := ite_f H
      replace H := app_hid H
      obtain rfl := ret_hid H
      go_wp2_with fail
      go_ret
      exact ⟨rfl, HBwt_8.out⟩
    | true =>
      replace H := ite_t H
      replace H := bind_hid H
      obtain ⟨t_13, qt_13, H⟩ := H
      go_wp2_with fail
      go_at_call 129
      refine (Go.Proofs.Ytlljmgphgmklcaa.GsL2Day.C (r_0_until_)  _    qt_13).mono ?_
      rintro e_t_13 wt_13 ⟨rfl, bt_13⟩
      have HBwt_13 := Lib.hid (Below.step HBwt_8.out bt_13)
      replace kr_0_0 := cell_below bt_13 kr_0_0
      replace kr_0_1 := cell_below bt_13 kr_0_1
      replace kr_0_2 := cell_below bt_13 kr_0_2
      replace kr_0_3 := cell_below bt_13 kr_0_3
      replace kr_0_4 := cell_below bt_13 kr_0_4
      clear bt_13
      replace H := app_hid H
      replace H := join_hid H
      cases t_13 with
      | false =>
        replace H := ite_f H
        replace H := app_hid H
        replace H := join_hid H
        replace H := ite_f H
        replace H := app_hid H
        obtain rfl := ret_hid H
        go_wp2_with fail
        go_ret
        exact ⟨rfl, HBwt_13.out⟩
      | true =>
        replace H := ite_t H
        replace H := bind_hid H
        obtain ⟨t_20, qt_20, H⟩ := H
        go_wp2_with fail
        go_at_call 113
        refine (Go.Proofs.Ytlljmgphgmklcaa.GsL1In.C (r_0_from_) (0) (r_0_until_)  _    qt_20).mono ?_
        rintro e_t_20 wt_20 ⟨rfl, bt_20⟩
        have HBwt_20 := Lib.hid (Below.step HBwt_13.out bt_20)
        replace kr_0_0 := cell_below bt_20 kr_0_0
        replace kr_0_1 := cell_below bt_20 kr_0_1
        replace kr_0_2 := cell_below bt_20 kr_0_2
        replace kr_0_3 := cell_below bt_20 kr_0_3
        replace kr_0_4 := cell_below bt_20 kr_0_4
        clear bt_20
        replace H := app_hid H
        replace H := join_hid H
        cases t_20 with
        | false =>
          replace H := ite_f H
          replace H := app_hid H
          obtain rfl := ret_hid H
          go_wp2_with fail
          go_ret
          exact ⟨rfl, HBwt_20.out⟩
        | true =>
          replace H := ite_t H
          replace H := bind_hid H
          obtain ⟨t_25, qt_25, H⟩ := H
          go_wp2_with fail
          go_at_call 130
          refine (Go.Proofs.Ytlljmgphgmklcaa.GsL8Cents.C (r_0_cents)  _    qt_25).mono ?_
          rintro e_t_25 wt_25 ⟨rfl, bt_25⟩
          have HBwt_25 := Lib.hid (Below.step HBwt_20.out bt_25)
          replace kr_0_0 := cell_below bt_25 kr_0_0
          replace kr_0_1 := cell_below bt_25 kr_0_1
          replace kr_0_2 := cell_below bt_25 kr_0_2
          replace kr_0_3 := cell_below bt_25 kr_0_3
          replace kr_0_4 := cell_below bt_25 kr_0_4
          clear bt_25
          replace H := app_hid H
          obtain rfl := ret_hid H
          go_wp2_with fail
          go_ret
          exact ⟨rfl, HBwt_25.out⟩
end Go.Proofs.Ytlljmgphgmklcaa.GsL8One

/- loop.example/g01062/spec.l8Code as a plain function, and the contract of the program's: where the plain one has an answer, the program has it. Conditions: slices read as lists. -/
namespace Go.Proofs.Ytlljmgphgmklcaa.GsL8Code
set_option linter.unusedVariables false
set_option linter.unusedSimpArgs false
open Go.RowKit
open Go.Proofs.Ytlljmgphgmklcaa.Rowed Go.Proofs.Ytlljmgphgmklcaa.Turn Go.Proofs.Ytlljmgphgmklcaa.Aid Go.Proofs.Ytlljmgphgmklcaa.GoP Go.Proofs.Ytlljmgphgmklcaa.GoM

def P (r_0 : Go.Proofs.Ytlljmgphgmklcaa.PRate.Rate) : Option (Int) :=
  unRate r_0 fun (r_0_zone : Int) (r_0_grams : Int) (r_0_from_ : Int) (r_0_until_ : Int) (r_0_cents : Int) =>
  letK (IntKind.i64.wrap (10000 * r_0_zone)) fun (t_4 : Int) =>
  letK (IntKind.i64.wrap (t_4 + r_0_grams)) fun (t_7 : Int) =>
  letK (IntKind.i64.wrap (t_7 * 10000)) fun (t_8 : Int) =>
  letK (IntKind.i64.wrap (t_8 + r_0_from_)) fun (t_11 : Int) =>
  some t_11

set_option maxRecDepth 100000 in
set_option maxHeartbeats 2000000 in
theorem C (r_0 : Go.Proofs.Ytlljmgphgmklcaa.PRate.Rate)   (w : World)   {r : Int} (H : Hid (P r_0 = some r)) :
    Calls Try.prog 142 #[r_0.val] w (Gives (.int .i64 r) w) := by
  have HB := Lib.hid (Below.refl w.heap.size w)
  unfold P at H
  obtain ⟨r_0_zone, r_0_grams, r_0_from_, r_0_until_, r_0_cents⟩ := r_0
  replace H := unRate_hid H
  unfold Go.Proofs.Ytlljmgphgmklcaa.PRate.Rate.val
  go_enter Try.func142, Try.ntmps142
  obtain ⟨w_r_0, hw_r_0⟩ : ∃ x, w.alloc (.cells #[.int .i64 r_0_zone, .int .i64 r_0_grams, .int .i64 r_0_from_, .int .i64 r_0_until_, .int .i64 r_0_cents] 104) = x := ⟨_, rfl⟩
  have bw_r_0 : Below w.heap.size w w_r_0 := by rw [← hw_r_0]; exact (Below.refl _ _).alloc (Nat.le_refl _) _
  have HBw_r_0 := Lib.hid (Below.step HB.out bw_r_0)
  clear bw_r_0
  have kr_0_0 : w_r_0.cell? ⟨w.heap.size, 0, none⟩ = some (.int .i64 r_0_zone) := by rw [← hw_r_0]; exact box_new _ _ _ 0 _ rfl
  have kr_0_1 : w_r_0.cell? ⟨w.heap.size, 1, none⟩ = some (.int .i64 r_0_grams) := by rw [← hw_r_0]; exact box_new _ _ _ 1 _ rfl
  have kr_0_2 : w_r_0.cell? ⟨w.heap.size, 2, none⟩ = some (.int .i64 r_0_from_) := by rw [← hw_r_0]; exact box_new _ _ _ 2 _ rfl
  have kr_0_3 : w_r_0.cell? ⟨w.heap.size, 3, none⟩ = some (.int .i64 r_0_until_) := by rw [← hw_r_0]; exact box_new _ _ _ 3 _ rfl
  have kr_0_4 : w_r_0.cell? ⟨w.heap.size, 4, none⟩ = some (.int .i64 r_0_cents) := by rw [← hw_r_0]; exact box_new _ _ _ 4 _ rfl
  replace H := let_hid H
  obtain ⟨t_4, ht_4, H⟩ := H
  replace H := let_hid H
  obtain ⟨t_7, ht_7, H⟩ := H
  replace H := let_hid H
  obtain ⟨t_8, ht_8, H⟩ := H
  replace H := let_hid H
  obtain ⟨t_11, ht_11, H⟩ := H
  obtain rfl := ret_hid H
  go_wp2_with fail
  go_ret
  exact ⟨rfl, HBw_r_0.out⟩
end Go.Proofs.Ytlljmgphgmklcaa.GsL8Code

/- loop.example/g01062/spec.l8Good as a plain function, and the contract of the program's: where the plain one has an answer, the program has it. Conditions: slices read as lists. -/
namespace Go.Proofs.Ytlljmgphgmklcaa.GsL8Good
set_option linter.unusedVariables false
set_option linter.unusedSimpArgs false
open Go.RowKit
open Go.Proofs.Ytlljmgphgmklcaa.Rowed Go.Proofs.Ytlljmgphgmklcaa.Turn Go.Proofs.Ytlljmgphgmklcaa.Aid Go.Proofs.Ytlljmgphgmklcaa.GoP Go.Proofs.Ytlljmgphgmklcaa.GoM

def l0 (list : (List Go.Proofs.Ytlljmgphgmklcaa.PRate.Rate)) (s : Int) (nx0 bk0 : Int → Option (Bool)) : Option (Bool) :=
  letK s fun i_3l0 =>
  letK (decide (i_3l0 < (list.length : Int))) fun (t_5 : Bool) =>
  joinK (fun (t_9 : Bool) =>
  iteK t_9
  (Option.bind (idx list i_3l0) fun (yt_12 : Go.Proofs.Ytlljmgphgmklcaa.PRate.Rate) =>
  unRate yt_12 fun (t_12_zone : Int) (t_12_grams : Int) (t_12_from_ : Int) (t_12_until_ : Int) (t_12_cents : Int) =>
  Option.bind (Go.Proofs.Ytlljmgphgmklcaa.GsL8One.P (Go.Proofs.Ytlljmgphgmklcaa.PRate.Rate.mk t_12_zone t_12_grams t_12_from_ t_12_until_ t_12_cents)) fun (t_14 : Bool) =>
  letK (!t_14) fun (t_15 : Bool) =>
  joinK (fun (t_33 : Bool) =>
  iteK t_33
  (some false)
  (letK (decide (0 < i_3l0)) fun (t_36 : Bool) =>
  joinK (fun (t_50 : Bool) =>
  joinK (fun (t_64 : Bool) =>
  joinK (fun (t_78 : Bool) =>
  iteK t_78
  (some false)
  (letK (IntKind.i64.wrap (i_3l0 + 1)) fun (t_81 : Int) =>
  appK nx0 (t_81))) fun jt_78 => iteK t_64 (letK (IntKind.i64.wrap (i_3l0 - 1)) fun (t_68 : Int) =>
  Option.bind (idx list t_68) fun (yt_69 : Go.Proofs.Ytlljmgphgmklcaa.PRate.Rate) =>
  unRate yt_69 fun (t_69_zone : Int) (t_69_grams : Int) (t_69_from_ : Int) (t_69_until_ : Int) (t_69_cents : Int) =>
  Option.bind (idx list i_3l0) fun (yt_74 : Go.Proofs.Ytlljmgphgmklcaa.PRate.Rate) =>
  unRate yt_74 fun (t_74_zone : Int) (t_74_grams : Int) (t_74_from_ : Int) (t_74_until_ : Int) (t_74_cents : Int) =>
  letK (decide (t_74_from_ ≤ t_69_until_)) fun (t_77 : Bool) =>
  appK jt_78 t_77) (appK jt_78 false)) fun jt_64 => iteK t_50 (letK (IntKind.i64.wrap (i_3l0 - 1)) fun (t_54 : Int) =>
  Option.bind (idx list t_54) fun (yt_55 : Go.Proofs.Ytlljmgphgmklcaa.PRate.Rate) =>
  unRate yt_55 fun (t_55_zone : Int) (t_55_grams : Int) (t_55_from_ : Int) (t_55_until_ : Int) (t_55_cents : Int) =>
  Option.bind (idx list i_3l0) fun (yt_60 : Go.Proofs.Ytlljmgphgmklcaa.PRate.Rate) =>
  unRate yt_60 fun (t_60_zone : Int) (t_60_grams : Int) (t_60_from_ : Int) (t_60_until_ : Int) (t_60_cents : Int) =>
  letK (t_55_grams == t_60_grams) fun (t_63 : Bool) =>
  appK jt_64 t_63) (appK jt_64 false)) fun jt_50 => iteK t_36 (letK (IntKind.i64.wrap (i_3l0 - 1)) fun (t_40 : Int) =>
  Option.bind (idx list t_40) fun (yt_41 : Go.Proofs.Ytlljmgphgmklcaa.PRate.Rate) =>
  unRate yt_41 fun (t_41_zone : Int) (t_41_grams : Int) (t_41_from_ : Int) (t_41_until_ : Int) (t_41_cents : Int) =>
  Option.bind (idx list i_3l0) fun (yt_46 : Go.Proofs.Ytlljmgphgmklcaa.PRate.Rate) =>
  unRate yt_46 fun (t_46_zone : Int) (t_46_grams : Int) (t_46_from_ : Int) (t_46_until_ : Int) (t_46_cents : Int) =>
  letK (t_41_zone == t_46_zone) fun (t_49 : Bool) =>
  appK jt_50 t_49) (appK jt_50 false))) fun jt_33 => iteK t_15 (appK jt_33 true) (letK (decide (0 < i_3l0)) fun (t_18 : Bool) =>
  joinK (fun (t_32 : Bool) =>
  appK jt_33 t_32) fun jt_32 => iteK t_18 (letK (IntKind.i64.wrap (i_3l0 - 1)) fun (t_22 : Int) =>
  Option.bind (idx list t_22) fun (yt_23 : Go.Proofs.Ytlljmgphgmklcaa.PRate.Rate) =>
  unRate yt_23 fun (t_23_zone : Int) (t_23_grams : Int) (t_23_from_ : Int) (t_23_until_ : Int) (t_23_cents : Int) =>
  Option.bind (Go.Proofs.Ytlljmgphgmklcaa.GsL8Code.P (Go.Proofs.Ytlljmgphgmklcaa.PRate.Rate.mk t_23_zone t_23_grams t_23_from_ t_23_until_ t_23_cents)) fun (t_25 : Int) =>
  Option.bind (idx list i_3l0) fun (yt_28 : Go.Proofs.Ytlljmgphgmklcaa.PRate.Rate) =>
  unRate yt_28 fun (t_28_zone : Int) (t_28_grams : Int) (t_28_from_ : Int) (t_28_until_ : Int) (t_28_cents : Int) =>
  Option.bind (Go.Proofs.Ytlljmgphgmklcaa.GsL8Code.P (Go.Proofs.Ytlljmgphgmklcaa.PRate.Rate.mk t_28_zone t_28_grams t_28_from_ t_28_until_ t_28_cents)) fun (t_30 : Int) =>
  letK (decide (t_30 ≤ t_25)) fun (t_31 : Bool) =>
  appK jt_32 t_31) (appK jt_32 false)))
  (appK bk0 (i_3l0))) fun jt_9 => iteK t_5 (letK (decide (i_3l0 ≤ 16)) fun (t_8 : Bool) =>
  appK jt_9 t_8) (appK jt_9 false)

def e0 (list : (List Go.Proofs.Ytlljmgphgmklcaa.PRate.Rate)) (s : Int) : Option (Bool) :=
  letK s fun i_3l0 =>
  letK (decide ((list.length : Int) ≤ 16)) fun (t_85 : Bool) =>
  some t_85

def P (fuel : Nat) (list : (List Go.Proofs.Ytlljmgphgmklcaa.PRate.Rate)) : Option (Bool) :=
  loopK (l0 list) fuel (0) (e0 list)

set_option maxRecDepth 100000 in
set_option maxHeartbeats 2000000 in
theorem C (fuel : Nat) (list : (List Go.Proofs.Ytlljmgphgmklcaa.PRate.Rate)) (A0 : Option Addr) (c0 : Nat)  (w : World) (M0 : Hid (Cells w 5 A0 list.length (Go.Proofs.Ytlljmgphgmklcaa.PRate.flat list))) (N0 : Hid (list.length ≤ 9223372036854775807))  {r : Bool} (H : Hid (P fuel list = some r)) :
    Calls Try.prog 89 #[.slice A0 list.length c0] w (Gives (.bool r) w) := by
  have HB := Lib.hid (Below.refl w.heap.size w)
  unfold P at H
  have N0o := N0.out
  go_enter Try.func89, Try.ntmps89
  go_wp2_with fail
  go_loopg [3] (fuel) (fun m_ v3_ wr => ∃ (i_3l0 : Int), v3_ = .int .i64 i_3l0 ∧ Hid (loopK (l0 list) m_ (i_3l0) (e0 list) = some r) ∧ Hid (Below w.heap.size w wr))
  case atStart => exact ⟨_, rfl, H, HB⟩
  case round =>
    obtain ⟨i_3l0, rfl, H, HBwr0⟩ := hrel
    rename World => wr0
    cases gk with
    | zero => exact (loop_zero H).elim
    | succ m0 =>
      replace H := loop_succ H
      unfold l0 at H
      replace H := let_hid H
      obtain ⟨_, rfl, H⟩ := H
      replace H := let_hid H
      obtain ⟨t_5, ht_5, H⟩ := H
      replace H := join_hid H
      cases t_5 with
      | false =>
        replace H := ite_f H
        replace H := app_hid H
        replace H := ite_f H
        replace H := app_hid H
        unfold e0 at H
        replace H := let_hid H
        obtain ⟨_, rfl, H⟩ := H
        replace H := let_hid H
        obtain ⟨t_85, ht_85, H⟩ := H
        obtain rfl := ret_hid H
        go_wp2_with fail
        go_ret
        exact ⟨rfl, HBwr0.out⟩
      | true =>
        replace H := ite_t H
        replace H := let_hid H
        obtain ⟨t_8, ht_8, H⟩ := H
        replace H := app_hid H
        cases t_8 with
        | false =>
          replace H := ite_f H
          replace H := app_hid H
          unfold e0 at H
          replace H := let_hid H
          obtain ⟨_, rfl, H⟩ := H
          replace H := let_hid H
          obtain ⟨t_85, ht_85, H⟩ := H
          obtain rfl := ret_hid H
          go_wp2_with fail
          go_ret
          exact ⟨rfl, HBwr0.out⟩
        | true =>
          replace H := ite_t H
          go_wp2_with fail
          replace H := idx_hid H
          obtain ⟨nt_12, yt_12, et_12, lt_12, gt_12, H⟩ := H
          subst et_12
          have nc_566 : nt_12 < list.length := by have := of_decide_eq_true ht_5; omega
          have nc_567 : nt_12 ≤ 16 := by have := of_decide_eq_true ht_8; omega
          obtain ⟨t_12_zone, t_12_grams, t_12_from_, t_12_until_, t_12_cents⟩ := yt_12
          replace H := unRate_hid H
          obtain ⟨ab_t_12, ao_t_12, zt_12, At_12, z_t_12, ct_12_0, ct_12_1, ct_12_2, ct_12_3, ct_12_4⟩ := Go.Proofs.Ytlljmgphgmklcaa.ORate.at_ M0.out lt_12
          obtain rfl := Option.some.inj (gt_12.out.symm.trans z_t_12)
          subst At_12
          have ltt_12 := cell_lt ct_12_0
          replace ct_12_0 := cell_below HBwr0.out ct_12_0
          replace ct_12_1 := cell_below HBwr0.out ct_12_1
          replace ct_12_2 := cell_below HBwr0.out ct_12_2
          replace ct_12_3 := cell_below HBwr0.out ct_12_3
          replace ct_12_4 := cell_below HBwr0.out ct_12_4
          clear z_t_12
          have b0t_12 : (0 : Int) ≤ (nt_12 : Int) := by omega
          have b1t_12 : (nt_12 : Int) < ((list.length : Nat) : Int) := by omega
          have b2t_12 : ((nt_12 : Int)).toNat = nt_12 := by omega
          have Hct_12_0 := Lib.hid ct_12_0
          replace ct_12_0 := cell_regrown ct_12_0
          have Hct_12_1 := Lib.hid ct_12_1
          replace ct_12_1 := cell_regrown ct_12_1
          have Hct_12_2 := Lib.hid ct_12_2
          replace ct_12_2 := cell_regrown ct_12_2
          have Hct_12_3 := Lib.hid ct_12_3
          replace ct_12_3 := cell_regrown ct_12_3
          have Hct_12_4 := Lib.hid ct_12_4
          replace ct_12_4 := cell_regrown ct_12_4
          replace H := bind_hid H
          obtain ⟨t_14, qt_14, H⟩ := H
          have nt_14 : ∀ d os, Calls Try.prog 141 #[.agg #[.int .i64 t_12_zone, .int .i64 t_12_grams, .int .i64 t_12_from_, .int .i64 t_12_until_, .int .i64 t_12_cents]] (Go.Sort.grow (redrawn wr0 d) os) fun e w'' => e = .returned (.bool t_14) ∧ ∃ p : Regrown, w'' = Go.Sort.grow (redrawn wr0 p.d) p.os := fun d os => Calls.regrown_of (Go.Proofs.Ytlljmgphgmklcaa.GsL8One.C ((Go.Proofs.Ytlljmgphgmklcaa.PRate.Rate.mk t_12_zone t_12_grams t_12_from_ t_12_until_ t_12_cents))  _    qt_14)
          cases t_14 with
          | false =>
            replace H := let_hid H
            obtain ⟨t_15, ht_15, H⟩ := H
            obtain rfl : t_15 = true := ht_15.symm
            replace H := join_hid H
            replace H := ite_t H
            replace H := app_hid H
            refine wp_region_quiet_below (by kernel_rfl) (by kernel_rfl) ?_
            repeat (go_big_quiet_step (first | (go_at_call 141; exact nt_14 _ _)))
            refine wpQuiet_nil ?_
            intro Y4 hY4
            replace hY4 := below_class hY4
            clear nt_14
            replace ct_12_0 := Hct_12_0.out
            clear Hct_12_0
            replace ct_12_1 := Hct_12_1.out
            clear Hct_12_1
            replace ct_12_2 := Hct_12_2.out
            clear Hct_12_2
            replace ct_12_3 := Hct_12_3.out
            clear Hct_12_3
            replace ct_12_4 := Hct_12_4.out
            clear Hct_12_4
            have HBY4 := Lib.hid (Below.step HBwr0.out hY4)
            replace ct_12_0 := cell_below hY4 ct_12_0
            replace ct_12_1 := cell_below hY4 ct_12_1
            replace ct_12_2 := cell_below hY4 ct_12_2
            replace ct_12_3 := cell_below hY4 ct_12_3
            replace ct_12_4 := cell_below hY4 ct_12_4
            clear hY4
            replace H := ite_t H
            obtain rfl := ret_hid H
            go_wp2_with fail
            go_ret
            exact ⟨rfl, HBY4.out⟩
          | true =>
            replace H := let_hid H
            obtain ⟨t_15, ht_15, H⟩ := H
            obtain rfl : t_15 = false := ht_15.symm
            replace H := join_hid H
            replace H := ite_f H
            replace H := let_hid H
            obtain ⟨t_18, ht_18, H⟩ := H
            replace H := join_hid H
            cases t_18 with
            | false =>
              have nht_18 : ¬ (0 < nt_12) := by have := of_decide_eq_false ht_18; omega
              replace H := ite_f H
              replace H := app_hid H
              replace H := app_hid H
              refine wp_region_quiet_below (by kernel_rfl) (by kernel_rfl) ?_
              repeat (go_big_quiet_step (first | (go_at_call 141; exact nt_14 _ _)))
              refine wpQuiet_nil ?_
              intro Y4 hY4
              replace hY4 := below_class hY4
              clear nt_14
              replace ct_12_0 := Hct_12_0.out
              clear Hct_12_0
              replace ct_12_1 := Hct_12_1.out
              clear Hct_12_1
              replace ct_12_2 := Hct_12_2.out
              clear Hct_12_2
              replace ct_12_3 := Hct_12_3.out
              clear Hct_12_3
              replace ct_12_4 := Hct_12_4.out
              clear Hct_12_4
              have HBY4 := Lib.hid (Below.step HBwr0.out hY4)
              replace ct_12_0 := cell_below hY4 ct_12_0
              replace ct_12_1 := cell_below hY4 ct_12_1
              replace ct_12_2 := cell_below hY4 ct_12_2
              replace ct_12_3 := cell_below hY4 ct_12_3
              replace ct_12_4 := cell_below hY4 ct_12_4
              clear hY4
              replace H := ite_f H
              go_wp2_with fail
              have Hct_12_0 := Lib.hid ct_12_0
              replace ct_12_0 := cell_regrown ct_12_0
              have Hct_12_1 := Lib.hid ct_12_1
              replace ct_12_1 := cell_regrown ct_12_1
              have Hct_12_2 := Lib.hid ct_12_2
              replace ct_12_2 := cell_regrown ct_12_2
              have Hct_12_3 := Lib.hid ct_12_3
              replace ct_12_3 := cell_regrown ct_12_3
              have Hct_12_4 := Lib.hid ct_12_4
              replace ct_12_4 := cell_regrown ct_12_4
              replace H := let_hid H
              obtain ⟨t_36, ht_36, H⟩ := H
              obtain rfl := ht_18.symm.trans ht_36
              replace H := join_hid H
              replace H := ite_f H
              replace H := app_hid H
              replace H := join_hid H
              replace H := ite_f H
              replace H := app_hid H
              replace H := join_hid H
              replace H := ite_f H
              replace H := app_hid H
              refine wp_region_quiet_below (by kernel_rfl) (by kernel_rfl) ?_
              repeat (go_big_quiet_step (fail))
              refine wpQuiet_nil ?_
              intro Y6 hY6
              replace hY6 := below_class hY6
              replace ct_12_0 := Hct_12_0.out
              clear Hct_12_0
              replace ct_12_1 := Hct_12_1.out
              clear Hct_12_1
              replace ct_12_2 := Hct_12_2.out
              clear Hct_12_2
              replace ct_12_3 := Hct_12_3.out
              clear Hct_12_3
              replace ct_12_4 := Hct_12_4.out
              clear Hct_12_4
              have HBY6 := Lib.hid (Below.step HBY4.out hY6)
              replace ct_12_0 := cell_below hY6 ct_12_0
              replace ct_12_1 := cell_below hY6 ct_12_1
              replace ct_12_2 := cell_below hY6 ct_12_2
              replace ct_12_3 := cell_below hY6 ct_12_3
              replace ct_12_4 := cell_below hY6 ct_12_4
              clear hY6
              replace H := ite_f H
              replace H := let_hid H
              obtain ⟨t_81, ht_81, H⟩ := H
              replace H := app_hid H
              go_wp2_with fail
              go_roundg m0
              case measure => omega
              case rel => exact ⟨_, rfl, H, HBY6⟩
            | true =>
              have nht_18 : 0 < nt_12 := by have := of_decide_eq_true ht_18; omega
              replace H := ite_t H
              replace H := let_hid H
              obtain ⟨t_22, ht_22, H⟩ := H
              replace H := idx_hid H
              obtain ⟨nt_23, yt_23, et_23, lt_23, gt_23, H⟩ := H
              subst et_23
              obtain ⟨t_23_zone, t_23_grams, t_23_from_, t_23_until_, t_23_cents⟩ := yt_23
              replace H := unRate_hid H
              obtain ⟨ab_t_23, ao_t_23, zt_23, At_23, z_t_23, ct_23_0, ct_23_1, ct_23_2, ct_23_3, ct_23_4⟩ := Go.Proofs.Ytlljmgphgmklcaa.ORate.at_ M0.out lt_23
              obtain rfl := Option.some.inj (gt_23.out.symm.trans z_t_23)
              simp only [Option.some.injEq, Addr.mk.injEq] at At_23
              obtain ⟨rfl, rfl, _⟩ := At_23
              have ltt_23 := cell_lt ct_23_0
              replace ct_23_0 := cell_below HBwr0.out ct_23_0
              replace ct_23_1 := cell_below HBwr0.out ct_23_1
              replace ct_23_2 := cell_below HBwr0.out ct_23_2
              replace ct_23_3 := cell_below HBwr0.out ct_23_3
              replace ct_23_4 := cell_below HBwr0.out ct_23_4
              clear z_t_23
              have b0t_23 : (0 : Int) ≤ (nt_23 : Int) := by omega
              have b1t_23 : (nt_23 : Int) < ((list.length : Nat) : Int) := by omega
              have b2t_23 : ((nt_23 : Int)).toNat = nt_23 := by omega
              have Hct_23_0 := Lib.hid ct_23_0
              replace ct_23_0 := cell_regrown ct_23_0
              have Hct_23_1 := Lib.hid ct_23_1
              replace ct_23_1 := cell_regrown ct_23_1
              have Hct_23_2 := Lib.hid ct_23_2
              replace ct_23_2 := cell_regrown ct_23_2
              have Hct_23_3 := Lib.hid ct_23_3
              replace ct_23_3 := cell_regrown ct_23_3
              have Hct_23_4 := Lib.hid ct_23_4
              replace ct_23_4 := cell_regrown ct_23_4
              replace H := bind_hid H
              obtain ⟨t_25, qt_25, H⟩ := H
              have nt_25 : ∀ d os, Calls Try.prog 142 #[.agg #[.int .i64 t_23_zone, .int .i64 t_23_grams, .int .i64 t_23_from_, .int .i64 t_23_until_, .int .i64 t_23_cents]] (Go.Sort.grow (redrawn wr0 d) os) fun e w'' => e = .returned (.int .i64 t_25) ∧ ∃ p : Regrown, w'' = Go.Sort.grow (redrawn wr0 p.d) p.os := fun d os => Calls.regrown_of (Go.Proofs.Ytlljmgphgmklcaa.GsL8Code.C ((Go.Proofs.Ytlljmgphgmklcaa.PRate.Rate.mk t_23_zone t_23_grams t_23_from_ t_23_until_ t_23_cents))  _    qt_25)
              replace H := idx_hid H
              obtain ⟨nt_28, yt_28, et_28, lt_28, gt_28, H⟩ := H
              obtain rfl : nt_12 = nt_28 := by omega
              clear et_28
              obtain rfl := Option.some.inj (gt_12.out.symm.trans gt_28.out)
              clear gt_28 lt_28
              replace H := unRate_hid H
              replace H := bind_hid H
              obtain ⟨t_30, qt_30, H⟩ := H
              have nt_30 : ∀ d os, Calls Try.prog 142 #[.agg #[.int .i64 t_12_zone, .int .i64 t_12_grams, .int .i64 t_12_from_, .int .i64 t_12_until_, .int .i64 t_12_cents]] (Go.Sort.grow (redrawn wr0 d) os) fun e w'' => e = .returned (.int .i64 t_30) ∧ ∃ p : Regrown, w'' = Go.Sort.grow (redrawn wr0 p.d) p.os := fun d os => Calls.regrown_of (Go.Proofs.Ytlljmgphgmklcaa.GsL8Code.C ((Go.Proofs.Ytlljmgphgmklcaa.PRate.Rate.mk t_12_zone t_12_grams t_12_from_ t_12_until_ t_12_cents))  _    qt_30)
              replace H := let_hid H
              obtain ⟨t_31, ht_31, H⟩ := H
              replace H := app_hid H
              replace H := app_hid H
              refine wp_region_quiet_below (by kernel_rfl) (by kernel_rfl) ?_
              repeat (go_big_quiet_step (first | (go_at_call 142; with_reducible exact nt_25 _ _) | (go_at_call 142; with_reducible exact nt_30 _ _) | (go_at_call 141; exact nt_14 _ _) | (go_at_call 142; exact nt_25 _ _) | (go_at_call 142; exact nt_30 _ _)))
              refine wpQuiet_nil ?_
              intro Y4 hY4
              replace hY4 := below_class hY4
              clear nt_14 nt_25 nt_30
              replace ct_12_0 := Hct_12_0.out
              clear Hct_12_0
              replace ct_12_1 := Hct_12_1.out
              clear Hct_12_1
              replace ct_12_2 := Hct_12_2.out
              clear Hct_12_2
              replace ct_12_3 := Hct_12_3.out
              clear Hct_12_3
              replace ct_12_4 := Hct_12_4.out
              clear Hct_12_4
              replace ct_23_0 := Hct_23_0.out
              clear Hct_23_0
              replace ct_23_1 := Hct_23_1.out
              clear Hct_23_1
              replace ct_23_2 := Hct_23_2.out
              clear Hct_23_2
              replace ct_23_3 := Hct_23_3.out
              clear Hct_23_3
              replace ct_23_4 := Hct_23_4.out
              clear Hct_23_4
              have HBY4 := Lib.hid (Below.step HBwr0.out hY4)
              replace ct_12_0 := cell_below hY4 ct_12_0
              replace ct_12_1 := cell_below hY4 ct_12_1
              replace ct_12_2 := cell_below hY4 ct_12_2
              replace ct_12_3 := cell_below hY4 ct_12_3
              replace ct_12_4 := cell_below hY4 ct_12_4
              replace ct_23_0 := cell_below hY4 ct_23_0
              replace ct_23_1 := cell_below hY4 ct_23_1
              replace ct_23_2 := cell_below hY4 ct_23_2
              replace ct_23_3 := cell_below hY4 ct_23_3
              replace ct_23_4 := cell_below hY4 ct_23_4
              clear hY4
              cases t_31 with
              | false =>
                replace H := ite_f H
                go_wp2_with fail
                have Hct_12_0 := Lib.hid ct_12_0
                replace ct_12_0 := cell_regrown ct_12_0
                have Hct_12_1 := Lib.hid ct_12_1
                replace ct_12_1 := cell_regrown ct_12_1
                have Hct_12_2 := Lib.hid ct_12_2
                replace ct_12_2 := cell_regrown ct_12_2
                have Hct_12_3 := Lib.hid ct_12_3
                replace ct_12_3 := cell_regrown ct_12_3
                have Hct_12_4 := Lib.hid ct_12_4
                replace ct_12_4 := cell_regrown ct_12_4
                have Hct_23_0 := Lib.hid ct_23_0
                replace ct_23_0 := cell_regrown ct_23_0
                have Hct_23_1 := Lib.hid ct_23_1
                replace ct_23_1 := cell_regrown ct_23_1
                have Hct_23_2 := Lib.hid ct_23_2
                replace ct_23_2 := cell_regrown ct_23_2
                have Hct_23_3 := Lib.hid ct_23_3
                replace ct_23_3 := cell_regrown ct_23_3
                have Hct_23_4 := Lib.hid ct_23_4
                replace ct_23_4 := cell_regrown ct_23_4
                replace H := let_hid H
                obtain ⟨t_36, ht_36, H⟩ := H
                obtain rfl := ht_18.symm.trans ht_36
                replace H := join_hid H
                replace H := ite_t H
                replace H := let_hid H
                obtain ⟨t_40, ht_40, H⟩ := H
                obtain rfl := ht_22.symm.trans ht_40
                replace H := idx_hid H
                obtain ⟨nt_41, yt_41, et_41, lt_41, gt_41, H⟩ := H
                obtain rfl : nt_23 = nt_41 := by omega
                clear et_41
                obtain rfl := Option.some.inj (gt_23.out.symm.trans gt_41.out)
                clear gt_41 lt_41
                replace H := unRate_hid H
                replace H := idx_hid H
                obtain ⟨nt_46, yt_46, et_46, lt_46, gt_46, H⟩ := H
                obtain rfl : nt_12 = nt_46 := by omega
                clear et_46
                obtain rfl := Option.some.inj (gt_12.out.symm.trans gt_46.out)
                clear gt_46 lt_46
                replace H := unRate_hid H
                replace H := let_hid H
                obtain ⟨t_49, ht_49, H⟩ := H
                replace H := app_hid H
                replace H := join_hid H
                cases t_49 with
                | false =>
                  replace H := ite_f H
                  replace H := app_hid H
                  replace H := join_hid H
                  replace H := ite_f H
                  replace H := app_hid H
                  refine wp_region_quiet_below (by kernel_rfl) (by kernel_rfl) ?_
                  repeat (go_big_quiet_step (fail))
                  refine wpQuiet_nil ?_
                  intro Y6 hY6
                  replace hY6 := below_class hY6
                  replace ct_12_0 := Hct_12_0.out
                  clear Hct_12_0
                  replace ct_12_1 := Hct_12_1.out
                  clear Hct_12_1
                  replace ct_12_2 := Hct_12_2.out
                  clear Hct_12_2
                  replace ct_12_3 := Hct_12_3.out
                  clear Hct_12_3
                  replace ct_12_4 := Hct_12_4.out
                  clear Hct_12_4
                  replace ct_23_0 := Hct_23_0.out
                  clear Hct_23_0
                  replace ct_23_1 := Hct_23_1.out
                  clear Hct_23_1
                  replace ct_23_2 := Hct_23_2.out
                  clear Hct_23_2
                  replace ct_23_3 := Hct_23_3.out
                  clear Hct_23_3
                  replace ct_23_4 := Hct_23_4.out
                  clear Hct_23_4
                  have HBY6 := Lib.hid (Below.step HBY4.out hY6)
                  replace ct_12_0 := cell_below hY6 ct_12_0
                  replace ct_12_1 := cell_below hY6 ct_12_1
                  replace ct_12_2 := cell_below hY6 ct_12_2
                  replace ct_12_3 := cell_below hY6 ct_12_3
                  replace ct_12_4 := cell_below hY6 ct_12_4
                  replace ct_23_0 := cell_below hY6 ct_23_0
                  replace ct_23_1 := cell_below hY6 ct_23_1
                  replace ct_23_2 := cell_below hY6 ct_23_2
                  replace ct_23_3 := cell_below hY6 ct_23_3
                  replace ct_23_4 := cell_below hY6 ct_23_4
                  clear hY6
                  replace H := ite_f H
                  replace H := let_hid H
                  obtain ⟨t_81, ht_81, H⟩ := H
                  replace H := app_hid H
                  go_wp2_with fail
                  go_roundg m0
                  case measure => omega
                  case rel => exact ⟨_, rfl, H, HBY6⟩
                | true =>
                  replace H := ite_t H
                  replace H := let_hid H
                  obtain ⟨t_54, ht_54, H⟩ := H
                  obtain rfl := ht_22.symm.trans ht_54
                  replace H := idx_hid H
                  obtain ⟨nt_55, yt_55, et_55, lt_55, gt_55, H⟩ := H
                  obtain rfl : nt_23 = nt_55 := by omega
                  clear et_55
                  obtain rfl := Option.some.inj (gt_23.out.symm.trans gt_55.out)
                  clear gt_55 lt_55
                  replace H := unRate_hid H
                  replace H := idx_hid H
                  obtain ⟨nt_60, yt_60, et_60, lt_60, gt_60, H⟩ := H
                  obtain rfl : nt_12 = nt_60 := by omega
                  clear et_60
                  obtain rfl := Option.some.inj (gt_12.out.symm.trans gt_60.out)
                  clear gt_60 lt_60
                  replace H := unRate_hid H
                  replace H := let_hid H
                  obtain ⟨t_63, ht_63, H⟩ := H
                  replace H := app_hid H
                  replace H := join_hid H
                  cases t_63 with
                  | false =>
                    replace H := ite_f H
                    replace H := app_hid H
                    refine wp_region_quiet_below (by kernel_rfl) (by kernel_rfl) ?_
                    repeat (go_big_quiet_step (fail))
                    refine wpQuiet_nil ?_
                    intro Y6 hY6
                    replace hY6 := below_class hY6
                    replace ct_12_0 := Hct_12_0.out
                    clear Hct_12_0
                    replace ct_12_1 := Hct_12_1.out
                    clear Hct_12_1
                    replace ct_12_2 := Hct_12_2.out
                    clear Hct_12_2
                    replace ct_12_3 := Hct_12_3.out
                    clear Hct_12_3
                    replace ct_12_4 := Hct_12_4.out
                    clear Hct_12_4
                    replace ct_23_0 := Hct_23_0.out
                    clear Hct_23_0
                    replace ct_23_1 := Hct_23_1.out
                    clear Hct_23_1
                    replace ct_23_2 := Hct_23_2.out
                    clear Hct_23_2
                    replace ct_23_3 := Hct_23_3.out
                    clear Hct_23_3
                    replace ct_23_4 := Hct_23_4.out
                    clear Hct_23_4
                    have HBY6 := Lib.hid (Below.step HBY4.out hY6)
                    replace ct_12_0 := cell_below hY6 ct_12_0
                    replace ct_12_1 := cell_below hY6 ct_12_1
                    replace ct_12_2 := cell_below hY6 ct_12_2
                    replace ct_12_3 := cell_below hY6 ct_12_3
                    replace ct_12_4 := cell_below hY6 ct_12_4
                    replace ct_23_0 := cell_below hY6 ct_23_0
                    replace ct_23_1 := cell_below hY6 ct_23_1
                    replace ct_23_2 := cell_below hY6 ct_23_2
                    replace ct_23_3 := cell_below hY6 ct_23_3
                    replace ct_23_4 := cell_below hY6 ct_23_4
                    clear hY6
                    replace H := ite_f H
                    replace H := let_hid H
                    obtain ⟨t_81, ht_81, H⟩ := H
                    replace H := app_hid H
                    go_wp2_with fail
                    go_roundg m0
                    case measure => omega
                    case rel => exact ⟨_, rfl, H, HBY6⟩
                  | true =>
                    replace H := ite_t H
                    replace H := let_hid H
                    obtain ⟨t_68, ht_68, H⟩ := H
                    obtain rfl := ht_22.symm.trans ht_68
                    replace H := idx_hid H
                    obtain ⟨nt_69, yt_69, et_69, lt_69, gt_69, H⟩ := H
                    obtain rfl : nt_23 = nt_69 := by omega
                    clear et_69
                    obtain rfl := Option.some.inj (gt_23.out.symm.trans gt_69.out)
                    clear gt_69 lt_69
                    replace H := unRate_hid H
                    replace H := idx_hid H
                    obtain ⟨nt_74, yt_74, et_74, lt_74, gt_74, H⟩ := H
                    obtain rfl : nt_12 = nt_74 := by omega
                    clear et_74
                    obtain rfl := Option.some.inj (gt_12.out.symm.trans gt_74.out)
                    clear gt_74 lt_74
                    replace H := unRate_hid H
                    replace H := let_hid H
                    obtain ⟨t_77, ht_77, H⟩ := H
                    replace H := app_hid H
                    refine wp_region_quiet_below (by kernel_rfl) (by kernel_rfl) ?_
                    repeat (go_big_quiet_step (fail))
                    refine wpQuiet_nil ?_
                    intro Y6 hY6
                    replace hY6 := below_class hY6
                    replace ct_12_0 := Hct_12_0.out
                    clear Hct_12_0
                    replace ct_12_1 := Hct_12_1.out
                    clear Hct_12_1
                    replace ct_12_2 := Hct_12_2.out
                    clear Hct_12_2
                    replace ct_12_3 := Hct_12_3.out
                    clear Hct_12_3
                    replace ct_12_4 := Hct_12_4.out
                    clear Hct_12_4
                    replace ct_23_0 := Hct_23_0.out
                    clear Hct_23_0
                    replace ct_23_1 := Hct_23_1.out
                    clear Hct_23_1
                    replace ct_23_2 := Hct_23_2.out
                    clear Hct_23_2
                    replace ct_23_3 := Hct_23_3.out
                    clear Hct_23_3
                    replace ct_23_4 := Hct_23_4.out
                    clear Hct_23_4
                    have HBY6 := Lib.hid (Below.step HBY4.out hY6)
                    replace ct_12_0 := cell_below hY6 ct_12_0
                    replace ct_12_1 := cell_below hY6 ct_12_1
                    replace ct_12_2 := cell_below hY6 ct_12_2
                    replace ct_12_3 := cell_below hY6 ct_12_3
                    replace ct_12_4 := cell_below hY6 ct_12_4
                    replace ct_23_0 := cell_below hY6 ct_23_0
                    replace ct_23_1 := cell_below hY6 ct_23_1
                    replace ct_23_2 := cell_below hY6 ct_23_2
                    replace ct_23_3 := cell_below hY6 ct_23_3
                    replace ct_23_4 := cell_below hY6 ct_23_4
                    clear hY6
                    cases t_77 with
                    | false =>
                      replace H := ite_f H
                      replace H := let_hid H
                      obtain ⟨t_81, ht_81, H⟩ := H
                      replace H := app_hid H
                      go_wp2_with fail
                      go_roundg m0
                      case measure => omega
                      case rel => exact ⟨_, rfl, H, HBY6⟩
                    | true =>
                      replace H := ite_t H
                      obtain rfl := ret_hid H
                      go_wp2_with fail
                      go_ret
                      exact ⟨rfl, HBY6.out⟩
              | true =>
                replace H := ite_t H
                obtain rfl := ret_hid H
                go_wp2_with fail
                go_ret
                exact ⟨rfl, HBY4.out⟩
end Go.Proofs.Ytlljmgphgmklcaa.GsL8Good

