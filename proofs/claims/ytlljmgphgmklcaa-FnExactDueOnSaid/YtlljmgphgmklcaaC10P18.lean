/- Texts on which the proofs of several laws stand, one behind the other (18 of 21). No condition of their own. -/
import Derived.Test.YtlljmgphgmklcaaChecked
import Derived.Test.YtlljmgphgmklcaaC10P1
import Derived.WalkKit
import Derived.WalkSpells
import Derived.WalkLawsBesides
import Derived.BigQuiet
import Derived.OwnWalk
import Derived.Deep.LoopGhost
import Derived.Deep.QuietTactic
import Derived.IntWalk
import Derived.Lib.QuietBelow
import Derived.Test.YtlljmgphgmklcaaC10P2
import Derived.Test.YtlljmgphgmklcaaC10P4
import Derived.Test.YtlljmgphgmklcaaC10P6
import Derived.Test.YtlljmgphgmklcaaC10P3
import Derived.Test.YtlljmgphgmklcaaC10P7
import Derived.Test.YtlljmgphgmklcaaC10P5
import Derived.Test.YtlljmgphgmklcaaC10P8
import Derived.Deep.RegionHeld3
import Derived.Test.YtlljmgphgmklcaaC10P9
/- loop.example/g01062/spec.l1Most as a plain function, and the contract of the program's: where the plain one has an answer, the program has it. Conditions: slices read as lists. -/
namespace Go.Proofs.Ytlljmgphgmklcaa.GsL1Most
set_option linter.unusedVariables false
set_option linter.unusedSimpArgs false
open Go.RowKit
open Go.Proofs.Ytlljmgphgmklcaa.Rowed Go.Proofs.Ytlljmgphgmklcaa.Turn Go.Proofs.Ytlljmgphgmklcaa.Aid Go.Proofs.Ytlljmgphgmklcaa.GoP Go.Proofs.Ytlljmgphgmklcaa.GoM

def P (a : Int) (b : Int) : Option (Int) :=
  letK (decide (b < a)) fun (t_3 : Bool) =>
  iteK t_3
  (some a)
  (some b)

set_option maxRecDepth 100000 in
set_option maxHeartbeats 2000000 in
theorem C (a : Int) (b : Int)   (w : World)   {r : Int} (H : Hid (P a b = some r)) :
    Calls Try.prog 101 #[.int .i64 a, .int .i64 b] w (Gives (.int .i64 r) w) := by
  have HB := Lib.hid (Below.refl w.heap.size w)
  unfold P at H
  go_enter Try.func101, Try.ntmps101
  replace H := let_hid H
  obtain ⟨t_3, ht_3, H⟩ := H
  cases t_3 with
  | false =>
    replace H := ite_f H
    obtain rfl := ret_hid H
    go_wp2_with fail
    go_ret
    exact ⟨rfl, HB.out⟩
  | true =>
    replace H := ite_t H
    obtain rfl := ret_hid H
    go_wp2_with fail
    go_ret
    exact ⟨rfl, HB.out⟩

set_option maxRecDepth 100000 in
set_option maxHeartbeats 2000000 in
theorem C0 (a : Int) (b : Int)   (w : World)   {r : Int} (H : Hid (P a b = some r)) :
    Calls Try.prog 101 #[.int .i64 a, .int .i64 b] w (fun e w'' => e = .returned (.int .i64 r) ∧ w'' = w) := by
  have HB := Lib.hid (Below.refl w.heap.size w)
  unfold P at H
  go_enter Try.func101, Try.ntmps101
  replace H := let_hid H
  obtain ⟨t_3, ht_3, H⟩ := H
  cases t_3 with
  | false =>
    replace H := ite_f H
    obtain rfl := ret_hid H
    go_wp2_with fail
    go_ret
    exact ⟨rfl, rfl⟩
  | true =>
    replace H := ite_t H
    obtain rfl := ret_hid H
    go_wp2_with fail
    go_ret
    exact ⟨rfl, rfl⟩
end Go.Proofs.Ytlljmgphgmklcaa.GsL1Most

/- loop.example/g01062/spec.DueOn as a plain function, and the contract of the program's: where the plain one has an answer, the program has it. Conditions: slices read as lists. -/
namespace Go.Proofs.Ytlljmgphgmklcaa.GsDueOn
set_option linter.unusedVariables false
set_option linter.unusedSimpArgs false
open Go.RowKit
open Go.Proofs.Ytlljmgphgmklcaa.Rowed Go.Proofs.Ytlljmgphgmklcaa.Turn Go.Proofs.Ytlljmgphgmklcaa.Aid Go.Proofs.Ytlljmgphgmklcaa.GoP Go.Proofs.Ytlljmgphgmklcaa.GoM

def P (fuel : Nat) (rates : (List Go.Proofs.Ytlljmgphgmklcaa.PRate.Rate)) (x : Go.Proofs.Ytlljmgphgmklcaa.PCover.Cover) : Option (Int × Bool) :=
  unCover x fun (x_id : Int) (x_day : Int) (x_zone : Int) (x_grams : Int) (x_paid : Int) (x_from_ : Int) (x_to_ : Int) (x_leave : Int) (x_arrive : Int) =>
  Option.bind (Go.Proofs.Ytlljmgphgmklcaa.GsL8Good.P fuel rates) fun (t_4 : Bool) =>
  letK (!t_4) fun (t_5 : Bool) =>
  joinK (fun (t_10 : Bool) =>
  iteK t_10
  (some (0, false))
  (Option.bind (Go.Proofs.Ytlljmgphgmklcaa.GsL8For.P rates x_day x_zone x_grams) fun (t_20 : Int) =>
  letK (t_20 == 0) fun (t_23 : Bool) =>
  iteK t_23
  (some (0, false))
  (letK (IntKind.i64.wrap (t_20 - x_paid)) fun (t_29 : Int) =>
  Option.bind (Go.Proofs.Ytlljmgphgmklcaa.GsL1Most.P 0 t_29) fun (t_30 : Int) =>
  letK (IntKind.i64.wrap (2 * t_30)) fun (t_31 : Int) =>
  some (t_31, true)))) fun jt_10 => iteK t_5 (appK jt_10 true) (Option.bind (Go.Proofs.Ytlljmgphgmklcaa.GsL10One.P (Go.Proofs.Ytlljmgphgmklcaa.PCover.Cover.mk x_id x_day x_zone x_grams x_paid x_from_ x_to_ x_leave x_arrive)) fun (t_8 : Bool) =>
  letK (!t_8) fun (t_9 : Bool) =>
  appK jt_10 t_9)

set_option maxRecDepth 100000 in
set_option maxHeartbeats 2000000 in
theorem C (fuel : Nat) (rates : (List Go.Proofs.Ytlljmgphgmklcaa.PRate.Rate)) (x : Go.Proofs.Ytlljmgphgmklcaa.PCover.Cover) (A0 : Option Addr) (c0 : Nat)  (w : World) (M0 : Hid (Cells w 5 A0 rates.length (Go.Proofs.Ytlljmgphgmklcaa.PRate.flat rates))) (N0 : Hid (rates.length ≤ 9223372036854775807))  {r0 : Int} {r1 : Bool} (H : Hid (P fuel rates x = some (r0, r1))) :
    Calls Try.prog 43 #[.slice A0 rates.length c0, x.val] w (Gives (.tuple #[.int .i64 r0, .bool r1]) w) := by
  have HB := Lib.hid (Below.refl w.heap.size w)
  unfold P at H
  obtain ⟨x_id, x_day, x_zone, x_grams, x_paid, x_from_, x_to_, x_leave, x_arrive⟩ := x
  replace H := unCover_hid H
  unfold Go.Proofs.Ytlljmgphgmklcaa.PCover.Cover.val
  have N0o := N0.out
  go_enter Try.func43, Try.ntmps43
  obtain ⟨w_x_0, hw_x_0⟩ : ∃ x, w.alloc (.cells #[.int .i64 x_id, .int .i64 x_day, .int .i64 x_zone, .int .i64 x_grams, .int .i64 x_paid, .int .i64 x_from_, .int .i64 x_to_, .int .i64 x_leave, .int .i64 x_arrive] 25) = x := ⟨_, rfl⟩
  have bw_x_0 : Below w.heap.size w w_x_0 := by rw [← hw_x_0]; exact (Below.refl _ _).alloc (Nat.le_refl _) _
  have HBw_x_0 := Lib.hid (Below.step HB.out bw_x_0)
  clear bw_x_0
  have kx_0_0 : w_x_0.cell? ⟨w.heap.size, 0, none⟩ = some (.int .i64 x_id) := by rw [← hw_x_0]; exact box_new _ _ _ 0 _ rfl
  have kx_0_1 : w_x_0.cell? ⟨w.heap.size, 1, none⟩ = some (.int .i64 x_day) := by rw [← hw_x_0]; exact box_new _ _ _ 1 _ rfl
  have kx_0_2 : w_x_0.cell? ⟨w.heap.size, 2, none⟩ = some (.int .i64 x_zone) := by rw [← hw_x_0]; exact box_new _ _ _ 2 _ rfl
  have kx_0_3 : w_x_0.cell? ⟨w.heap.size, 3, none⟩ = some (.int .i64 x_grams) := by rw [← hw_x_0]; exact box_new _ _ _ 3 _ rfl
  have kx_0_4 : w_x_0.cell? ⟨w.heap.size, 4, none⟩ = some (.int .i64 x_paid) := by rw [← hw_x_0]; exact box_new _ _ _ 4 _ rfl
  have kx_0_5 : w_x_0.cell? ⟨w.heap.size, 5, none⟩ = some (.int .i64 x_from_) := by rw [← hw_x_0]; exact box_new _ _ _ 5 _ rfl
  have kx_0_6 : w_x_0.cell? ⟨w.heap.size, 6, none⟩ = some (.int .i64 x_to_) := by rw [← hw_x_0]; exact box_new _ _ _ 6 _ rfl
  have kx_0_7 : w_x_0.cell? ⟨w.heap.size, 7, none⟩ = some (.int .i64 x_leave) := by rw [← hw_x_0]; exact box_new _ _ _ 7 _ rfl
  have kx_0_8 : w_x_0.cell? ⟨w.heap.size, 8, none⟩ = some (.int .i64 x_arrive) := by rw [← hw_x_0]; exact box_new _ _ _ 8 _ rfl
  replace H := bind_hid H
  obtain ⟨t_4, qt_4, H⟩ := H
  go_wp2_with fail
  go_at_call 89
  refine (Go.Proofs.Ytlljmgphgmklcaa.GsL8Good.C fuel (rates) A0 c0 _   (Lib.hid (Cells.below M0.out HBw_x_0.out)) N0 qt_4).mono ?_
  rintro e_t_4 wt_4 ⟨rfl, bt_4⟩
  have HBwt_4 := Lib.hid (Below.step HBw_x_0.out bt_4)
  replace kx_0_0 := cell_below bt_4 kx_0_0
  replace kx_0_1 := cell_below bt_4 kx_0_1
  replace kx_0_2 := cell_below bt_4 kx_0_2
  replace kx_0_3 := cell_below bt_4 kx_0_3
  replace kx_0_4 := cell_below bt_4 kx_0_4
  replace kx_0_5 := cell_below bt_4 kx_0_5
  replace kx_0_6 := cell_below bt_4 kx_0_6
  replace kx_0_7 := cell_below bt_4 kx_0_7
  replace kx_0_8 := cell_below bt_4 kx_0_8
  clear bt_4
  cases t_4 with
  | false =>
    replace H := let_hid H
    obtain ⟨t_5, ht_5, H⟩ := H
    obtain rfl : t_5 = true := ht_5.symm
    replace H := join_hid H
    replace H := ite_t H
    replace H := app_hid H
    replace H := ite_t H
    cases ret_hid H
    go_wp2_with fail
    go_ret2
    exact ⟨rfl, HBwt_4.out⟩
  | true =>
    replace H := let_hid H
    obtain ⟨t_5, ht_5, H⟩ := H
    obtain rfl : t_5 = false := ht_5.symm
    replace H := join_hid H
    replace H := ite_f H
    replace H := bind_hid H
    obtain ⟨t_8, qt_8, H⟩ := H
    go_wp2_with fail
    go_at_call 77
    refine (Go.Proofs.Ytlljmgphgmklcaa.GsL10One.C ((Go.Proofs.Ytlljmgphgmklcaa.PCover.Cover.mk x_id x_day x_zone x_grams x_paid x_from_ x_to_ x_leave x_arrive))  _    qt_8).mono ?_
    rintro e_t_8 wt_8 ⟨rfl, bt_8⟩
    have HBwt_8 := Lib.hid (Below.step HBwt_4.out bt_8)
    replace kx_0_0 := cell_below bt_8 kx_0_0
    replace kx_0_1 := cell_below bt_8 kx_0_1
    replace kx_0_2 := cell_below bt_8 kx_0_2
    replace kx_0_3 := cell_below bt_8 kx_0_3
    replace kx_0_4 := cell_below bt_8 kx_0_4
    replace kx_0_5 := cell_below bt_8 kx_0_5
    replace kx_0_6 := cell_below bt_8 kx_0_6
    replace kx_0_7 := cell_below bt_8 kx_0_7
    replace kx_0_8 := cell_below bt_8 kx_0_8
    clear bt_8
    cases t_8 with
    | false =>
      replace H := let_hid H
      obtain ⟨t_9, ht_9, H⟩ := H
      obtain rfl : t_9 = true := ht_9.symm
      replace H := app_hid H
      replace H := ite_t H
      cases ret_hid H
      go_wp2_with fail
      go_ret2
      exact ⟨rfl, HBwt_8.out⟩
    | true =>
      replace H := let_hid H
      obtain ⟨t_9, ht_9, H⟩ := H
      obtain rfl : t_9 = false := ht_9.symm
      replace H := app_hid H
      replace H := ite_f H
      replace H := bind_hid H
      obtain ⟨t_20, qt_20, H⟩ := H
      go_wp2_with fail
      go_at_call 100
      refine (Go.Proofs.Ytlljmgphgmklcaa.GsL8For.C (rates) (x_day) (x_zone) (x_grams) A0 c0 _   (Lib.hid (Cells.below M0.out HBwt_8.out)) N0 qt_20).mono ?_
      rintro e_t_20 wt_20 ⟨rfl, bt_20⟩
      have HBwt_20 := Lib.hid (Below.step HBwt_8.out bt_20)
      replace kx_0_0 := cell_below bt_20 kx_0_0
      replace kx_0_1 := cell_below bt_20 kx_0_1
      replace kx_0_2 := cell_below bt_20 kx_0_2
      replace kx_0_3 := cell_below bt_20 kx_0_3
      replace kx_0_4 := cell_below bt_20 kx_0_4
      replace kx_0_5 := cell_below bt_20 kx_0_5
      replace kx_0_6 := cell_below bt_20 kx_0_6
      replace kx_0_7 := cell_below bt_20 kx_0_7
      replace kx_0_8 := cell_below bt_20 kx_0_8
      clear bt_20
      replace H := let_hid H
      obtain ⟨t_23, ht_23, H⟩ := H
      cases t_23 with
      | false =>
        replace H := ite_f H
        replace H := let_hid H
        obtain ⟨t_29, ht_29, H⟩ := H
        replace H := bind_hid H
        obtain ⟨t_30, qt_30, H⟩ := H
        go_wp2_with fail
        go_at_call 101
        refine (Go.Proofs.Ytlljmgphgmklcaa.GsL1Most.C (0) (t_29)  _    qt_30).mono ?_
        rintro e_t_30 wt_30 ⟨rfl, bt_30⟩
        have HBwt_30 := Lib.hid (Below.step HBwt_20.out bt_30)
        replace kx_0_0 := cell_below bt_30 kx_0_0
        replace kx_0_1 := cell_below bt_30 kx_0_1
        replace kx_0_2 := cell_below bt_30 kx_0_2
        replace kx_0_3 := cell_below bt_30 kx_0_3
        replace kx_0_4 := cell_below bt_30 kx_0_4
        replace kx_0_5 := cell_below bt_30 kx_0_5
        replace kx_0_6 := cell_below bt_30 kx_0_6
        replace kx_0_7 := cell_below bt_30 kx_0_7
        replace kx_0_8 := cell_below bt_30 kx_0_8
        clear bt_30
        replace H := let_hid H
        obtain ⟨t_31, ht_31, H⟩ := H
        cases ret_hid H
        go_wp2_with fail
        go_ret2
        exact ⟨rfl, HBwt_30.out⟩
      | true =>
        replace H := ite_t H
        cases ret_hid H
        go_wp2_with fail
        go_ret2
        exact ⟨rfl, HBwt_20.out⟩
end Go.Proofs.Ytlljmgphgmklcaa.GsDueOn

/- loop.example/g01062/impl.DueOn as a plain function, and the contract of the program's: where the plain one has an answer, the program has it. Conditions: slices read as lists. -/
namespace Go.Proofs.Ytlljmgphgmklcaa.GiDueOn
set_option linter.unusedVariables false
set_option linter.unusedSimpArgs false
open Go.RowKit
open Go.Proofs.Ytlljmgphgmklcaa.Rowed Go.Proofs.Ytlljmgphgmklcaa.Turn Go.Proofs.Ytlljmgphgmklcaa.Aid Go.Proofs.Ytlljmgphgmklcaa.GoP Go.Proofs.Ytlljmgphgmklcaa.GoM

def P (rates : (List Go.Proofs.Ytlljmgphgmklcaa.PRate.Rate)) (x : Go.Proofs.Ytlljmgphgmklcaa.PCover.Cover) : Option (Int × Bool) :=
  unCover x fun (x_id : Int) (x_day : Int) (x_zone : Int) (x_grams : Int) (x_paid : Int) (x_from_ : Int) (x_to_ : Int) (x_leave : Int) (x_arrive : Int) =>
  Option.bind (Go.Proofs.Ytlljmgphgmklcaa.GiAreRates.P rates) fun (t_4 : Bool) =>
  letK (!t_4) fun (t_5 : Bool) =>
  joinK (fun (t_10 : Bool) =>
  iteK t_10
  (some (0, false))
  (Option.bind (Go.Proofs.Ytlljmgphgmklcaa.GiRateOfCover.P rates (Go.Proofs.Ytlljmgphgmklcaa.PCover.Cover.mk x_id x_day x_zone x_grams x_paid x_from_ x_to_ x_leave x_arrive)) fun (t_15 : Int) =>
  letK (t_15 == 0) fun (t_18 : Bool) =>
  iteK t_18
  (some (0, false))
  (letK (IntKind.i64.wrap (t_15 - x_paid)) fun (t_24 : Int) =>
  letK (max t_24 0) fun (t_25 : Int) =>
  letK (IntKind.i64.wrap (2 * t_25)) fun (t_26 : Int) =>
  some (t_26, true)))) fun jt_10 => iteK t_5 (appK jt_10 true) (Option.bind (Go.Proofs.Ytlljmgphgmklcaa.GiIsCover.P (Go.Proofs.Ytlljmgphgmklcaa.PCover.Cover.mk x_id x_day x_zone x_grams x_paid x_from_ x_to_ x_leave x_arrive)) fun (t_8 : Bool) =>
  letK (!t_8) fun (t_9 : Bool) =>
  appK jt_10 t_9)

set_option maxRecDepth 100000 in
set_option maxHeartbeats 2000000 in
theorem C (rates : (List Go.Proofs.Ytlljmgphgmklcaa.PRate.Rate)) (x : Go.Proofs.Ytlljmgphgmklcaa.PCover.Cover) (A0 : Option Addr) (c0 : Nat)  (w : World) (M0 : Hid (Cells w 5 A0 rates.length (Go.Proofs.Ytlljmgphgmklcaa.PRate.flat rates))) (N0 : Hid (rates.length ≤ 9223372036854775807))  {r0 : Int} {r1 : Bool} (H : Hid (P rates x = some (r0, r1))) :
    Calls Try.prog 44 #[.slice A0 rates.length c0, x.val] w (Gives (.tuple #[.int .i64 r0, .bool r1]) w) := by
  have HB := Lib.hid (Below.refl w.heap.size w)
  unfold P at H
  obtain ⟨x_id, x_day, x_zone, x_grams, x_paid, x_from_, x_to_, x_leave, x_arrive⟩ := x
  replace H := unCover_hid H
  unfold Go.Proofs.Ytlljmgphgmklcaa.PCover.Cover.val
  have N0o := N0.out
  go_enter Try.func44, Try.ntmps44
  obtain ⟨w_x_0, hw_x_0⟩ : ∃ x, w.alloc (.cells #[.int .i64 x_id, .int .i64 x_day, .int .i64 x_zone, .int .i64 x_grams, .int .i64 x_paid, .int .i64 x_from_, .int .i64 x_to_, .int .i64 x_leave, .int .i64 x_arrive] 25) = x := ⟨_, rfl⟩
  have bw_x_0 : Below w.heap.size w w_x_0 := by rw [← hw_x_0]; exact (Below.refl _ _).alloc (Nat.le_refl _) _
  have HBw_x_0 := Lib.hid (Below.step HB.out bw_x_0)
  clear bw_x_0
  have kx_0_0 : w_x_0.cell? ⟨w.heap.size, 0, none⟩ = some (.int .i64 x_id) := by rw [← hw_x_0]; exact box_new _ _ _ 0 _ rfl
  have kx_0_1 : w_x_0.cell? ⟨w.heap.size, 1, none⟩ = some (.int .i64 x_day) := by rw [← hw_x_0]; exact box_new _ _ _ 1 _ rfl
  have kx_0_2 : w_x_0.cell? ⟨w.heap.size, 2, none⟩ = some (.int .i64 x_zone) := by rw [← hw_x_0]; exact box_new _ _ _ 2 _ rfl
  have kx_0_3 : w_x_0.cell? ⟨w.heap.size, 3, none⟩ = some (.int .i64 x_grams) := by rw [← hw_x_0]; exact box_new _ _ _ 3 _ rfl
  have kx_0_4 : w_x_0.cell? ⟨w.heap.size, 4, none⟩ = some (.int .i64 x_paid) := by rw [← hw_x_0]; exact box_new _ _ _ 4 _ rfl
  have kx_0_5 : w_x_0.cell? ⟨w.heap.size, 5, none⟩ = some (.int .i64 x_from_) := by rw [← hw_x_0]; exact box_new _ _ _ 5 _ rfl
  have kx_0_6 : w_x_0.cell? ⟨w.heap.size, 6, none⟩ = some (.int .i64 x_to_) := by rw [← hw_x_0]; exact box_new _ _ _ 6 _ rfl
  have kx_0_7 : w_x_0.cell? ⟨w.heap.size, 7, none⟩ = some (.int .i64 x_leave) := by rw [← hw_x_0]; exact box_new _ _ _ 7 _ rfl
  have kx_0_8 : w_x_0.cell? ⟨w.heap.size, 8, none⟩ = some (.int .i64 x_arrive) := by rw [← hw_x_0]; exact box_new _ _ _ 8 _ rfl
  replace H := bind_hid H
  obtain ⟨t_4, qt_4, H⟩ := H
  go_wp2_with fail
  go_at_call 67
  refine (Go.Proofs.Ytlljmgphgmklcaa.GiAreRates.C (rates) A0 c0 _   (Lib.hid (Cells.below M0.out HBw_x_0.out)) N0 qt_4).mono ?_
  rintro e_t_4 wt_4 ⟨rfl, bt_4⟩
  have HBwt_4 := Lib.hid (Below.step HBw_x_0.out bt_4)
  replace kx_0_0 := cell_below bt_4 kx_0_0
  replace kx_0_1 := cell_below bt_4 kx_0_1
  replace kx_0_2 := cell_below bt_4 kx_0_2
  replace kx_0_3 := cell_below bt_4 kx_0_3
  replace kx_0_4 := cell_below bt_4 kx_0_4
  replace kx_0_5 := cell_below bt_4 kx_0_5
  replace kx_0_6 := cell_below bt_4 kx_0_6
  replace kx_0_7 := cell_below bt_4 kx_0_7
  replace kx_0_8 := cell_below bt_4 kx_0_8
  clear bt_4
  cases t_4 with
  | false =>
    replace H := let_hid H
    obtain ⟨t_5, ht_5, H⟩ := H
    obtain rfl : t_5 = true := ht_5.symm
    replace H := join_hid H
    replace H := ite_t H
    replace H := app_hid H
    replace H := ite_t H
    cases ret_hid H
    go_wp2_with fail
    go_ret2
    exact ⟨rfl, HBwt_4.out⟩
  | true =>
    replace H := let_hid H
    obtain ⟨t_5, ht_5, H⟩ := H
    obtain rfl : t_5 = false := ht_5.symm
    replace H := join_hid H
    replace H := ite_f H
    replace H := bind_hid H
    obtain ⟨t_8, qt_8, H⟩ := H
    go_wp2_with fail
    go_at_call 18
    refine (Go.Proofs.Ytlljmgphgmklcaa.GiIsCover.C ((Go.Proofs.Ytlljmgphgmklcaa.PCover.Cover.mk x_id x_day x_zone x_grams x_paid x_from_ x_to_ x_leave x_arrive))  _    qt_8).mono ?_
    rintro e_t_8 wt_8 ⟨rfl, bt_8⟩
    have HBwt_8 := Lib.hid (Below.step HBwt_4.out bt_8)
    replace kx_0_0 := cell_below bt_8 kx_0_0
    replace kx_0_1 := cell_below bt_8 kx_0_1
    replace kx_0_2 := cell_below bt_8 kx_0_2
    replace kx_0_3 := cell_below bt_8 kx_0_3
    replace kx_0_4 := cell_below bt_8 kx_0_4
    replace kx_0_5 := cell_below bt_8 kx_0_5
    replace kx_0_6 := cell_below bt_8 kx_0_6
    replace kx_0_7 := cell_below bt_8 kx_0_7
    replace kx_0_8 := cell_below bt_8 kx_0_8
    clear bt_8
    cases t_8 with
    | false =>
      replace H := let_hid H
      obtain ⟨t_9, ht_9, H⟩ := H
      obtain rfl : t_9 = true := ht_9.symm
      replace H := app_hid H
      replace H := ite_t H
      cases ret_hid H
      go_wp2_with fail
      go_ret2
      exact ⟨rfl, HBwt_8.out⟩
    | true =>
      replace H := let_hid H
      obtain ⟨t_9, ht_9, H⟩ := H
      obtain rfl : t_9 = false := ht_9.symm
      replace H := app_hid H
      replace H := ite_f H
      replace H := bind_hid H
      obtain ⟨t_15, qt_15, H⟩ := H
      go_wp2_with fail
      go_at_call 102
      refine (Go.Proofs.Ytlljmgphgmklcaa.GiRateOfCover.C (rates) ((Go.Proofs.Ytlljmgphgmklcaa.PCover.Cover.mk x_id x_day x_zone x_grams x_paid x_from_ x_to_ x_leave x_arrive)) A0 c0 _   (Lib.hid (Cells.below M0.out HBwt_8.out)) N0 qt_15).mono ?_
      rintro e_t_15 wt_15 ⟨rfl, bt_15⟩
      have HBwt_15 := Lib.hid (Below.step HBwt_8.out bt_15)
      replace kx_0_0 := cell_below bt_15 kx_0_0
      replace kx_0_1 := cell_below bt_15 kx_0_1
      replace kx_0_2 := cell_below bt_15 kx_0_2
      replace kx_0_3 := cell_below bt_15 kx_0_3
      replace kx_0_4 := cell_below bt_15 kx_0_4
      replace kx_0_5 := cell_below bt_15 kx_0_5
      replace kx_0_6 := cell_below bt_15 kx_0_6
      replace kx_0_7 := cell_below bt_15 kx_0_7
      replace kx_0_8 := cell_below bt_15 kx_0_8
      clear bt_15
      replace H := let_hid H
      obtain ⟨t_18, ht_18, H⟩ := H
      cases t_18 with
      | false =>
        replace H := ite_f H
        replace H := let_hid H
        obtain ⟨t_24, ht_24, H⟩ := H
        replace H := let_hid H
        obtain ⟨t_25, ht_25, H⟩ := H
        replace H := let_hid H
        obtain ⟨t_26, ht_26, H⟩ := H
        cases ret_hid H
        go_wp2_with fail
        go_ret2
        exact ⟨rfl, HBwt_15.out⟩
      | true =>
        replace H := ite_t H
        cases ret_hid H
        go_wp2_with fail
        go_ret2
        exact ⟨rfl, HBwt_15.out⟩
end Go.Proofs.Ytlljmgphgmklcaa.GiDueOn

/- loop.example/g01062/laws.FnExactDueOn as a plain function, and the contract of the program's: where the plain one has an answer, the program has it. Conditions: slices read as lists. -/
namespace Go.Proofs.Ytlljmgphgmklcaa.GlFnExactDueOn
set_option linter.unusedVariables false
set_option linter.unusedSimpArgs false
open Go.RowKit
open Go.Proofs.Ytlljmgphgmklcaa.Rowed Go.Proofs.Ytlljmgphgmklcaa.Turn Go.Proofs.Ytlljmgphgmklcaa.Aid Go.Proofs.Ytlljmgphgmklcaa.GoP Go.Proofs.Ytlljmgphgmklcaa.GoM

def P (fuel : Nat) (aRates : (List Go.Proofs.Ytlljmgphgmklcaa.PRate.Rate)) (aX : Go.Proofs.Ytlljmgphgmklcaa.PCover.Cover) : Option (Bool) :=
  unCover aX fun (aX_id : Int) (aX_day : Int) (aX_zone : Int) (aX_grams : Int) (aX_paid : Int) (aX_from_ : Int) (aX_to_ : Int) (aX_leave : Int) (aX_arrive : Int) =>
  Option.bind (Go.Proofs.Ytlljmgphgmklcaa.GlSzRateS.P aRates 1048576) fun (t_5 : Int) =>
  letK (decide (t_5 < 0)) fun (t_8 : Bool) =>
  iteK t_8
  (some true)
  (Option.bind (Go.Proofs.Ytlljmgphgmklcaa.GlToRateS.P aRates) fun (t_11 : (List Go.Proofs.Ytlljmgphgmklcaa.PRate.Rate)) =>
  Option.bind (Go.Proofs.Ytlljmgphgmklcaa.GlToCover.P (Go.Proofs.Ytlljmgphgmklcaa.PCover.Cover.mk aX_id aX_day aX_zone aX_grams aX_paid aX_from_ aX_to_ aX_leave aX_arrive)) fun (t_13 : Go.Proofs.Ytlljmgphgmklcaa.PCover.Cover) =>
  unCover t_13 fun (t_13_id : Int) (t_13_day : Int) (t_13_zone : Int) (t_13_grams : Int) (t_13_paid : Int) (t_13_from_ : Int) (t_13_to_ : Int) (t_13_leave : Int) (t_13_arrive : Int) =>
  bind2 (Go.Proofs.Ytlljmgphgmklcaa.GsDueOn.P fuel t_11 (Go.Proofs.Ytlljmgphgmklcaa.PCover.Cover.mk t_13_id t_13_day t_13_zone t_13_grams t_13_paid t_13_from_ t_13_to_ t_13_leave t_13_arrive)) fun (t_14a : Int) (t_14b : Bool) =>
  Option.bind (Go.Proofs.Ytlljmgphgmklcaa.GlToRateS.P aRates) fun (t_21 : (List Go.Proofs.Ytlljmgphgmklcaa.PRate.Rate)) =>
  Option.bind (Go.Proofs.Ytlljmgphgmklcaa.GlToCover.P (Go.Proofs.Ytlljmgphgmklcaa.PCover.Cover.mk aX_id aX_day aX_zone aX_grams aX_paid aX_from_ aX_to_ aX_leave aX_arrive)) fun (t_25 : Go.Proofs.Ytlljmgphgmklcaa.PCover.Cover) =>
  unCover t_25 fun (t_25_id : Int) (t_25_day : Int) (t_25_zone : Int) (t_25_grams : Int) (t_25_paid : Int) (t_25_from_ : Int) (t_25_to_ : Int) (t_25_leave : Int) (t_25_arrive : Int) =>
  bind2 (Go.Proofs.Ytlljmgphgmklcaa.GiDueOn.P t_21 (Go.Proofs.Ytlljmgphgmklcaa.PCover.Cover.mk t_25_id t_25_day t_25_zone t_25_grams t_25_paid t_25_from_ t_25_to_ t_25_leave t_25_arrive)) fun (t_26a : Int) (t_26b : Bool) =>
  letK (t_26a != t_14a) fun (t_34 : Bool) =>
  joinK (fun (t_39 : Bool) =>
  iteK t_39
  (some false)
  (Option.bind (Go.Proofs.Ytlljmgphgmklcaa.GlToRateS.P aRates) fun (t_43 : (List Go.Proofs.Ytlljmgphgmklcaa.PRate.Rate)) =>
  Option.bind (Go.Proofs.Ytlljmgphgmklcaa.GlEqRateS.P t_21 t_43) fun (t_44 : Bool) =>
  letK (!t_44) fun (t_45 : Bool) =>
  iteK t_45
  (some false)
  (some true))) fun jt_39 => iteK t_34 (appK jt_39 true) (letK (!(t_26b == t_14b)) fun (t_38 : Bool) =>
  appK jt_39 t_38))

set_option maxRecDepth 100000 in
set_option maxHeartbeats 2000000 in
theorem C (fuel : Nat) (aRates : (List Go.Proofs.Ytlljmgphgmklcaa.PRate.Rate)) (aX : Go.Proofs.Ytlljmgphgmklcaa.PCover.Cover) (A0 : Option Addr) (c0 : Nat)  (w : World) (M0 : Hid (Cells w 5 A0 aRates.length (Go.Proofs.Ytlljmgphgmklcaa.PRate.flat aRates))) (N0 : Hid (aRates.length ≤ 9223372036854775807))  {r : Bool} (H : Hid (P fuel aRates aX = some r)) :
    Calls Try.prog 8 #[.slice A0 aRates.length c0, aX.val] w (Gives (.bool r) w) := by
  have HB := Lib.hid (Below.refl w.heap.size w)
  unfold P at H
  obtain ⟨aX_id, aX_day, aX_zone, aX_grams, aX_paid, aX_from_, aX_to_, aX_leave, aX_arrive⟩ := aX
  replace H := unCover_hid H
  unfold Go.Proofs.Ytlljmgphgmklcaa.PCover.Cover.val
  have N0o := N0.out
  go_enter Try.func8, Try.ntmps8
  obtain ⟨w_aX_0, hw_aX_0⟩ : ∃ x, w.alloc (.cells #[.int .i64 aX_id, .int .i64 aX_day, .int .i64 aX_zone, .int .i64 aX_grams, .int .i64 aX_paid, .int .i64 aX_from_, .int .i64 aX_to_, .int .i64 aX_leave, .int .i64 aX_arrive] 23) = x := ⟨_, rfl⟩
  have bw_aX_0 : Below w.heap.size w w_aX_0 := by rw [← hw_aX_0]; exact (Below.refl _ _).alloc (Nat.le_refl _) _
  have HBw_aX_0 := Lib.hid (Below.step HB.out bw_aX_0)
  clear bw_aX_0
  have kaX_0_0 : w_aX_0.cell? ⟨w.heap.size, 0, none⟩ = some (.int .i64 aX_id) := by rw [← hw_aX_0]; exact box_new _ _ _ 0 _ rfl
  have kaX_0_1 : w_aX_0.cell? ⟨w.heap.size, 1, none⟩ = some (.int .i64 aX_day) := by rw [← hw_aX_0]; exact box_new _ _ _ 1 _ rfl
  have kaX_0_2 : w_aX_0.cell? ⟨w.heap.size, 2, none⟩ = some (.int .i64 aX_zone) := by rw [← hw_aX_0]; exact box_new _ _ _ 2 _ rfl
  have kaX_0_3 : w_aX_0.cell? ⟨w.heap.size, 3, none⟩ = some (.int .i64 aX_grams) := by rw [← hw_aX_0]; exact box_new _ _ _ 3 _ rfl
  have kaX_0_4 : w_aX_0.cell? ⟨w.heap.size, 4, none⟩ = some (.int .i64 aX_paid) := by rw [← hw_aX_0]; exact box_new _ _ _ 4 _ rfl
  have kaX_0_5 : w_aX_0.cell? ⟨w.heap.size, 5, none⟩ = some (.int .i64 aX_from_) := by rw [← hw_aX_0]; exact box_new _ _ _ 5 _ rfl
  have kaX_0_6 : w_aX_0.cell? ⟨w.heap.size, 6, none⟩ = some (.int .i64 aX_to_) := by rw [← hw_aX_0]; exact box_new _ _ _ 6 _ rfl
  have kaX_0_7 : w_aX_0.cell? ⟨w.heap.size, 7, none⟩ = some (.int .i64 aX_leave) := by rw [← hw_aX_0]; exact box_new _ _ _ 7 _ rfl
  have kaX_0_8 : w_aX_0.cell? ⟨w.heap.size, 8, none⟩ = some (.int .i64 aX_arrive) := by rw [← hw_aX_0]; exact box_new _ _ _ 8 _ rfl
  replace H := bind_hid H
  obtain ⟨t_5, qt_5, H⟩ := H
  go_wp2_with fail
  go_at_call 24
  refine (Go.Proofs.Ytlljmgphgmklcaa.GlSzRateS.C (aRates) (1048576) A0 c0 _   (Lib.hid (Cells.below M0.out HBw_aX_0.out)) N0 qt_5).mono ?_
  rintro e_t_5 wt_5 ⟨rfl, bt_5⟩
  have HBwt_5 := Lib.hid (Below.step HBw_aX_0.out bt_5)
  replace kaX_0_0 := cell_below bt_5 kaX_0_0
  replace kaX_0_1 := cell_below bt_5 kaX_0_1
  replace kaX_0_2 := cell_below bt_5 kaX_0_2
  replace kaX_0_3 := cell_below bt_5 kaX_0_3
  replace kaX_0_4 := cell_below bt_5 kaX_0_4
  replace kaX_0_5 := cell_below bt_5 kaX_0_5
  replace kaX_0_6 := cell_below bt_5 kaX_0_6
  replace kaX_0_7 := cell_below bt_5 kaX_0_7
  replace kaX_0_8 := cell_below bt_5 kaX_0_8
  clear bt_5
  replace H := let_hid H
  obtain ⟨t_8, ht_8, H⟩ := H
  cases t_8 with
  | false =>
    replace H := ite_f H
    go_wp2_with fail
    have bd5 : Below wt_5.heap.size wt_5 wt_5.drew := (Below.refl _ _).drew
    have HBwt_5.drew := Lib.hid (Below.step HBwt_5.out bd5)
    replace kaX_0_0 := cell_below bd5 kaX_0_0
    replace kaX_0_1 := cell_below bd5 kaX_0_1
    replace kaX_0_2 := cell_below bd5 kaX_0_2
    replace kaX_0_3 := cell_below bd5 kaX_0_3
    replace kaX_0_4 := cell_below bd5 kaX_0_4
    replace kaX_0_5 := cell_below bd5 kaX_0_5
    replace kaX_0_6 := cell_below bd5 kaX_0_6
    replace kaX_0_7 := cell_below bd5 kaX_0_7
    replace kaX_0_8 := cell_below bd5 kaX_0_8
    clear bd5
    replace H := bind_hid H
    obtain ⟨t_11, qt_11, H⟩ := H
    replace H := bind_hid H
    obtain ⟨t_13, qt_13, H⟩ := H
    obtain ⟨t_13_id, t_13_day, t_13_zone, t_13_grams, t_13_paid, t_13_from_, t_13_to_, t_13_leave, t_13_arrive⟩ := t_13
    replace H := unCover_hid H
    replace H := bind2_hid H
    obtain ⟨t_14a, t_14b, qt_14, H⟩ := H
    go_region_held3 (fun w' => w'.cell? ⟨w.heap.size, 0, none⟩ = some (.int .i64 aX_id) ∧ w'.cell? ⟨w.heap.size, 1, none⟩ = some (.int .i64 aX_day) ∧ w'.cell? ⟨w.heap.size, 2, none⟩ = some (.int .i64 aX_zone) ∧ w'.cell? ⟨w.heap.size, 3, none⟩ = some (.int .i64 aX_grams) ∧ w'.cell? ⟨w.heap.size, 4, none⟩ = some (.int .i64 aX_paid) ∧ w'.cell? ⟨w.heap.size, 5, none⟩ = some (.int .i64 aX_from_) ∧ w'.cell? ⟨w.heap.size, 6, none⟩ = some (.int .i64 aX_to_) ∧ w'.cell? ⟨w.heap.size, 7, none⟩ = some (.int .i64 aX_leave) ∧ w'.cell? ⟨w.heap.size, 8, none⟩ = some (.int .i64 aX_arrive)) (first | exact ⟨kaX_0_0, kaX_0_1, kaX_0_2, kaX_0_3, kaX_0_4, kaX_0_5, kaX_0_6, kaX_0_7, kaX_0_8⟩)
        (first
          | (go_at_call 27
             refine (Go.Proofs.Ytlljmgphgmklcaa.GlToRateS.C (aRates) A0 c0 _   (Lib.hid (Cells.below M0.out HBwt_5.drew.out)) N0 qt_11).mono ?_
             rintro e_t_11 wt_11 ⟨At_11, ct_11, rfl, ot_11, bt_11⟩
             have Dt_11_aX_0 := Lib.hid (apart_callbox ot_11 kaX_0_0)
             have Ot_11 := Lib.hid (own_lower ot_11 HBwt_5.drew.out.size)
             clear ot_11
             have HBwt_11 := Lib.hid (Below.step HBwt_5.drew.out bt_11)
             replace kaX_0_0 := cell_below bt_11 kaX_0_0
             replace kaX_0_1 := cell_below bt_11 kaX_0_1
             replace kaX_0_2 := cell_below bt_11 kaX_0_2
             replace kaX_0_3 := cell_below bt_11 kaX_0_3
             replace kaX_0_4 := cell_below bt_11 kaX_0_4
             replace kaX_0_5 := cell_below bt_11 kaX_0_5
             replace kaX_0_6 := cell_below bt_11 kaX_0_6
             replace kaX_0_7 := cell_below bt_11 kaX_0_7
             replace kaX_0_8 := cell_below bt_11 kaX_0_8
             clear bt_11
             clear qt_11)
          | (go_at_call 17
             refine (Go.Proofs.Ytlljmgphgmklcaa.GlToCover.C ((Go.Proofs.Ytlljmgphgmklcaa.PCover.Cover.mk aX_id aX_day aX_zone aX_grams aX_paid aX_from_ aX_to_ aX_leave aX_arrive))  _    qt_13).mono ?_
             rintro e_t_13 wt_13 ⟨rfl, bt_13⟩
             unfold Go.Proofs.Ytlljmgphgmklcaa.PCover.Cover.val
             have HBwt_13 := Lib.hid (Below.step HBwt_11.out bt_13)
             replace kaX_0_0 := cell_below bt_13 kaX_0_0
             replace kaX_0_1 := cell_below bt_13 kaX_0_1
             replace kaX_0_2 := cell_below bt_13 kaX_0_2
             replace kaX_0_3 := cell_below bt_13 kaX_0_3
             replace kaX_0_4 := cell_below bt_13 kaX_0_4
             replace kaX_0_5 := cell_below bt_13 kaX_0_5
             replace kaX_0_6 := cell_below bt_13 kaX_0_6
             replace kaX_0_7 := cell_below bt_13 kaX_0_7
             replace kaX_0_8 := cell_below bt_13 kaX_0_8
             replace Ot_11 := Lib.hid (own_below Ot_11.out bt_13)
             clear bt_13
             clear qt_13)
          | (go_at_call 43
             refine (Go.Proofs.Ytlljmgphgmklcaa.GsDueOn.C fuel (t_11) ((Go.Proofs.Ytlljmgphgmklcaa.PCover.Cover.mk t_13_id t_13_day t_13_zone t_13_grams t_13_paid t_13_from_ t_13_to_ t_13_leave t_13_arrive)) At_11 ct_11 _   (Lib.hid (own_cells Ot_11.out)) (Lib.hid (own_max Ot_11.out)) qt_14).mono ?_
             rintro e_t_14 wt_14 ⟨rfl, bt_14⟩
             have HBwt_14 := Lib.hid (Below.step HBwt_13.out bt_14)
             replace kaX_0_0 := cell_below bt_14 kaX_0_0
             replace kaX_0_1 := cell_below bt_14 kaX_0_1
             replace kaX_0_2 := cell_below bt_14 kaX_0_2
             replace kaX_0_3 := cell_below bt_14 kaX_0_3
             replace kaX_0_4 := cell_below bt_14 kaX_0_4
             replace kaX_0_5 := cell_below bt_14 kaX_0_5
             replace kaX_0_6 := cell_below bt_14 kaX_0_6
             replace kaX_0_7 := cell_below bt_14 kaX_0_7
             replace kaX_0_8 := cell_below bt_14 kaX_0_8
             replace Ot_11 := Lib.hid (own_below Ot_11.out bt_14)
             clear bt_14
             clear qt_14))
    replace H := bind_hid H
    obtain ⟨t_21, qt_21, H⟩ := H
    go_wp2_with fail
    go_at_call 27
    refine (Go.Proofs.Ytlljmgphgmklcaa.GlToRateS.C (aRates) A0 c0 _   (Lib.hid (Cells.below M0.out HBwt_14.out)) N0 qt_21).mono ?_
    rintro e_t_21 wt_21 ⟨At_21, ct_21, rfl, ot_21, bt_21⟩
    have Dt_21_t_11 := Lib.hid (apart_call ot_21 Ot_11.out)
    have Dt_21_aX_0 := Lib.hid (apart_callbox ot_21 kaX_0_0)
    have Ot_21 := Lib.hid (own_lower ot_21 HBwt_14.out.size)
    clear ot_21
    have HBwt_21 := Lib.hid (Below.step HBwt_14.out bt_21)
    replace kaX_0_0 := cell_below bt_21 kaX_0_0
    replace kaX_0_1 := cell_below bt_21 kaX_0_1
    replace kaX_0_2 := cell_below bt_21 kaX_0_2
    replace kaX_0_3 := cell_below bt_21 kaX_0_3
    replace kaX_0_4 := cell_below bt_21 kaX_0_4
    replace kaX_0_5 := cell_below bt_21 kaX_0_5
    replace kaX_0_6 := cell_below bt_21 kaX_0_6
    replace kaX_0_7 := cell_below bt_21 kaX_0_7
    replace kaX_0_8 := cell_below bt_21 kaX_0_8
    replace Ot_11 := Lib.hid (own_below Ot_11.out bt_21)
    clear bt_21
    replace H := bind_hid H
    obtain ⟨t_25, qt_25, H⟩ := H
    obtain ⟨t_25_id, t_25_day, t_25_zone, t_25_grams, t_25_paid, t_25_from_, t_25_to_, t_25_leave, t_25_arrive⟩ := t_25
    replace H := unCover_hid H
    go_wp2_with fail
    go_at_call 17
    refine (Go.Proofs.Ytlljmgphgmklcaa.GlToCover.C ((Go.Proofs.Ytlljmgphgmklcaa.PCover.Cover.mk aX_id aX_day aX_zone aX_grams aX_paid aX_from_ aX_to_ aX_leave aX_arrive))  _    qt_25).mono ?_
    rintro e_t_25 wt_25 ⟨rfl, bt_25⟩
    unfold Go.Proofs.Ytlljmgphgmklcaa.PCover.Cover.val
    have HBwt_25 := Lib.hid (Below.step HBwt_21.out bt_25)
    replace kaX_0_0 := cell_below bt_25 kaX_0_0
    replace kaX_0_1 := cell_below bt_25 kaX_0_1
    replace kaX_0_2 := cell_below bt_25 kaX_0_2
    replace kaX_0_3 := cell_below bt_25 kaX_0_3
    replace kaX_0_4 := cell_below bt_25 kaX_0_4
    replace kaX_0_5 := cell_below bt_25 kaX_0_5
    replace kaX_0_6 := cell_below bt_25 kaX_0_6
    replace kaX_0_7 := cell_below bt_25 kaX_0_7
    replace kaX_0_8 := cell_below bt_25 kaX_0_8
    replace Ot_11 := Lib.hid (own_below Ot_11.out bt_25)
    replace Ot_21 := Lib.hid (own_below Ot_21.out bt_25)
    clear bt_25
    replace H := bind2_hid H
    obtain ⟨t_26a, t_26b, qt_26, H⟩ := H
    go_wp2_with fail
    go_at_call 44
    refine (Go.Proofs.Ytlljmgphgmklcaa.GiDueOn.C (t_21) ((Go.Proofs.Ytlljmgphgmklcaa.PCover.Cover.mk t_25_id t_25_day t_25_zone t_25_grams t_25_paid t_25_from_ t_25_to_ t_25_leave t_25_arrive)) At_21 ct_21 _   (Lib.hid (own_cells Ot_21.out)) (Lib.hid (own_max Ot_21.out)) qt_26).mono ?_
    rintro e_t_26 wt_26 ⟨rfl, bt_26⟩
    have HBwt_26 := Lib.hid (Below.step HBwt_25.out bt_26)
    replace kaX_0_0 := cell_below bt_26 kaX_0_0
    replace kaX_0_1 := cell_below bt_26 kaX_0_1
    replace kaX_0_2 := cell_below bt_26 kaX_0_2
    replace kaX_0_3 := cell_below bt_26 kaX_0_3
    replace kaX_0_4 := cell_below bt_26 kaX_0_4
    replace kaX_0_5 := cell_below bt_26 kaX_0_5
    replace kaX_0_6 := cell_below bt_26 kaX_0_6
    replace kaX_0_7 := cell_below bt_26 kaX_0_7
    replace kaX_0_8 := cell_below bt_26 kaX_0_8
    replace Ot_11 := Lib.hid (own_below Ot_11.out bt_26)
    replace Ot_21 := Lib.hid (own_below Ot_21.out bt_26)
    clear bt_26
    replace H := let_hid H
    obtain ⟨t_34, ht_34, H⟩ := H
    replace H := join_hid H
    cases t_34 with
    | false =>
      replace H := ite_f H
      replace H := let_hid H
      obtain ⟨t_38, ht_38, H⟩ := H
      replace H := app_hid H
      cases t_38 with
      | false =>
        replace H := ite_f H
        replace H := bind_hid H
        obtain ⟨t_43, qt_43, H⟩ := H
        go_wp2_with fail
        go_at_call 27
        refine (Go.Proofs.Ytlljmgphgmklcaa.GlToRateS.C (aRates) A0 c0 _   (Lib.hid (Cells.below M0.out HBwt_26.out)) N0 qt_43).mono ?_
        rintro e_t_43 wt_43 ⟨At_43, ct_43, rfl, ot_43, bt_43⟩
        have Dt_43_t_11 := Lib.hid (apart_call ot_43 Ot_11.out)
        have Dt_43_t_21 := Lib.hid (apart_call ot_43 Ot_21.out)
        have Dt_43_aX_0 := Lib.hid (apart_callbox ot_43 kaX_0_0)
        have Ot_43 := Lib.hid (own_lower ot_43 HBwt_26.out.size)
        clear ot_43
        have HBwt_43 := Lib.hid (Below.step HBwt_26.out bt_43)
        replace kaX_0_0 := cell_below bt_43 kaX_0_0
        replace kaX_0_1 := cell_below bt_43 kaX_0_1
        replace kaX_0_2 := cell_below bt_43 kaX_0_2
        replace kaX_0_3 := cell_below bt_43 kaX_0_3
        replace kaX_0_4 := cell_below bt_43 kaX_0_4
        replace kaX_0_5 := cell_below bt_43 kaX_0_5
        replace kaX_0_6 := cell_below bt_43 kaX_0_6
        replace kaX_0_7 := cell_below bt_43 kaX_0_7
        replace kaX_0_8 := cell_below bt_43 kaX_0_8
        replace Ot_11 := Lib.hid (own_below Ot_11.out bt_43)
        replace Ot_21 := Lib.hid (own_below Ot_21.out bt_43)
        clear bt_43
        replace H := bind_hid H
        obtain ⟨t_44, qt_44, H⟩ := H
        go_wp2_with fail
        go_at_call 30
        refine (Go.Proofs.Ytlljmgphgmklcaa.GlEqRateS.C (t_21) (t_43) At_21 ct_21 At_43 ct_43 _   (Lib.hid (own_cells Ot_21.out)) (Lib.hid (own_max Ot_21.out)) (Lib.hid (own_cells Ot_43.out)) (Lib.hid (own_max Ot_43.out)) qt_44).mono ?_
        rintro e_t_44 wt_44 ⟨rfl, bt_44⟩
        have HBwt_44 := Lib.hid (Below.step HBwt_43.out bt_44)
        replace kaX_0_0 := cell_below bt_44 kaX_0_0
        replace kaX_0_1 := cell_below bt_44 kaX_0_1
        replace kaX_0_2 := cell_below bt_44 kaX_0_2
        replace kaX_0_3 := cell_below bt_44 kaX_0_3
        replace kaX_0_4 := cell_below bt_44 kaX_0_4
        replace kaX_0_5 := cell_below bt_44 kaX_0_5
        replace kaX_0_6 := cell_below bt_44 kaX_0_6
        replace kaX_0_7 := cell_below bt_44 kaX_0_7
        replace kaX_0_8 := cell_below bt_44 kaX_0_8
        replace Ot_11 := Lib.hid (own_below Ot_11.out bt_44)
        replace Ot_21 := Lib.hid (own_below Ot_21.out bt_44)
        replace Ot_43 := Lib.hid (own_below Ot_43.out bt_44)
        clear bt_44
        cases t_44 with
        | false =>
          replace H := let_hid H
          obtain ⟨t_45, ht_45, H⟩ := H
          obtain rfl : t_45 = true := ht_45.symm
          replace H := ite_t H
          obtain rfl := ret_hid H
          go_wp2_with fail
          go_ret
          exact ⟨rfl, HBwt_44.out⟩
        | true =>
          replace H := let_hid H
          obtain ⟨t_45, ht_45, H⟩ := H
          obtain rfl : t_45 = false := ht_45.symm
          replace H := ite_f H
          obtain rfl := ret_hid H
          go_wp2_with fail
          go_ret
          exact ⟨rfl, HBwt_44.out⟩
      | true =>
        replace H := ite_t H
        obtain rfl := ret_hid H
        go_wp2_with fail
        go_ret
        exact ⟨rfl, HBwt_26.out⟩
    | true =>
      replace H := ite_t H
      replace H := app_hid H
      replace H := ite_t H
      obtain rfl := ret_hid H
      go_wp2_with fail
      go_ret
      exact ⟨rfl, HBwt_26.out⟩
  | true =>
    replace H := ite_t H
    obtain rfl := ret_hid H
    go_wp2_with fail
    go_ret
    exact ⟨rfl, HBwt_5.out⟩
end Go.Proofs.Ytlljmgphgmklcaa.GlFnExactDueOn

/- Chapter 5: combs, holes, gauges: the plain functions of the program and of the reference agree, and the laws answer true. (Q5Most) No condition but those of each theorem. -/
namespace Go.Proofs.Ytlljmgphgmklcaa.Q5Most
set_option linter.unusedVariables false
set_option linter.unusedSimpArgs false
open Go.RowKit
open Go.Proofs.Ytlljmgphgmklcaa.GoP Go.Proofs.Ytlljmgphgmklcaa.PlainStamp Go.Proofs.Ytlljmgphgmklcaa.QBase Go.Proofs.Ytlljmgphgmklcaa.QLoop

theorem most_is (a b : Int) : GsL1Most.P a b = some (max a b) := by
  simp only [GsL1Most.P, letK, iteK_if]
  by_cases h : b < a
  · rw [if_pos (by simpa using h)]; congr 1; omega
  · rw [if_neg (by simpa using h)]; congr 1; omega
end Go.Proofs.Ytlljmgphgmklcaa.Q5Most

/- Chapter 10: covers: the plain functions of the program and of the reference agree, and the laws answer true. (Q10Due) No condition but those of each theorem. -/
namespace Go.Proofs.Ytlljmgphgmklcaa.Q10Due
set_option linter.unusedVariables false
set_option linter.unusedSimpArgs false
open Go.RowKit
open Go.Proofs.Ytlljmgphgmklcaa.GoP Go.Proofs.Ytlljmgphgmklcaa.PlainStamp Go.Proofs.Ytlljmgphgmklcaa.QBase Go.Proofs.Ytlljmgphgmklcaa.Q10Fault Go.Proofs.Ytlljmgphgmklcaa.Q10Cover Go.Proofs.Ytlljmgphgmklcaa.Q8For Go.Proofs.Ytlljmgphgmklcaa.Q8List Go.Proofs.Ytlljmgphgmklcaa.Q8Rate Go.Proofs.Ytlljmgphgmklcaa.Q5Most Go.Proofs.Ytlljmgphgmklcaa.QLoop Go.Proofs.Ytlljmgphgmklcaa.PCover Go.Proofs.Ytlljmgphgmklcaa.PRate

def dueRes (rs : List Rate) (x : Cover) : Int × Bool := if (okRs rs && okC x && decide (rateC rs x ≠ 0)) = true then (2 * max (rateC rs x - x.paid) 0, true) else (0, false)
theorem due_impl (rs : List Rate) (x : Cover) (hr : rs.length ≤ 9223372036854775807) : GiDueOn.P rs x = some (dueRes rs x) := by
  have e1 := isCover_eq x
  have ht : GiRateOfCover.P rs x = some (rateC rs x) := by
    obtain ⟨a, b, c, d, e, f, g, h, i⟩ := x
    simp only [GiRateOfCover.P, unCover, rateOn_eq, Option.bind_some, letK, rateC]
  have hle := fun h => rateC_le (rs := rs) h x
  have hof := fun h => okC_of (x := x) h
  obtain ⟨a, b, c, d, e, f, g, h, i⟩ := x
  simp only [GiDueOn.P, unCover, areRates_eq rs hr, e1, ht, Option.bind_some, letK, joinK, appK, iteK_if, dueRes]
  cases ha : okRs rs with
  | false => simp
  | true =>
    cases hc : okC ⟨a, b, c, d, e, f, g, h, i⟩ with
    | false => simp
    | true =>
      have hl := hle ha
      have ho := hof hc
      dsimp only at ho
      rw [wrap_in (x := rateC rs ⟨a, b, c, d, e, f, g, h, i⟩ - e) (by omega) (by omega), wrap_in (by omega) (by omega)]
      by_cases h0 : rateC rs ⟨a, b, c, d, e, f, g, h, i⟩ = 0 <;> simp [h0]
theorem due_spec {fuel : Nat} (rs : List Rate) (x : Cover) (hr : rs.length ≤ 9223372036854775807) (hf : 17 < fuel) : GsDueOn.P fuel rs x = some (dueRes rs x) := by
  have e1 := l10One_eq x
  have ht : GsL8For.P rs x.day x.zone x.grams = some (rateC rs x) := l8For_eq _ _ _ _
  have hle := fun h => rateC_le (rs := rs) h x
  have hof := fun h => okC_of (x := x) h
  obtain ⟨a, b, c, d, e, f, g, h, i⟩ := x
  dsimp only at ht
  simp only [GsDueOn.P, unCover, l8Good_eq rs hr hf, e1, ht, Option.bind_some, letK, joinK, appK, iteK_if, dueRes, most_is]
  cases ha : okRs rs with
  | false => simp
  | true =>
    cases hc : okC ⟨a, b, c, d, e, f, g, h, i⟩ with
    | false => simp
    | true =>
      have hl := hle ha
      have ho := hof hc
      dsimp only at ho
      rw [wrap_in (x := rateC rs ⟨a, b, c, d, e, f, g, h, i⟩ - e) (by omega) (by omega), wrap_in (by omega) (by omega), show max 0 (rateC rs ⟨a, b, c, d, e, f, g, h, i⟩ - e) = max (rateC rs ⟨a, b, c, d, e, f, g, h, i⟩ - e) 0 by omega]
      by_cases h0 : rateC rs ⟨a, b, c, d, e, f, g, h, i⟩ = 0 <;> simp [h0]
end Go.Proofs.Ytlljmgphgmklcaa.Q10Due

/- Chapter 10: covers: the plain functions of the program and of the reference agree, and the laws answer true. (QL10Due) No condition but those of each theorem. -/
namespace Go.Proofs.Ytlljmgphgmklcaa.QL10Due
set_option linter.unusedVariables false
set_option linter.unusedSimpArgs false
open Go.RowKit
open Go.Proofs.Ytlljmgphgmklcaa.GoP Go.Proofs.Ytlljmgphgmklcaa.PlainStamp Go.Proofs.Ytlljmgphgmklcaa.QBase Go.Proofs.Ytlljmgphgmklcaa.Q10Due Go.Proofs.Ytlljmgphgmklcaa.QLoop Go.Proofs.Ytlljmgphgmklcaa.PCover Go.Proofs.Ytlljmgphgmklcaa.PRate Go.Proofs.Ytlljmgphgmklcaa.QHRateE Go.Proofs.Ytlljmgphgmklcaa.QHCoverE

theorem law_due {fuel : Nat} (rs : List Rate) (x : Cover) (hr : rs.length ≤ 9223372036854775807) (hf : 17 < fuel) : GlFnExactDueOn.P fuel rs x = some true := by
  have ht := QHCoverE.toOne x
  obtain ⟨⟨p, q⟩, hs⟩ : ∃ y, y = dueRes rs x := ⟨_, rfl⟩
  have e1 := due_impl rs x hr
  have e2 := due_spec (fuel := fuel) rs x hr hf
  rw [← hs] at e1 e2
  obtain ⟨a, b, c, d, e, f, g, h, i⟩ := x
  simp only [GlFnExactDueOn.P, unCover, QHRateE.szS rs hr, Option.bind_some, letK, iteK_if]
  by_cases h1 : rs.length ≤ 1048576
  · rw [if_neg (by rw [if_pos h1]; simp; omega)]
    simp [ht, QHRateE.toS rs h1, e1, e2, bind2, joinK, appK, iteK_if, QHRateE.eqS]
  · rw [if_pos (by rw [if_neg h1]; simp)]
end Go.Proofs.Ytlljmgphgmklcaa.QL10Due

