/- The texts on which the proof of FnExactNextKind stands, one behind the other (2 of 3). No condition of their own. -/
import Derived.Test.YtekacbjnpeglhaaChecked
import Derived.Test.YtekacbjnpeglhaaFnExactNextKindP1
import Derived.WalkKit
import Derived.WalkSpells
import Derived.WalkLawsBesides
import Derived.BigQuiet
import Derived.OwnWalk
import Derived.Deep.LoopGhost
import Derived.Deep.QuietTactic
import Derived.IntWalk
import Derived.Lib.QuietBelow
import Derived.Deep.RegionHeld3
import Derived.Lib.SliceRun
/- loop.example/g01062/impl.within as a plain function, and the contract of the program's: where the plain one has an answer, the program has it. Conditions: slices read as lists. -/
namespace Go.Proofs.Ytekacbjnpeglhaa.GiWithin
set_option linter.unusedVariables false
set_option linter.unusedSimpArgs false
open Go.RowKit
open Go.Proofs.Ytekacbjnpeglhaa.Rowed Go.Proofs.Ytekacbjnpeglhaa.Turn Go.Proofs.Ytekacbjnpeglhaa.Aid Go.Proofs.Ytekacbjnpeglhaa.GoP Go.Proofs.Ytekacbjnpeglhaa.GoM

def P (n_0 : Int) (low : Int) (high : Int) : Option (Bool) :=
  letK (decide (low ≤ n_0)) fun (t_3 : Bool) =>
  joinK (fun (t_8 : Bool) =>
  some t_8) fun jt_8 => iteK t_3 (letK (decide (n_0 ≤ high)) fun (t_7 : Bool) =>
  appK jt_8 t_7) (appK jt_8 false)

set_option maxRecDepth 100000 in
set_option maxHeartbeats 2000000 in
theorem C (n_0 : Int) (low : Int) (high : Int)   (w : World)   {r : Bool} (H : Hid (P n_0 low high = some r)) :
    Calls Try.prog 55 #[.int .i64 n_0, .int .i64 low, .int .i64 high] w (Gives (.bool r) w) := by
  have HB := Lib.hid (Below.refl w.heap.size w)
  unfold P at H
  go_enter Try.func55, Try.ntmps55
  replace H := let_hid H
  obtain ⟨t_3, ht_3, H⟩ := H
  replace H := join_hid H
  cases t_3 with
  | false =>
    replace H := ite_f H
    replace H := app_hid H
    obtain rfl := ret_hid H
    go_wp2_with fail
    go_ret
    exact ⟨rfl, HB.out⟩
  | true =>
    replace H := ite_t H
    replace H := let_hid H
    obtain ⟨t_7, ht_7, H⟩ := H
    replace H := app_hid H
    obtain rfl := ret_hid H
    go_wp2_with fail
    go_ret
    exact ⟨rfl, HB.out⟩

set_option maxRecDepth 100000 in
set_option maxHeartbeats 2000000 in
theorem C0 (n_0 : Int) (low : Int) (high : Int)   (w : World)   {r : Bool} (H : Hid (P n_0 low high = some r)) :
    Calls Try.prog 55 #[.int .i64 n_0, .int .i64 low, .int .i64 high] w (fun e w'' => e = .returned (.bool r) ∧ w'' = w) := by
  have HB := Lib.hid (Below.refl w.heap.size w)
  unfold P at H
  go_enter Try.func55, Try.ntmps55
  replace H := let_hid H
  obtain ⟨t_3, ht_3, H⟩ := H
  replace H := join_hid H
  cases t_3 with
  | false =>
    replace H := ite_f H
    replace H := app_hid H
    obtain rfl := ret_hid H
    go_wp2_with fail
    go_ret
    exact ⟨rfl, rfl⟩
  | true =>
    replace H := ite_t H
    replace H := let_hid H
    obtain ⟨t_7, ht_7, H⟩ := H
    replace H := app_hid H
    obtain rfl := ret_hid H
    go_wp2_with fail
    go_ret
    exact ⟨rfl, rfl⟩
end Go.Proofs.Ytekacbjnpeglhaa.GiWithin

/- loop.example/g01062/impl.hasValue as a plain function, and the contract of the program's: where the plain one has an answer, the program has it. Conditions: slices read as lists. -/
namespace Go.Proofs.Ytekacbjnpeglhaa.GiHasValue
set_option linter.unusedVariables false
set_option linter.unusedSimpArgs false
open Go.RowKit
open Go.Proofs.Ytekacbjnpeglhaa.Rowed Go.Proofs.Ytekacbjnpeglhaa.Turn Go.Proofs.Ytekacbjnpeglhaa.Aid Go.Proofs.Ytekacbjnpeglhaa.GoP Go.Proofs.Ytekacbjnpeglhaa.GoM

def P (sizes : (List Int)) (trait : Int) (value : Int) : Option (Bool) :=
  letK (IntKind.i64.wrap ((sizes.length : Int) - 1)) fun (t_4 : Int) =>
  Option.bind (Go.Proofs.Ytekacbjnpeglhaa.GiWithin.P trait 0 t_4) fun (t_5 : Bool) =>
  joinK (fun (t_14 : Bool) =>
  some t_14) fun jt_14 => iteK t_5 (Option.bind (idx sizes trait) fun (yt_10 : Int) =>
  letK (IntKind.i64.wrap (yt_10 - 1)) fun (t_12 : Int) =>
  Option.bind (Go.Proofs.Ytekacbjnpeglhaa.GiWithin.P value 0 t_12) fun (t_13 : Bool) =>
  appK jt_14 t_13) (appK jt_14 false)

set_option maxRecDepth 100000 in
set_option maxHeartbeats 2000000 in
theorem C (sizes : (List Int)) (trait : Int) (value : Int) (A0 : Option Addr) (c0 : Nat)  (w : World) (M0 : Hid (Cells w 1 A0 sizes.length (Go.Proofs.Ytekacbjnpeglhaa.HelpInt.iv sizes))) (N0 : Hid (sizes.length ≤ 9223372036854775807))  {r : Bool} (H : Hid (P sizes trait value = some r)) :
    Calls Try.prog 73 #[.slice A0 sizes.length c0, .int .i64 trait, .int .i64 value] w (Gives (.bool r) w) := by
  have HB := Lib.hid (Below.refl w.heap.size w)
  unfold P at H
  have N0o := N0.out
  go_enter Try.func73, Try.ntmps73
  replace H := let_hid H
  obtain ⟨t_4, ht_4, H⟩ := H
  try have hv_t_4 : (sizes.length : Int) - 1 = t_4 := by rw [← ht_4]; exact (IntWalk.i64_in _ (by omega)).symm
  try have hv2_t_4 : IntKind.i64.wrap t_4 = t_4 := by rw [← hv_t_4]; exact IntWalk.i64_in _ (by omega)
  replace H := bind_hid H
  obtain ⟨t_5, qt_5, H⟩ := H
  go_wp2_with fail
  go_at_call 55
  refine (Go.Proofs.Ytekacbjnpeglhaa.GiWithin.C (trait) (0) (t_4)  _    qt_5).mono ?_
  rintro e_t_5 wt_5 ⟨rfl, bt_5⟩
  have HBwt_5 := Lib.hid (Below.step HB.out bt_5)
  clear bt_5
  replace H := join_hid H
  cases t_5 with
  | false =>
    replace H := ite_f H
    replace H := app_hid H
    obtain rfl := ret_hid H
    go_wp2_with fail
    go_ret
    exact ⟨rfl, HBwt_5.out⟩
  | true =>
    replace H := ite_t H
    replace H := idx_hid H
    obtain ⟨nt_10, yt_10, et_10, lt_10, gt_10, H⟩ := H
    subst et_10
    obtain ⟨ab_t_10, ao_t_10, zt_10, At_10, z_t_10, ct_10_0⟩ := Go.Proofs.Ytekacbjnpeglhaa.HelpInt.Ints.at_ M0.out lt_10
    obtain rfl := Option.some.inj (gt_10.out.symm.trans z_t_10)
    subst At_10
    have ltt_10 := cell_lt ct_10_0
    replace ct_10_0 := cell_below HBwt_5.out ct_10_0
    clear z_t_10
    have b0t_10 : (0 : Int) ≤ (nt_10 : Int) := by omega
    have b1t_10 : (nt_10 : Int) < ((sizes.length : Nat) : Int) := by omega
    have b2t_10 : ((nt_10 : Int)).toNat = nt_10 := by omega
    replace H := let_hid H
    obtain ⟨t_12, ht_12, H⟩ := H
    replace H := bind_hid H
    obtain ⟨t_13, qt_13, H⟩ := H
    go_wp2_with fail
    go_at_call 55
    refine (Go.Proofs.Ytekacbjnpeglhaa.GiWithin.C (value) (0) (t_12)  _    qt_13).mono ?_
    rintro e_t_13 wt_13 ⟨rfl, bt_13⟩
    have HBwt_13 := Lib.hid (Below.step HBwt_5.out bt_13)
    replace ct_10_0 := cell_below bt_13 ct_10_0
    clear bt_13
    replace H := app_hid H
    obtain rfl := ret_hid H
    go_wp2_with fail
    go_ret
    exact ⟨rfl, HBwt_13.out⟩
end Go.Proofs.Ytekacbjnpeglhaa.GiHasValue

/- loop.example/g01062/impl.isBan as a plain function, and the contract of the program's: where the plain one has an answer, the program has it. Conditions: slices read as lists. -/
namespace Go.Proofs.Ytekacbjnpeglhaa.GiIsBan
set_option linter.unusedVariables false
set_option linter.unusedSimpArgs false
open Go.RowKit
open Go.Proofs.Ytekacbjnpeglhaa.Rowed Go.Proofs.Ytekacbjnpeglhaa.Turn Go.Proofs.Ytekacbjnpeglhaa.Aid Go.Proofs.Ytekacbjnpeglhaa.GoP Go.Proofs.Ytekacbjnpeglhaa.GoM

def P (sizes : (List Int)) (b : Go.Proofs.Ytekacbjnpeglhaa.PBan.Ban) : Option (Bool) :=
  unBan b fun (b_a : Int) (b_x : Int) (b_b : Int) (b_y : Int) =>
  letK (decide (b_a < b_b)) fun (t_6 : Bool) =>
  joinK (fun (t_14 : Bool) =>
  joinK (fun (t_22 : Bool) =>
  some t_22) fun jt_22 => iteK t_14 (Option.bind (Go.Proofs.Ytekacbjnpeglhaa.GiHasValue.P sizes b_b b_y) fun (t_21 : Bool) =>
  appK jt_22 t_21) (appK jt_22 false)) fun jt_14 => iteK t_6 (Option.bind (Go.Proofs.Ytekacbjnpeglhaa.GiHasValue.P sizes b_a b_x) fun (t_13 : Bool) =>
  appK jt_14 t_13) (appK jt_14 false)

set_option maxRecDepth 100000 in
set_option maxHeartbeats 2000000 in
theorem C (sizes : (List Int)) (b : Go.Proofs.Ytekacbjnpeglhaa.PBan.Ban) (A0 : Option Addr) (c0 : Nat)  (w : World) (M0 : Hid (Cells w 1 A0 sizes.length (Go.Proofs.Ytekacbjnpeglhaa.HelpInt.iv sizes))) (N0 : Hid (sizes.length ≤ 9223372036854775807))  {r : Bool} (H : Hid (P sizes b = some r)) :
    Calls Try.prog 56 #[.slice A0 sizes.length c0, b.val] w (Gives (.bool r) w) := by
  have HB := Lib.hid (Below.refl w.heap.size w)
  unfold P at H
  obtain ⟨b_a, b_x, b_b, b_y⟩ := b
  replace H := unBan_hid H
  unfold Go.Proofs.Ytekacbjnpeglhaa.PBan.Ban.val
  have N0o := N0.out
  go_enter Try.func56, Try.ntmps56
  obtain ⟨w_b_0, hw_b_0⟩ : ∃ x, w.alloc (.cells #[.int .i64 b_a, .int .i64 b_x, .int .i64 b_b, .int .i64 b_y] 57) = x := ⟨_, rfl⟩
  have bw_b_0 : Below w.heap.size w w_b_0 := by rw [← hw_b_0]; exact (Below.refl _ _).alloc (Nat.le_refl _) _
  have HBw_b_0 := Lib.hid (Below.step HB.out bw_b_0)
  clear bw_b_0
  have kb_0_0 : w_b_0.cell? ⟨w.heap.size, 0, none⟩ = some (.int .i64 b_a) := by rw [← hw_b_0]; exact box_new _ _ _ 0 _ rfl
  have kb_0_1 : w_b_0.cell? ⟨w.heap.size, 1, none⟩ = some (.int .i64 b_x) := by rw [← hw_b_0]; exact box_new _ _ _ 1 _ rfl
  have kb_0_2 : w_b_0.cell? ⟨w.heap.size, 2, none⟩ = some (.int .i64 b_b) := by rw [← hw_b_0]; exact box_new _ _ _ 2 _ rfl
  have kb_0_3 : w_b_0.cell? ⟨w.heap.size, 3, none⟩ = some (.int .i64 b_y) := by rw [← hw_b_0]; exact box_new _ _ _ 3 _ rfl
  replace H := let_hid H
  obtain ⟨t_6, ht_6, H⟩ := H
  replace H := join_hid H
  cases t_6 with
  | false =>
    replace H := ite_f H
    replace H := app_hid H
    replace H := join_hid H
    replace H := ite_f H
    replace H := app_hid H
    obtain rfl := ret_hid H
    go_wp2_with fail
    go_ret
    exact ⟨rfl, HBw_b_0.out⟩
  | true =>
    replace H := ite_t H
    replace H := bind_hid H
    obtain ⟨t_13, qt_13, H⟩ := H
    go_wp2_with fail
    go_at_call 73
    refine (Go.Proofs.Ytekacbjnpeglhaa.GiHasValue.C (sizes) (b_a) (b_x) A0 c0 _   (Lib.hid (Cells.below M0.out HBw_b_0.out)) N0 qt_13).mono ?_
    rintro e_t_13 wt_13 ⟨rfl, bt_13⟩
    have HBwt_13 := Lib.hid (Below.step HBw_b_0.out bt_13)
    replace kb_0_0 := cell_below bt_13 kb_0_0
    replace kb_0_1 := cell_below bt_13 kb_0_1
    replace kb_0_2 := cell_below bt_13 kb_0_2
    replace kb_0_3 := cell_below bt_13 kb_0_3
    clear bt_13
    replace H := app_hid H
    replace H := join_hid H
    cases t_13 with
    | false =>
      replace H := ite_f H
      replace H := app_hid H
      obtain rfl := ret_hid H
      go_wp2_with fail
      go_ret
      exact ⟨rfl, HBwt_13.out⟩
    | true =>
      replace H := ite_t H
      replace H := bind_hid H
      obtain ⟨t_21, qt_21, H⟩ := H
      go_wp2_with fail
      go_at_call 73
      refine (Go.Proofs.Ytekacbjnpeglhaa.GiHasValue.C (sizes) (b_b) (b_y) A0 c0 _   (Lib.hid (Cells.below M0.out HBwt_13.out)) N0 qt_21).mono ?_
      rintro e_t_21 wt_21 ⟨rfl, bt_21⟩
      have HBwt_21 := Lib.hid (Below.step HBwt_13.out bt_21)
      replace kb_0_0 := cell_below bt_21 kb_0_0
      replace kb_0_1 := cell_below bt_21 kb_0_1
      replace kb_0_2 := cell_below bt_21 kb_0_2
      replace kb_0_3 := cell_below bt_21 kb_0_3
      clear bt_21
      replace H := app_hid H
      obtain rfl := ret_hid H
      go_wp2_with fail
      go_ret
      exact ⟨rfl, HBwt_21.out⟩
end Go.Proofs.Ytekacbjnpeglhaa.GiIsBan

/- cmp.isNaN[int] as a plain function, and the contract of the program's: where the plain one has an answer, the program has it. Conditions: slices read as lists. -/
namespace Go.Proofs.Ytekacbjnpeglhaa.GxCmpIsNaNInt
set_option linter.unusedVariables false
set_option linter.unusedSimpArgs false
open Go.RowKit
open Go.Proofs.Ytekacbjnpeglhaa.Rowed Go.Proofs.Ytekacbjnpeglhaa.Turn Go.Proofs.Ytekacbjnpeglhaa.Aid Go.Proofs.Ytekacbjnpeglhaa.GoP Go.Proofs.Ytekacbjnpeglhaa.GoM

def P (x : Int) : Option (Bool) :=
  some false

set_option maxRecDepth 100000 in
set_option maxHeartbeats 2000000 in
theorem C (x : Int)   (w : World)   {r : Bool} (H : Hid (P x = some r)) :
    Calls Try.prog 102 #[.int .i64 x] w (Gives (.bool r) w) := by
  have HB := Lib.hid (Below.refl w.heap.size w)
  unfold P at H
  go_enter Try.func102, Try.ntmps102
  obtain rfl := ret_hid H
  go_wp2_with fail
  go_ret
  exact ⟨rfl, HB.out⟩

set_option maxRecDepth 100000 in
set_option maxHeartbeats 2000000 in
theorem C0 (x : Int)   (w : World)   {r : Bool} (H : Hid (P x = some r)) :
    Calls Try.prog 102 #[.int .i64 x] w (fun e w'' => e = .returned (.bool r) ∧ w'' = w) := by
  have HB := Lib.hid (Below.refl w.heap.size w)
  unfold P at H
  go_enter Try.func102, Try.ntmps102
  obtain rfl := ret_hid H
  go_wp2_with fail
  go_ret
  exact ⟨rfl, rfl⟩
end Go.Proofs.Ytekacbjnpeglhaa.GxCmpIsNaNInt

/- cmp.Compare[int] as a plain function, and the contract of the program's: where the plain one has an answer, the program has it. Conditions: slices read as lists. -/
namespace Go.Proofs.Ytekacbjnpeglhaa.GxCmpCompareInt
set_option linter.unusedVariables false
set_option linter.unusedSimpArgs false
open Go.RowKit
open Go.Proofs.Ytekacbjnpeglhaa.Rowed Go.Proofs.Ytekacbjnpeglhaa.Turn Go.Proofs.Ytekacbjnpeglhaa.Aid Go.Proofs.Ytekacbjnpeglhaa.GoP Go.Proofs.Ytekacbjnpeglhaa.GoM

def P (x : Int) (y : Int) : Option (Int) :=
  Option.bind (Go.Proofs.Ytekacbjnpeglhaa.GxCmpIsNaNInt.P x) fun (t_2 : Bool) =>
  Option.bind (Go.Proofs.Ytekacbjnpeglhaa.GxCmpIsNaNInt.P y) fun (t_5 : Bool) =>
  iteK t_2
  (iteK t_5
  (some 0)
  (some (-1)))
  (iteK t_5
  (some 1)
  (letK (decide (x < y)) fun (t_15 : Bool) =>
  iteK t_15
  (some (-1))
  (letK (decide (y < x)) fun (t_19 : Bool) =>
  iteK t_19
  (some 1)
  (some 0))))

set_option maxRecDepth 100000 in
set_option maxHeartbeats 2000000 in
theorem C (x : Int) (y : Int)   (w : World)   {r : Int} (H : Hid (P x y = some r)) :
    Calls Try.prog 91 #[.int .i64 x, .int .i64 y] w (Gives (.int .i64 r) w) := by
  have HB := Lib.hid (Below.refl w.heap.size w)
  unfold P at H
  go_enter Try.func91, Try.ntmps91
  replace H := bind_hid H
  obtain ⟨t_2, qt_2, H⟩ := H
  go_wp2_with fail
  go_at_call 102
  refine (Go.Proofs.Ytekacbjnpeglhaa.GxCmpIsNaNInt.C (x)  _    qt_2).mono ?_
  rintro e_t_2 wt_2 ⟨rfl, bt_2⟩
  have HBwt_2 := Lib.hid (Below.step HB.out bt_2)
  clear bt_2
  replace H := bind_hid H
  obtain ⟨t_5, qt_5, H⟩ := H
  go_wp2_with fail
  go_at_call 102
  refine (Go.Proofs.Ytekacbjnpeglhaa.GxCmpIsNaNInt.C (y)  _    qt_5).mono ?_
  rintro e_t_5 wt_5 ⟨rfl, bt_5⟩
  have HBwt_5 := Lib.hid (Below.step HBwt_2.out bt_5)
  clear bt_5
  cases t_2 with
  | false =>
    replace H := ite_f H
    cases t_5 with
    | false =>
      replace H := ite_f H
      replace H := let_hid H
      obtain ⟨t_15, ht_15, H⟩ := H
      cases t_15 with
      | false =>
        replace H := ite_f H
        replace H := let_hid H
        obtain ⟨t_19, ht_19, H⟩ := H
        cases t_19 with
        | false =>
          replace H := ite_f H
          obtain rfl := ret_hid H
          go_wp2_with fail
          go_ret
          exact ⟨rfl, HBwt_5.out⟩
        | true =>
          replace H := ite_t H
          obtain rfl := ret_hid H
          go_wp2_with fail
          go_ret
          exact ⟨rfl, HBwt_5.out⟩
      | true =>
        replace H := ite_t H
        obtain rfl := ret_hid H
        go_wp2_with fail
        go_ret
        exact ⟨rfl, HBwt_5.out⟩
    | true =>
      replace H := ite_t H
      obtain rfl := ret_hid H
      go_wp2_with fail
      go_ret
      exact ⟨rfl, HBwt_5.out⟩
  | true =>
    replace H := ite_t H
    cases t_5 with
    | false =>
      replace H := ite_f H
      obtain rfl := ret_hid H
      go_wp2_with fail
      go_ret
      exact ⟨rfl, HBwt_5.out⟩
    | true =>
      replace H := ite_t H
      obtain rfl := ret_hid H
      go_wp2_with fail
      go_ret
      exact ⟨rfl, HBwt_5.out⟩
end Go.Proofs.Ytekacbjnpeglhaa.GxCmpCompareInt

/- cmp.Or[int] as a plain function, and the contract of the program's: where the plain one has an answer, the program has it. Conditions: slices read as lists. -/
namespace Go.Proofs.Ytekacbjnpeglhaa.GxCmpOrInt
set_option linter.unusedVariables false
set_option linter.unusedSimpArgs false
open Go.RowKit
open Go.Proofs.Ytekacbjnpeglhaa.Rowed Go.Proofs.Ytekacbjnpeglhaa.Turn Go.Proofs.Ytekacbjnpeglhaa.Aid Go.Proofs.Ytekacbjnpeglhaa.GoP Go.Proofs.Ytekacbjnpeglhaa.GoM

def l0 (vals : (List Int)) (k0 : Nat) (s : Unit) (nx0 bk0 : Unit → Option (Int)) : Option (Int) :=
  
  Option.bind (idx vals (k0 : Int)) fun (yt_6 : Int) =>
  letK (yt_6 != 0) fun (t_11 : Bool) =>
  iteK t_11
  (some yt_6)
  (appK nx0 ())

def e0  (s : Unit) : Option (Int) :=
  
  some 0

def P (vals : (List Int)) : Option (Int) :=
  cntK (l0 vals) (vals.length) 0 () (e0 )

set_option maxRecDepth 100000 in
set_option maxHeartbeats 2000000 in
theorem C (vals : (List Int)) (A0 : Option Addr) (c0 : Nat)  (w : World) (M0 : Hid (Cells w 1 A0 vals.length (Go.Proofs.Ytekacbjnpeglhaa.HelpInt.iv vals))) (N0 : Hid (vals.length ≤ 9223372036854775807))  {r : Int} (H : Hid (P vals = some r)) :
    Calls Try.prog 90 #[.slice A0 vals.length c0] w (Gives (.int .i64 r) w) := by
  have HB := Lib.hid (Below.refl w.heap.size w)
  unfold P at H
  have N0o := N0.out
  go_enter Try.func90, Try.ntmps90
  go_wp2_with fail
  go_loopg [8] (vals.length) (fun m_ v8_ wr => ∃ (k0 : Nat) , k0 + m_ = vals.length ∧ v8_ = .int .i64 (k0 : Int) ∧ Hid (cntK (l0 vals) m_ k0 () (e0 ) = some r) ∧ Hid (Below w.heap.size w wr))
  case atStart => exact ⟨0, by omega, rfl, H, HB⟩
  case round =>
    obtain ⟨k0, hkm0, rfl, H, HBwr0⟩ := hrel
    rename World => wr0
    cases gk with
    | zero =>
      obtain rfl : k0 = vals.length := by omega
      have hc0 : decide (((vals.length : Nat) : Int) < ((vals.length : Nat) : Int)) = false := by simp
      replace H := cnt_zero H
      unfold e0 at H
      obtain rfl := ret_hid H
      go_wp2_with fail
      go_ret
      exact ⟨rfl, HBwr0.out⟩
    | succ m0 =>
      have hlt0 : k0 < vals.length := by omega
      have hc0 : decide ((k0 : Int) < ((vals.length : Nat) : Int)) = true := by simp; omega
      replace H := cnt_succ H
      unfold l0 at H
      replace H := idx_hid H
      obtain ⟨nt_6, yt_6, et_6, lt_6, gt_6, H⟩ := H
      obtain rfl : k0 = nt_6 := by omega
      clear et_6
      obtain ⟨ab_t_6, ao_t_6, zt_6, At_6, z_t_6, ct_6_0⟩ := Go.Proofs.Ytekacbjnpeglhaa.HelpInt.Ints.at_ M0.out lt_6
      obtain rfl := Option.some.inj (gt_6.out.symm.trans z_t_6)
      subst At_6
      have ltt_6 := cell_lt ct_6_0
      replace ct_6_0 := cell_below HBwr0.out ct_6_0
      clear z_t_6
      have b0t_6 : (0 : Int) ≤ (k0 : Int) := by omega
      have b1t_6 : (k0 : Int) < ((vals.length : Nat) : Int) := by omega
      have b2t_6 : ((k0 : Int)).toNat = k0 := by omega
      replace H := let_hid H
      obtain ⟨t_11, ht_11, H⟩ := H
      cases t_11 with
      | false =>
        replace H := ite_f H
        replace H := app_hid H
        go_wp2_with fail
        go_roundg m0
        case measure => omega
        case rel => exact ⟨k0 + 1, by omega, by go_num, H, HBwr0⟩
      | true =>
        replace H := ite_t H
        obtain rfl := ret_hid H
        go_wp2_with fail
        go_ret
        exact ⟨rfl, HBwr0.out⟩
end Go.Proofs.Ytekacbjnpeglhaa.GxCmpOrInt

/- loop.example/g01062/impl.compareBans as a plain function, and the contract of the program's: where the plain one has an answer, the program has it. Conditions: slices read as lists. -/
namespace Go.Proofs.Ytekacbjnpeglhaa.GiCompareBans
set_option linter.unusedVariables false
set_option linter.unusedSimpArgs false
open Go.RowKit
open Go.Proofs.Ytekacbjnpeglhaa.Rowed Go.Proofs.Ytekacbjnpeglhaa.Turn Go.Proofs.Ytekacbjnpeglhaa.Aid Go.Proofs.Ytekacbjnpeglhaa.GoP Go.Proofs.Ytekacbjnpeglhaa.GoM

def P (a : Go.Proofs.Ytekacbjnpeglhaa.PBan.Ban) (b : Go.Proofs.Ytekacbjnpeglhaa.PBan.Ban) : Option (Int) :=
  unBan a fun (a_a : Int) (a_x : Int) (a_b : Int) (a_y : Int) =>
  unBan b fun (b_a : Int) (b_x : Int) (b_b : Int) (b_y : Int) =>
  Option.bind (Go.Proofs.Ytekacbjnpeglhaa.GxCmpCompareInt.P a_a b_a) fun (t_7 : Int) =>
  Option.bind (Go.Proofs.Ytekacbjnpeglhaa.GxCmpCompareInt.P a_x b_x) fun (t_12 : Int) =>
  Option.bind (Go.Proofs.Ytekacbjnpeglhaa.GxCmpCompareInt.P a_b b_b) fun (t_17 : Int) =>
  Option.bind (Go.Proofs.Ytekacbjnpeglhaa.GxCmpCompareInt.P a_y b_y) fun (t_22 : Int) =>
  letK ([t_7, t_12, t_17, t_22]) fun (t_23 : (List Int)) =>
  Option.bind (Go.Proofs.Ytekacbjnpeglhaa.GxCmpOrInt.P t_23) fun (t_24 : Int) =>
  some t_24

set_option maxRecDepth 100000 in
set_option maxHeartbeats 2000000 in
theorem C (a : Go.Proofs.Ytekacbjnpeglhaa.PBan.Ban) (b : Go.Proofs.Ytekacbjnpeglhaa.PBan.Ban)   (w : World)   {r : Int} (H : Hid (P a b = some r)) :
    Calls Try.prog 57 #[a.val, b.val] w (Gives (.int .i64 r) w) := by
  have HB := Lib.hid (Below.refl w.heap.size w)
  unfold P at H
  obtain ⟨a_a, a_x, a_b, a_y⟩ := a
  replace H := unBan_hid H
  obtain ⟨b_a, b_x, b_b, b_y⟩ := b
  replace H := unBan_hid H
  unfold Go.Proofs.Ytekacbjnpeglhaa.PBan.Ban.val
  go_enter Try.func57, Try.ntmps57
  obtain ⟨w_a_0, hw_a_0⟩ : ∃ x, w.alloc (.cells #[.int .i64 a_a, .int .i64 a_x, .int .i64 a_b, .int .i64 a_y] 57) = x := ⟨_, rfl⟩
  have bw_a_0 : Below w.heap.size w w_a_0 := by rw [← hw_a_0]; exact (Below.refl _ _).alloc (Nat.le_refl _) _
  have HBw_a_0 := Lib.hid (Below.step HB.out bw_a_0)
  clear bw_a_0
  have ka_0_0 : w_a_0.cell? ⟨w.heap.size, 0, none⟩ = some (.int .i64 a_a) := by rw [← hw_a_0]; exact box_new _ _ _ 0 _ rfl
  have ka_0_1 : w_a_0.cell? ⟨w.heap.size, 1, none⟩ = some (.int .i64 a_x) := by rw [← hw_a_0]; exact box_new _ _ _ 1 _ rfl
  have ka_0_2 : w_a_0.cell? ⟨w.heap.size, 2, none⟩ = some (.int .i64 a_b) := by rw [← hw_a_0]; exact box_new _ _ _ 2 _ rfl
  have ka_0_3 : w_a_0.cell? ⟨w.heap.size, 3, none⟩ = some (.int .i64 a_y) := by rw [← hw_a_0]; exact box_new _ _ _ 3 _ rfl
  obtain ⟨w_b_1, hw_b_1⟩ : ∃ x, w_a_0.alloc (.cells #[.int .i64 b_a, .int .i64 b_x, .int .i64 b_b, .int .i64 b_y] 57) = x := ⟨_, rfl⟩
  have bw_b_1 : Below w_a_0.heap.size w_a_0 w_b_1 := by rw [← hw_b_1]; exact (Below.refl _ _).alloc (Nat.le_refl _) _
  have HBw_b_1 := Lib.hid (Below.step HBw_a_0.out bw_b_1)
  have ka_0_0__120 := cell_below bw_b_1 ka_0_0
  have ka_0_1__121 := cell_below bw_b_1 ka_0_1
  have ka_0_2__122 := cell_below bw_b_1 ka_0_2
  have ka_0_3__123 := cell_below bw_b_1 ka_0_3
  clear bw_b_1
  have kb_1_0 : w_b_1.cell? ⟨w_a_0.heap.size, 0, none⟩ = some (.int .i64 b_a) := by rw [← hw_b_1]; exact box_new _ _ _ 0 _ rfl
  have kb_1_1 : w_b_1.cell? ⟨w_a_0.heap.size, 1, none⟩ = some (.int .i64 b_x) := by rw [← hw_b_1]; exact box_new _ _ _ 1 _ rfl
  have kb_1_2 : w_b_1.cell? ⟨w_a_0.heap.size, 2, none⟩ = some (.int .i64 b_b) := by rw [← hw_b_1]; exact box_new _ _ _ 2 _ rfl
  have kb_1_3 : w_b_1.cell? ⟨w_a_0.heap.size, 3, none⟩ = some (.int .i64 b_y) := by rw [← hw_b_1]; exact box_new _ _ _ 3 _ rfl
  go_wp2_with fail
  clear ka_0_0 ka_0_1 ka_0_2 ka_0_3
  have bd1 : Below w_b_1.heap.size w_b_1 w_b_1.drew := (Below.refl _ _).drew
  have HBw_b_1.drew := Lib.hid (Below.step HBw_b_1.out bd1)
  replace ka_0_0__120 := cell_below bd1 ka_0_0__120
  replace ka_0_1__121 := cell_below bd1 ka_0_1__121
  replace ka_0_2__122 := cell_below bd1 ka_0_2__122
  replace ka_0_3__123 := cell_below bd1 ka_0_3__123
  replace kb_1_0 := cell_below bd1 kb_1_0
  replace kb_1_1 := cell_below bd1 kb_1_1
  replace kb_1_2 := cell_below bd1 kb_1_2
  replace kb_1_3 := cell_below bd1 kb_1_3
  clear bd1
  replace H := bind_hid H
  obtain ⟨t_7, qt_7, H⟩ := H
  replace H := bind_hid H
  obtain ⟨t_12, qt_12, H⟩ := H
  replace H := bind_hid H
  obtain ⟨t_17, qt_17, H⟩ := H
  replace H := bind_hid H
  obtain ⟨t_22, qt_22, H⟩ := H
  replace H := let_hid H
  obtain ⟨t_23, ht_23, H⟩ := H
  replace H := bind_hid H
  obtain ⟨t_24, qt_24, H⟩ := H
  go_region_held3 (fun w' => w'.cell? ⟨w.heap.size, 0, none⟩ = some (.int .i64 a_a) ∧ w'.cell? ⟨w.heap.size, 1, none⟩ = some (.int .i64 a_x) ∧ w'.cell? ⟨w.heap.size, 2, none⟩ = some (.int .i64 a_b) ∧ w'.cell? ⟨w.heap.size, 3, none⟩ = some (.int .i64 a_y) ∧ w'.cell? ⟨w_a_0.heap.size, 0, none⟩ = some (.int .i64 b_a) ∧ w'.cell? ⟨w_a_0.heap.size, 1, none⟩ = some (.int .i64 b_x) ∧ w'.cell? ⟨w_a_0.heap.size, 2, none⟩ = some (.int .i64 b_b) ∧ w'.cell? ⟨w_a_0.heap.size, 3, none⟩ = some (.int .i64 b_y)) (first | exact ⟨ka_0_0__120, ka_0_1__121, ka_0_2__122, ka_0_3__123, kb_1_0, kb_1_1, kb_1_2, kb_1_3⟩ | exact ⟨ka_0_0__124, ka_0_1__125, ka_0_2__126, ka_0_3__127, kb_1_0__128, kb_1_1__129, kb_1_2__130, kb_1_3__131⟩)
      (first
        | (go_at_call 91
           refine (Go.Proofs.Ytekacbjnpeglhaa.GxCmpCompareInt.C (a_a) (b_a)  _    qt_7).mono ?_
           rintro e_t_7 wt_7 ⟨rfl, bt_7⟩
           have HBwt_7 := Lib.hid (Below.step HBw_b_1.drew.out bt_7)
           replace ka_0_0__120 := cell_below bt_7 ka_0_0__120
           replace ka_0_1__121 := cell_below bt_7 ka_0_1__121
           replace ka_0_2__122 := cell_below bt_7 ka_0_2__122
           replace ka_0_3__123 := cell_below bt_7 ka_0_3__123
           replace kb_1_0 := cell_below bt_7 kb_1_0
           replace kb_1_1 := cell_below bt_7 kb_1_1
           replace kb_1_2 := cell_below bt_7 kb_1_2
           replace kb_1_3 := cell_below bt_7 kb_1_3
           clear bt_7
           clear qt_7)
        | (go_at_call 91
           refine (Go.Proofs.Ytekacbjnpeglhaa.GxCmpCompareInt.C (a_x) (b_x)  _    qt_12).mono ?_
           rintro e_t_12 wt_12 ⟨rfl, bt_12⟩
           have HBwt_12 := Lib.hid (Below.step HBwt_7.out bt_12)
           replace ka_0_0__120 := cell_below bt_12 ka_0_0__120
           replace ka_0_1__121 := cell_below bt_12 ka_0_1__121
           replace ka_0_2__122 := cell_below bt_12 ka_0_2__122
           replace ka_0_3__123 := cell_below bt_12 ka_0_3__123
           replace kb_1_0 := cell_below bt_12 kb_1_0
           replace kb_1_1 := cell_below bt_12 kb_1_1
           replace kb_1_2 := cell_below bt_12 kb_1_2
           replace kb_1_3 := cell_below bt_12 kb_1_3
           clear bt_12
           clear qt_12)
        | (go_at_call 91
           refine (Go.Proofs.Ytekacbjnpeglhaa.GxCmpCompareInt.C (a_b) (b_b)  _    qt_17).mono ?_
           rintro e_t_17 wt_17 ⟨rfl, bt_17⟩
           have HBwt_17 := Lib.hid (Below.step HBwt_12.out bt_17)
           replace ka_0_0__120 := cell_below bt_17 ka_0_0__120
           replace ka_0_1__121 := cell_below bt_17 ka_0_1__121
           replace ka_0_2__122 := cell_below bt_17 ka_0_2__122
           replace ka_0_3__123 := cell_below bt_17 ka_0_3__123
           replace kb_1_0 := cell_below bt_17 kb_1_0
           replace kb_1_1 := cell_below bt_17 kb_1_1
           replace kb_1_2 := cell_below bt_17 kb_1_2
           replace kb_1_3 := cell_below bt_17 kb_1_3
           clear bt_17
           clear qt_17)
        | (go_at_call 91
           refine (Go.Proofs.Ytekacbjnpeglhaa.GxCmpCompareInt.C (a_y) (b_y)  _    qt_22).mono ?_
           rintro e_t_22 wt_22 ⟨rfl, bt_22⟩
           have HBwt_22 := Lib.hid (Below.step HBwt_17.out bt_22)
           replace ka_0_0__120 := cell_below bt_22 ka_0_0__120
           replace ka_0_1__121 := cell_below bt_22 ka_0_1__121
           replace ka_0_2__122 := cell_below bt_22 ka_0_2__122
           replace ka_0_3__123 := cell_below bt_22 ka_0_3__123
           replace kb_1_0 := cell_below bt_22 kb_1_0
           replace kb_1_1 := cell_below bt_22 kb_1_1
           replace kb_1_2 := cell_below bt_22 kb_1_2
           replace kb_1_3 := cell_below bt_22 kb_1_3
           clear bt_22
           clear qt_22
           obtain ⟨w_t_23, hw_t_23⟩ : ∃ x, wt_22.alloc (.cells #[.int .i64 t_7, .int .i64 t_12, .int .i64 t_17, .int .i64 t_22] 3) = x := ⟨_, rfl⟩
           have bw_t_23 : Below wt_22.heap.size wt_22 w_t_23 := by rw [← hw_t_23]; exact (Below.refl _ _).alloc (Nat.le_refl _) _
           have hs_t_23 := HBwt_22.out.size
           have nt_23 : t_23.length = 4 := by rw [← ht_23]; rfl
           have Ot_23 : Hid (w_t_23.ownsRow w.heap.size 3 1 (.slice (some ⟨wt_22.heap.size, 0, none⟩) 4 4) 4 (Go.Proofs.Ytekacbjnpeglhaa.HelpInt.iv t_23)) := by
             rw [← hw_t_23, ← ht_23]
             have e_ : ([.int .i64 t_7, .int .i64 t_12, .int .i64 t_17, .int .i64 t_22] : List Value) = (Go.Proofs.Ytekacbjnpeglhaa.HelpInt.iv ([t_7, t_12, t_17, t_22] : List Int)) := rfl
             exact Lib.hid (own_laid (n := 4) hs_t_23 e_ rfl (by unfold maxLen; omega))
           clear hs_t_23
           have hht_23 := Lib.hid ht_23
           clear ht_23
           replace nt_23 := Lib.hid nt_23
           have Dt_23_a_0 := Lib.hid (apart_box ka_0_0__120)
           have Dt_23_b_1 := Lib.hid (apart_box kb_1_0)
           have HBw_t_23 := Lib.hid (Below.step HBwt_22.out bw_t_23)
           have ka_0_0__124 := cell_below bw_t_23 ka_0_0__120
           have ka_0_1__125 := cell_below bw_t_23 ka_0_1__121
           have ka_0_2__126 := cell_below bw_t_23 ka_0_2__122
           have ka_0_3__127 := cell_below bw_t_23 ka_0_3__123
           have kb_1_0__128 := cell_below bw_t_23 kb_1_0
           have kb_1_1__129 := cell_below bw_t_23 kb_1_1
           have kb_1_2__130 := cell_below bw_t_23 kb_1_2
           have kb_1_3__131 := cell_below bw_t_23 kb_1_3
           clear bw_t_23)
        | (have hc0_ := nt_23.out
           have Oct_24_1 := Lib.hid (own_len hc0_ Ot_23.out)
           have con_ := Go.Proofs.Ytekacbjnpeglhaa.GxCmpOrInt.C (t_23) (some ⟨wt_22.heap.size, 0, none⟩) 4 _   (Lib.hid (own_cells Oct_24_1.out)) (Lib.hid (own_max Oct_24_1.out)) qt_24
           rw [hc0_] at con_
           clear hc0_ Oct_24_1
           go_at_call 90
           refine con_.mono ?_
           rintro e_t_24 wt_24 ⟨rfl, bt_24⟩
           have HBwt_24 := Lib.hid (Below.step HBw_t_23.out bt_24)
           replace ka_0_0__124 := cell_below bt_24 ka_0_0__124
           replace ka_0_1__125 := cell_below bt_24 ka_0_1__125
           replace ka_0_2__126 := cell_below bt_24 ka_0_2__126
           replace ka_0_3__127 := cell_below bt_24 ka_0_3__127
           replace kb_1_0__128 := cell_below bt_24 kb_1_0__128
           replace kb_1_1__129 := cell_below bt_24 kb_1_1__129
           replace kb_1_2__130 := cell_below bt_24 kb_1_2__130
           replace kb_1_3__131 := cell_below bt_24 kb_1_3__131
           replace Ot_23 := Lib.hid (own_below Ot_23.out bt_24)
           clear bt_24
           clear qt_24))
  try clear ka_0_0__120
  try clear ka_0_1__121
  try clear ka_0_2__122
  try clear ka_0_3__123
  try clear kb_1_0
  try clear kb_1_1
  try clear kb_1_2
  try clear kb_1_3
  obtain rfl := ret_hid H
  go_wp2_with fail
  go_ret
  exact ⟨rfl, HBwt_24.out⟩
end Go.Proofs.Ytekacbjnpeglhaa.GiCompareBans

/- loop.example/g01062/impl.IsKindTable as a plain function, and the contract of the program's: where the plain one has an answer, the program has it. Conditions: slices read as lists. -/
namespace Go.Proofs.Ytekacbjnpeglhaa.GiIsKindTable
set_option linter.unusedVariables false
set_option linter.unusedSimpArgs false
open Go.RowKit
open Go.Proofs.Ytekacbjnpeglhaa.Rowed Go.Proofs.Ytekacbjnpeglhaa.Turn Go.Proofs.Ytekacbjnpeglhaa.Aid Go.Proofs.Ytekacbjnpeglhaa.GoP Go.Proofs.Ytekacbjnpeglhaa.GoM

def l0 (t_sizes : (List Int)) (k0 : Nat) (s : Unit) (nx0 bk0 : Unit → Option (Bool)) : Option (Bool) :=
  
  Option.bind (idx t_sizes (k0 : Int)) fun (yt_19 : Int) =>
  Option.bind (Go.Proofs.Ytekacbjnpeglhaa.GiWithin.P yt_19 1 5) fun (t_23 : Bool) =>
  letK (!t_23) fun (t_24 : Bool) =>
  iteK t_24
  (some false)
  (appK nx0 ())

def l1 (t_sizes : (List Int)) (t_bans : (List Go.Proofs.Ytekacbjnpeglhaa.PBan.Ban)) (k1 : Nat) (s : Unit) (nx1 bk1 : Unit → Option (Bool)) : Option (Bool) :=
  
  Option.bind (idx t_bans (k1 : Int)) fun (yt_34 : Go.Proofs.Ytekacbjnpeglhaa.PBan.Ban) =>
  unBan yt_34 fun (t_34_a : Int) (t_34_x : Int) (t_34_b : Int) (t_34_y : Int) =>
  Option.bind (Go.Proofs.Ytekacbjnpeglhaa.GiIsBan.P t_sizes (Go.Proofs.Ytekacbjnpeglhaa.PBan.Ban.mk t_34_a t_34_x t_34_b t_34_y)) fun (t_42 : Bool) =>
  letK (!t_42) fun (t_43 : Bool) =>
  joinK (fun (t_58 : Bool) =>
  iteK t_58
  (some false)
  (appK nx1 ())) fun jt_58 => iteK t_43 (appK jt_58 true) (letK (decide (0 < (k1 : Int))) fun (t_46 : Bool) =>
  joinK (fun (t_57 : Bool) =>
  appK jt_58 t_57) fun jt_57 => iteK t_46 (letK (IntKind.i64.wrap ((k1 : Int) - 1)) fun (t_51 : Int) =>
  Option.bind (idx t_bans t_51) fun (yt_52 : Go.Proofs.Ytekacbjnpeglhaa.PBan.Ban) =>
  unBan yt_52 fun (t_52_a : Int) (t_52_x : Int) (t_52_b : Int) (t_52_y : Int) =>
  Option.bind (Go.Proofs.Ytekacbjnpeglhaa.GiCompareBans.P (Go.Proofs.Ytekacbjnpeglhaa.PBan.Ban.mk t_52_a t_52_x t_52_b t_52_y) (Go.Proofs.Ytekacbjnpeglhaa.PBan.Ban.mk t_34_a t_34_x t_34_b t_34_y)) fun (t_55 : Int) =>
  letK (decide (0 ≤ t_55)) fun (t_56 : Bool) =>
  appK jt_57 t_56) (appK jt_57 false))

def e1  (s : Unit) : Option (Bool) :=
  
  some true

def e0 (t_sizes : (List Int)) (t_bans : (List Go.Proofs.Ytekacbjnpeglhaa.PBan.Ban)) (s : Unit) : Option (Bool) :=
  
  cntK (l1 t_sizes t_bans) (t_bans.length) 0 () (e1 )

def P (t_sizes : (List Int)) (t_bans : (List Go.Proofs.Ytekacbjnpeglhaa.PBan.Ban)) : Option (Bool) :=
  Option.bind (Go.Proofs.Ytekacbjnpeglhaa.GiWithin.P (t_sizes.length : Int) 1 5) fun (t_5 : Bool) =>
  letK (!t_5) fun (t_6 : Bool) =>
  joinK (fun (t_12 : Bool) =>
  iteK t_12
  (some false)
  (cntK (l0 t_sizes) (t_sizes.length) 0 () (e0 t_sizes t_bans))) fun jt_12 => iteK t_6 (appK jt_12 true) (letK (decide (20 < (t_bans.length : Int))) fun (t_11 : Bool) =>
  appK jt_12 t_11)

set_option maxRecDepth 100000 in
set_option maxHeartbeats 2000000 in
theorem C (t_sizes : (List Int)) (t_bans : (List Go.Proofs.Ytekacbjnpeglhaa.PBan.Ban)) (A0_0 : Option Addr) (c0_0 : Nat) (A0_1 : Option Addr) (c0_1 : Nat)  (w : World) (M0_0 : Hid (Cells w 1 A0_0 t_sizes.length (Go.Proofs.Ytekacbjnpeglhaa.HelpInt.iv t_sizes))) (N0_0 : Hid (t_sizes.length ≤ 9223372036854775807)) (M0_1 : Hid (Cells w 4 A0_1 t_bans.length (Go.Proofs.Ytekacbjnpeglhaa.PBan.flat t_bans))) (N0_1 : Hid (t_bans.length ≤ 9223372036854775807))  {r : Bool} (H : Hid (P t_sizes t_bans = some r)) :
    Calls Try.prog 16 #[.agg #[.slice A0_0 t_sizes.length c0_0, .slice A0_1 t_bans.length c0_1]] w (Gives (.bool r) w) := by
  have HB := Lib.hid (Below.refl w.heap.size w)
  unfold P at H
  have N0_0o := N0_0.out
  have N0_1o := N0_1.out
  go_enter Try.func16, Try.ntmps16
  obtain ⟨w_t_0, hw_t_0⟩ : ∃ x, w.alloc (.cells #[.slice A0_0 t_sizes.length c0_0, .slice A0_1 t_bans.length c0_1] 30) = x := ⟨_, rfl⟩
  have bw_t_0 : Below w.heap.size w w_t_0 := by rw [← hw_t_0]; exact (Below.refl _ _).alloc (Nat.le_refl _) _
  have HBw_t_0 := Lib.hid (Below.step HB.out bw_t_0)
  clear bw_t_0
  have kt_0_0 : w_t_0.cell? ⟨w.heap.size, 0, none⟩ = some (.slice A0_0 t_sizes.length c0_0) := by rw [← hw_t_0]; exact box_new _ _ _ 0 _ rfl
  have kt_0_1 : w_t_0.cell? ⟨w.heap.size, 1, none⟩ = some (.slice A0_1 t_bans.length c0_1) := by rw [← hw_t_0]; exact box_new _ _ _ 1 _ rfl
  replace H := bind_hid H
  obtain ⟨t_5, qt_5, H⟩ := H
  go_wp2_with fail
  go_at_call 55
  refine (Go.Proofs.Ytekacbjnpeglhaa.GiWithin.C ((t_sizes.length : Int)) (1) (5)  _    qt_5).mono ?_
  rintro e_t_5 wt_5 ⟨rfl, bt_5⟩
  have HBwt_5 := Lib.hid (Below.step HBw_t_0.out bt_5)
  replace kt_0_0 := cell_below bt_5 kt_0_0
  replace kt_0_1 := cell_below bt_5 kt_0_1
  clear bt_5
  cases t_5 with
  | false =>
    replace H := let_hid H
    obtain ⟨t_6, ht_6, H⟩ := H
    obtain rfl : t_6 = true := ht_6.symm
    replace H := join_hid H
    replace H := ite_t H
    replace H := app_hid H
    replace H := ite_t H
    obtain rfl := ret_hid H
    go_wp2_with fail
    go_ret
    exact ⟨rfl, HBwt_5.out⟩
  | true =>
    replace H := let_hid H
    obtain ⟨t_6, ht_6, H⟩ := H
    obtain rfl : t_6 = false := ht_6.symm
    replace H := join_hid H
    replace H := ite_f H
    replace H := let_hid H
    obtain ⟨t_11, ht_11, H⟩ := H
    replace H := app_hid H
    cases t_11 with
    | false =>
      have nht_11 : ¬ (20 < t_bans.length) := by have := of_decide_eq_false ht_11; omega
      replace H := ite_f H
      go_wp2_with fail
      go_loopg [21] (t_sizes.length) (fun m_ v21_ wr => ∃ (k0 : Nat) , k0 + m_ = t_sizes.length ∧ v21_ = .int .i64 (k0 : Int) ∧ Hid (cntK (l0 t_sizes) m_ k0 () (e0 t_sizes t_bans) = some r) ∧ Hid (Below w.heap.size w wr) ∧ wr.cell? ⟨w.heap.size, 0, none⟩ = some (.slice A0_0 t_sizes.length c0_0) ∧ wr.cell? ⟨w.heap.size, 1, none⟩ = some (.slice A0_1 t_bans.length c0_1))
      case atStart => exact ⟨0, by omega, rfl, H, HBwt_5, kt_0_0, kt_0_1⟩
      case round =>
        obtain ⟨k0, hkm0, rfl, H, HBwr0, kt_0_0, kt_0_1⟩ := hrel
        rename World => wr0
        cases gk with
        | zero =>
          obtain rfl : k0 = t_sizes.length := by omega
          have hc0 : decide (((t_sizes.length : Nat) : Int) < ((t_sizes.length : Nat) : Int)) = false := by simp
          replace H := cnt_zero H
          unfold e0 at H
          go_wp2_with fail
          go_loopg [32] (t_bans.length) (fun m_ v32_ wr => ∃ (k1 : Nat) , k1 + m_ = t_bans.length ∧ v32_ = .int .i64 (k1 : Int) ∧ Hid (cntK (l1 t_sizes t_bans) m_ k1 () (e1 ) = some r) ∧ Hid (Below w.heap.size w wr) ∧ wr.cell? ⟨w.heap.size, 0, none⟩ = some (.slice A0_0 t_sizes.length c0_0) ∧ wr.cell? ⟨w.heap.size, 1, none⟩ = some (.slice A0_1 t_bans.length c0_1))
          case atStart => exact ⟨0, by omega, rfl, H, HBwr0, kt_0_0, kt_0_1⟩
          case round =>
            obtain ⟨k1, hkm1, rfl, H, HBwr1, kt_0_0, kt_0_1⟩ := hrel
            rename World => wr1
            cases gk with
            | zero =>
              obtain rfl : k1 = t_bans.length := by omega
              have hc1 : decide (((t_bans.length : Nat) : Int) < ((t_bans.length : Nat) : Int)) = false := by simp
              replace H := cnt_zero H
              unfold e1 at H
              obtain rfl := ret_hid H
              go_wp2_with fail
              go_ret
              exact ⟨rfl, HBwr1.out⟩
            | succ m1 =>
              have hlt1 : k1 < t_bans.length := by omega
              have hc1 : decide ((k1 : Int) < ((t_bans.length : Nat) : Int)) = true := by simp; omega
              replace H := cnt_succ H
              unfold l1 at H
              replace H := idx_hid H
              obtain ⟨nt_34, yt_34, et_34, lt_34, gt_34, H⟩ := H
              obtain rfl : k1 = nt_34 := by omega
              clear et_34
              obtain ⟨t_34_a, t_34_x, t_34_b, t_34_y⟩ := yt_34
              replace H := unBan_hid H
              obtain ⟨ab_t_34, ao_t_34, zt_34, At_34, z_t_34, ct_34_0, ct_34_1, ct_34_2, ct_34_3⟩ := Go.Proofs.Ytekacbjnpeglhaa.OBan.at_ M0_1.out lt_34
              obtain rfl := Option.some.inj (gt_34.out.symm.trans z_t_34)
              subst At_34
              have ltt_34 := cell_lt ct_34_0
              replace ct_34_0 := cell_below HBwr1.out ct_34_0
              replace ct_34_1 := cell_below HBwr1.out ct_34_1
              replace ct_34_2 := cell_below HBwr1.out ct_34_2
              replace ct_34_3 := cell_below HBwr1.out ct_34_3
              clear z_t_34
              have b0t_34 : (0 : Int) ≤ (k1 : Int) := by omega
              have b1t_34 : (k1 : Int) < ((t_bans.length : Nat) : Int) := by omega
              have b2t_34 : ((k1 : Int)).toNat = k1 := by omega
              obtain ⟨w_b_36, hw_b_36⟩ : ∃ x, wr1.alloc (.cells #[.int .i64 t_34_a, .int .i64 t_34_x, .int .i64 t_34_b, .int .i64 t_34_y] 57) = x := ⟨_, rfl⟩
              have bw_b_36 : Below wr1.heap.size wr1 w_b_36 := by rw [← hw_b_36]; exact (Below.refl _ _).alloc (Nat.le_refl _) _
              have HBw_b_36 := Lib.hid (Below.step HBwr1.out bw_b_36)
              have kt_0_0__132 := cell_below bw_b_36 kt_0_0
              have kt_0_1__133 := cell_below bw_b_36 kt_0_1
              have ct_34_0__134 := cell_below bw_b_36 ct_34_0
              have ct_34_1__135 := cell_below bw_b_36 ct_34_1
              have ct_34_2__136 := cell_below bw_b_36 ct_34_2
              have ct_34_3__137 := cell_below bw_b_36 ct_34_3
              clear bw_b_36
              have kb_36_0 : w_b_36.cell? ⟨wr1.heap.size, 0, none⟩ = some (.int .i64 t_34_a) := by rw [← hw_b_36]; exact box_new _ _ _ 0 _ rfl
              have kb_36_1 : w_b_36.cell? ⟨wr1.heap.size, 1, none⟩ = some (.int .i64 t_34_x) := by rw [← hw_b_36]; exact box_new _ _ _ 1 _ rfl
              have kb_36_2 : w_b_36.cell? ⟨wr1.heap.size, 2, none⟩ = some (.int .i64 t_34_b) := by rw [← hw_b_36]; exact box_new _ _ _ 2 _ rfl
              have kb_36_3 : w_b_36.cell? ⟨wr1.heap.size, 3, none⟩ = some (.int .i64 t_34_y) := by rw [← hw_b_36]; exact box_new _ _ _ 3 _ rfl
              go_wp2_with fail
              clear kt_0_0 kt_0_1 ct_34_0 ct_34_1 ct_34_2 ct_34_3
              have Hkt_0_0__132 := Lib.hid kt_0_0__132
              replace kt_0_0__132 := cell_regrown kt_0_0__132
              have Hkt_0_1__133 := Lib.hid kt_0_1__133
              replace kt_0_1__133 := cell_regrown kt_0_1__133
              have Hct_34_0__134 := Lib.hid ct_34_0__134
              replace ct_34_0__134 := cell_regrown ct_34_0__134
              have Hct_34_1__135 := Lib.hid ct_34_1__135
              replace ct_34_1__135 := cell_regrown ct_34_1__135
              have Hct_34_2__136 := Lib.hid ct_34_2__136
              replace ct_34_2__136 := cell_regrown ct_34_2__136
              have Hct_34_3__137 := Lib.hid ct_34_3__137
              replace ct_34_3__137 := cell_regrown ct_34_3__137
              have Hkb_36_0 := Lib.hid kb_36_0
              replace kb_36_0 := cell_regrown kb_36_0
              have Hkb_36_1 := Lib.hid kb_36_1
              replace kb_36_1 := cell_regrown kb_36_1
              have Hkb_36_2 := Lib.hid kb_36_2
              replace kb_36_2 := cell_regrown kb_36_2
              have Hkb_36_3 := Lib.hid kb_36_3
              replace kb_36_3 := cell_regrown kb_36_3
              replace H := bind_hid H
              obtain ⟨t_42, qt_42, H⟩ := H
              have nt_42 : ∀ d os, Calls Try.prog 56 #[.slice A0_0 t_sizes.length c0_0, .agg #[.int .i64 t_34_a, .int .i64 t_34_x, .int .i64 t_34_b, .int .i64 t_34_y]] (Go.Sort.grow (redrawn w_b_36 d) os) fun e w'' => e = .returned (.bool t_42) ∧ ∃ p : Regrown, w'' = Go.Sort.grow (redrawn w_b_36 p.d) p.os := fun d os => Calls.regrown_of (Go.Proofs.Ytekacbjnpeglhaa.GiIsBan.C (t_sizes) ((Go.Proofs.Ytekacbjnpeglhaa.PBan.Ban.mk t_34_a t_34_x t_34_b t_34_y)) A0_0 c0_0 _   (Lib.hid (Cells.below (Cells.below M0_0.out HBw_b_36.out) (below_regrown _ _ _))) N0_0 qt_42)
              cases t_42 with
              | false =>
                replace H := let_hid H
                obtain ⟨t_43, ht_43, H⟩ := H
                obtain rfl : t_43 = true := ht_43.symm
                replace H := join_hid H
                replace H := ite_t H
                replace H := app_hid H
                refine wp_region_quiet_below (by kernel_rfl) (by kernel_rfl) ?_
                repeat (go_big_quiet_step (first | (go_at_call 56; exact nt_42 _ _)))
                refine wpQuiet_nil ?_
                intro Y12 hY12
                replace hY12 := below_class hY12
                clear nt_42
                replace kt_0_0__132 := Hkt_0_0__132.out
                clear Hkt_0_0__132
                replace kt_0_1__133 := Hkt_0_1__133.out
                clear Hkt_0_1__133
                replace ct_34_0__134 := Hct_34_0__134.out
                clear Hct_34_0__134
                replace ct_34_1__135 := Hct_34_1__135.out
                clear Hct_34_1__135
                replace ct_34_2__136 := Hct_34_2__136.out
                clear Hct_34_2__136
                replace ct_34_3__137 := Hct_34_3__137.out
                clear Hct_34_3__137
                replace kb_36_0 := Hkb_36_0.out
                clear Hkb_36_0
                replace kb_36_1 := Hkb_36_1.out
                clear Hkb_36_1
                replace kb_36_2 := Hkb_36_2.out
                clear Hkb_36_2
                replace kb_36_3 := Hkb_36_3.out
                clear Hkb_36_3
                have HBY12 := Lib.hid (Below.step HBw_b_36.out hY12)
                replace kt_0_0__132 := cell_below hY12 kt_0_0__132
                replace kt_0_1__133 := cell_below hY12 kt_0_1__133
                replace ct_34_0__134 := cell_below hY12 ct_34_0__134
                replace ct_34_1__135 := cell_below hY12 ct_34_1__135
                replace ct_34_2__136 := cell_below hY12 ct_34_2__136
                replace ct_34_3__137 := cell_below hY12 ct_34_3__137
                replace kb_36_0 := cell_below hY12 kb_36_0
                replace kb_36_1 := cell_below hY12 kb_36_1
                replace kb_36_2 := cell_below hY12 kb_36_2
                replace kb_36_3 := cell_below hY12 kb_36_3
                clear hY12
                replace H := ite_t H
                obtain rfl := ret_hid H
                go_wp2_with fail
                go_ret
                exact ⟨rfl, HBY12.out⟩
              | true =>
                replace H := let_hid H
                obtain ⟨t_43, ht_43, H⟩ := H
                obtain rfl : t_43 = false := ht_43.symm
                replace H := join_hid H
                replace H := ite_f H
                replace H := let_hid H
                obtain ⟨t_46, ht_46, H⟩ := H
                replace H := join_hid H
                cases t_46 with
                | false =>
                  have nht_46 : ¬ (0 < k1) := by have := of_decide_eq_false ht_46; omega
                  replace H := ite_f H
                  replace H := app_hid H
                  replace H := app_hid H
                  refine wp_region_quiet_below (by kernel_rfl) (by kernel_rfl) ?_
                  repeat (go_big_quiet_step (first | (go_at_call 56; exact nt_42 _ _)))
                  refine wpQuiet_nil ?_
                  intro Y12 hY12
                  replace hY12 := below_class hY12
                  clear nt_42
                  replace kt_0_0__132 := Hkt_0_0__132.out
                  clear Hkt_0_0__132
                  replace kt_0_1__133 := Hkt_0_1__133.out
                  clear Hkt_0_1__133
                  replace ct_34_0__134 := Hct_34_0__134.out
                  clear Hct_34_0__134
                  replace ct_34_1__135 := Hct_34_1__135.out
                  clear Hct_34_1__135
                  replace ct_34_2__136 := Hct_34_2__136.out
                  clear Hct_34_2__136
                  replace ct_34_3__137 := Hct_34_3__137.out
                  clear Hct_34_3__137
                  replace kb_36_0 := Hkb_36_0.out
                  clear Hkb_36_0
                  replace kb_36_1 := Hkb_36_1.out
                  clear Hkb_36_1
                  replace kb_36_2 := Hkb_36_2.out
                  clear Hkb_36_2
                  replace kb_36_3 := Hkb_36_3.out
                  clear Hkb_36_3
                  have HBY12 := Lib.hid (Below.step HBw_b_36.out hY12)
                  replace kt_0_0__132 := cell_below hY12 kt_0_0__132
                  replace kt_0_1__133 := cell_below hY12 kt_0_1__133
                  replace ct_34_0__134 := cell_below hY12 ct_34_0__134
                  replace ct_34_1__135 := cell_below hY12 ct_34_1__135
                  replace ct_34_2__136 := cell_below hY12 ct_34_2__136
                  replace ct_34_3__137 := cell_below hY12 ct_34_3__137
                  replace kb_36_0 := cell_below hY12 kb_36_0
                  replace kb_36_1 := cell_below hY12 kb_36_1
                  replace kb_36_2 := cell_below hY12 kb_36_2
                  replace kb_36_3 := cell_below hY12 kb_36_3
                  clear hY12
                  replace H := ite_f H
                  replace H := app_hid H
                  go_wp2_with fail
                  go_roundg m1
                  case measure => omega
                  case rel => exact ⟨k1 + 1, by omega, by go_num, H, HBY12, kt_0_0__132, kt_0_1__133⟩
                | true =>
                  have nht_46 : 0 < k1 := by have := of_decide_eq_true ht_46; omega
                  replace H := ite_t H
                  replace H := let_hid H
                  obtain ⟨t_51, ht_51, H⟩ := H
                  replace H := idx_hid H
                  obtain ⟨nt_52, yt_52, et_52, lt_52, gt_52, H⟩ := H
                  subst et_52
                  obtain ⟨t_52_a, t_52_x, t_52_b, t_52_y⟩ := yt_52
                  replace H := unBan_hid H
                  obtain ⟨ab_t_52, ao_t_52, zt_52, At_52, z_t_52, ct_52_0, ct_52_1, ct_52_2, ct_52_3⟩ := Go.Proofs.Ytekacbjnpeglhaa.OBan.at_ M0_1.out lt_52
                  obtain rfl := Option.some.inj (gt_52.out.symm.trans z_t_52)
                  simp only [Option.some.injEq, Addr.mk.injEq] at At_52
                  obtain ⟨rfl, rfl, _⟩ := At_52
                  have ltt_52 := cell_lt ct_52_0
                  replace ct_52_0 := cell_below HBw_b_36.out ct_52_0
                  replace ct_52_1 := cell_below HBw_b_36.out ct_52_1
                  replace ct_52_2 := cell_below HBw_b_36.out ct_52_2
                  replace ct_52_3 := cell_below HBw_b_36.out ct_52_3
                  clear z_t_52
                  have b0t_52 : (0 : Int) ≤ (nt_52 : Int) := by omega
                  have b1t_52 : (nt_52 : Int) < ((t_bans.length : Nat) : Int) := by omega
                  have b2t_52 : ((nt_52 : Int)).toNat = nt_52 := by omega
                  have Hct_52_0 := Lib.hid ct_52_0
                  replace ct_52_0 := cell_regrown ct_52_0
                  have Hct_52_1 := Lib.hid ct_52_1
                  replace ct_52_1 := cell_regrown ct_52_1
                  have Hct_52_2 := Lib.hid ct_52_2
                  replace ct_52_2 := cell_regrown ct_52_2
                  have Hct_52_3 := Lib.hid ct_52_3
                  replace ct_52_3 := cell_regrown ct_52_3
                  replace H := bind_hid H
                  obtain ⟨t_55, qt_55, H⟩ := H
                  have nt_55 : ∀ d os, Calls Try.prog 57 #[.agg #[.int .i64 t_52_a, .int .i64 t_52_x, .int .i64 t_52_b, .int .i64 t_52_y], .agg #[.int .i64 t_34_a, .int .i64 t_34_x, .int .i64 t_34_b, .int .i64 t_34_y]] (Go.Sort.grow (redrawn w_b_36 d) os) fun e w'' => e = .returned (.int .i64 t_55) ∧ ∃ p : Regrown, w'' = Go.Sort.grow (redrawn w_b_36 p.d) p.os := fun d os => Calls.regrown_of (Go.Proofs.Ytekacbjnpeglhaa.GiCompareBans.C ((Go.Proofs.Ytekacbjnpeglhaa.PBan.Ban.mk t_52_a t_52_x t_52_b t_52_y)) ((Go.Proofs.Ytekacbjnpeglhaa.PBan.Ban.mk t_34_a t_34_x t_34_b t_34_y))  _    qt_55)
                  replace H := let_hid H
                  obtain ⟨t_56, ht_56, H⟩ := H
                  replace H := app_hid H
                  replace H := app_hid H
                  refine wp_region_quiet_below (by kernel_rfl) (by kernel_rfl) ?_
                  repeat (go_big_quiet_step (first | (go_at_call 56; exact nt_42 _ _) | (go_at_call 57; exact nt_55 _ _)))
                  refine wpQuiet_nil ?_
                  intro Y12 hY12
                  replace hY12 := below_class hY12
                  clear nt_42 nt_55
                  replace kt_0_0__132 := Hkt_0_0__132.out
                  clear Hkt_0_0__132
                  replace kt_0_1__133 := Hkt_0_1__133.out
                  clear Hkt_0_1__133
                  replace ct_34_0__134 := Hct_34_0__134.out
                  clear Hct_34_0__134
                  replace ct_34_1__135 := Hct_34_1__135.out
                  clear Hct_34_1__135
                  replace ct_34_2__136 := Hct_34_2__136.out
                  clear Hct_34_2__136
                  replace ct_34_3__137 := Hct_34_3__137.out
                  clear Hct_34_3__137
                  replace kb_36_0 := Hkb_36_0.out
                  clear Hkb_36_0
                  replace kb_36_1 := Hkb_36_1.out
                  clear Hkb_36_1
                  replace kb_36_2 := Hkb_36_2.out
                  clear Hkb_36_2
                  replace kb_36_3 := Hkb_36_3.out
                  clear Hkb_36_3
                  replace ct_52_0 := Hct_52_0.out
                  clear Hct_52_0
                  replace ct_52_1 := Hct_52_1.out
                  clear Hct_52_1
                  replace ct_52_2 := Hct_52_2.out
                  clear Hct_52_2
                  replace ct_52_3 := Hct_52_3.out
                  clear Hct_52_3
                  have HBY12 := Lib.hid (Below.step HBw_b_36.out hY12)
                  replace kt_0_0__132 := cell_below hY12 kt_0_0__132
                  replace kt_0_1__133 := cell_below hY12 kt_0_1__133
                  replace ct_34_0__134 := cell_below hY12 ct_34_0__134
                  replace ct_34_1__135 := cell_below hY12 ct_34_1__135
                  replace ct_34_2__136 := cell_below hY12 ct_34_2__136
                  replace ct_34_3__137 := cell_below hY12 ct_34_3__137
                  replace kb_36_0 := cell_below hY12 kb_36_0
                  replace kb_36_1 := cell_below hY12 kb_36_1
                  replace kb_36_2 := cell_below hY12 kb_36_2
                  replace kb_36_3 := cell_below hY12 kb_36_3
                  replace ct_52_0 := cell_below hY12 ct_52_0
                  replace ct_52_1 := cell_below hY12 ct_52_1
                  replace ct_52_2 := cell_below hY12 ct_52_2
                  replace ct_52_3 := cell_below hY12 ct_52_3
                  clear hY12
                  cases t_56 with
                  | false =>
                    replace H := ite_f H
                    replace H := app_hid H
                    go_wp2_with fail
                    go_roundg m1
                    case measure => omega
                    case rel => exact ⟨k1 + 1, by omega, by go_num, H, HBY12, kt_0_0__132, kt_0_1__133⟩
                  | true =>
                    replace H := ite_t H
                    obtain rfl := ret_hid H
                    go_wp2_with fail
                    go_ret
                    exact ⟨rfl, HBY12.out⟩
        | succ m0 =>
          have hlt0 : k0 < t_sizes.length := by omega
          have hc0 : decide ((k0 : Int) < ((t_sizes.length : Nat) : Int)) = true := by simp; omega
          replace H := cnt_succ H
          unfold l0 at H
          replace H := idx_hid H
          obtain ⟨nt_19, yt_19, et_19, lt_19, gt_19, H⟩ := H
          obtain rfl : k0 = nt_19 := by omega
          clear et_19
          obtain ⟨ab_t_19, ao_t_19, zt_19, At_19, z_t_19, ct_19_0⟩ := Go.Proofs.Ytekacbjnpeglhaa.HelpInt.Ints.at_ M0_0.out lt_19
          obtain rfl := Option.some.inj (gt_19.out.symm.trans z_t_19)
          subst At_19
          have ltt_19 := cell_lt ct_19_0
          replace ct_19_0 := cell_below HBwr0.out ct_19_0
          clear z_t_19
          have b0t_19 : (0 : Int) ≤ (k0 : Int) := by omega
          have b1t_19 : (k0 : Int) < ((t_sizes.length : Nat) : Int) := by omega
          have b2t_19 : ((k0 : Int)).toNat = k0 := by omega
          replace H := bind_hid H
          obtain ⟨t_23, qt_23, H⟩ := H
          go_wp2_with fail
          go_at_call 55
          refine (Go.Proofs.Ytekacbjnpeglhaa.GiWithin.C (yt_19) (1) (5)  _    qt_23).mono ?_
          rintro e_t_23 wt_23 ⟨rfl, bt_23⟩
          have HBwt_23 := Lib.hid (Below.step HBwr0.out bt_23)
          replace kt_0_0 := cell_below bt_23 kt_0_0
          replace kt_0_1 := cell_below bt_23 kt_0_1
          replace ct_19_0 := cell_below bt_23 ct_19_0
          clear bt_23
          cases t_23 with
          | false =>
            replace H := let_hid H
            obtain ⟨t_24, ht_24, H⟩ := H
            obtain rfl : t_24 = true := ht_24.symm
            replace H := ite_t H
            obtain rfl := ret_hid H
            go_wp2_with fail
            go_ret
            exact ⟨rfl, HBwt_23.out⟩
          | true =>
            replace H := let_hid H
            obtain ⟨t_24, ht_24, H⟩ := H
            obtain rfl : t_24 = false := ht_24.symm
            replace H := ite_f H
            replace H := app_hid H
            go_wp2_with fail
            go_roundg m0
            case measure => omega
            case rel => exact ⟨k0 + 1, by omega, by go_num, H, HBwt_23, kt_0_0, kt_0_1⟩
    | true =>
      have nht_11 : 20 < t_bans.length := by have := of_decide_eq_true ht_11; omega
      replace H := ite_t H
      obtain rfl := ret_hid H
      go_wp2_with fail
      go_ret
      exact ⟨rfl, HBwt_5.out⟩
end Go.Proofs.Ytekacbjnpeglhaa.GiIsKindTable

/- loop.example/g01062/impl.isKind as a plain function, and the contract of the program's: where the plain one has an answer, the program has it. Conditions: slices read as lists. -/
namespace Go.Proofs.Ytekacbjnpeglhaa.GiIsKind
set_option linter.unusedVariables false
set_option linter.unusedSimpArgs false
open Go.RowKit
open Go.Proofs.Ytekacbjnpeglhaa.Rowed Go.Proofs.Ytekacbjnpeglhaa.Turn Go.Proofs.Ytekacbjnpeglhaa.Aid Go.Proofs.Ytekacbjnpeglhaa.GoP Go.Proofs.Ytekacbjnpeglhaa.GoM

def l0 (t_sizes : (List Int)) (kind : (List Int)) (k0 : Nat) (s : Unit) (nx0 bk0 : Unit → Option (Bool)) : Option (Bool) :=
  
  Option.bind (idx kind (k0 : Int)) fun (yt_19 : Int) =>
  Option.bind (Go.Proofs.Ytekacbjnpeglhaa.GiHasValue.P t_sizes (k0 : Int) yt_19) fun (t_27 : Bool) =>
  letK (!t_27) fun (t_28 : Bool) =>
  iteK t_28
  (some false)
  (appK nx0 ())

def e0  (s : Unit) : Option (Bool) :=
  
  some true

def P (t_sizes : (List Int)) (t_bans : (List Go.Proofs.Ytekacbjnpeglhaa.PBan.Ban)) (kind : (List Int)) : Option (Bool) :=
  Option.bind (Go.Proofs.Ytekacbjnpeglhaa.GiIsKindTable.P t_sizes t_bans) fun (t_3 : Bool) =>
  letK (!t_3) fun (t_4 : Bool) =>
  joinK (fun (t_12 : Bool) =>
  iteK t_12
  (some false)
  (cntK (l0 t_sizes kind) (kind.length) 0 () (e0 ))) fun jt_12 => iteK t_4 (appK jt_12 true) (letK ((kind.length : Int) != (t_sizes.length : Int)) fun (t_11 : Bool) =>
  appK jt_12 t_11)

set_option maxRecDepth 100000 in
set_option maxHeartbeats 2000000 in
theorem C (t_sizes : (List Int)) (t_bans : (List Go.Proofs.Ytekacbjnpeglhaa.PBan.Ban)) (kind : (List Int)) (A0_0 : Option Addr) (c0_0 : Nat) (A0_1 : Option Addr) (c0_1 : Nat) (A1 : Option Addr) (c1 : Nat)  (w : World) (M0_0 : Hid (Cells w 1 A0_0 t_sizes.length (Go.Proofs.Ytekacbjnpeglhaa.HelpInt.iv t_sizes))) (N0_0 : Hid (t_sizes.length ≤ 9223372036854775807)) (M0_1 : Hid (Cells w 4 A0_1 t_bans.length (Go.Proofs.Ytekacbjnpeglhaa.PBan.flat t_bans))) (N0_1 : Hid (t_bans.length ≤ 9223372036854775807)) (M1 : Hid (Cells w 1 A1 kind.length (Go.Proofs.Ytekacbjnpeglhaa.HelpInt.iv kind))) (N1 : Hid (kind.length ≤ 9223372036854775807))  {r : Bool} (H : Hid (P t_sizes t_bans kind = some r)) :
    Calls Try.prog 61 #[.agg #[.slice A0_0 t_sizes.length c0_0, .slice A0_1 t_bans.length c0_1], .slice A1 kind.length c1] w (Gives (.bool r) w) := by
  have HB := Lib.hid (Below.refl w.heap.size w)
  unfold P at H
  have N0_0o := N0_0.out
  have N0_1o := N0_1.out
  have N1o := N1.out
  go_enter Try.func61, Try.ntmps61
  obtain ⟨w_t_0, hw_t_0⟩ : ∃ x, w.alloc (.cells #[.slice A0_0 t_sizes.length c0_0, .slice A0_1 t_bans.length c0_1] 30) = x := ⟨_, rfl⟩
  have bw_t_0 : Below w.heap.size w w_t_0 := by rw [← hw_t_0]; exact (Below.refl _ _).alloc (Nat.le_refl _) _
  have HBw_t_0 := Lib.hid (Below.step HB.out bw_t_0)
  clear bw_t_0
  have kt_0_0 : w_t_0.cell? ⟨w.heap.size, 0, none⟩ = some (.slice A0_0 t_sizes.length c0_0) := by rw [← hw_t_0]; exact box_new _ _ _ 0 _ rfl
  have kt_0_1 : w_t_0.cell? ⟨w.heap.size, 1, none⟩ = some (.slice A0_1 t_bans.length c0_1) := by rw [← hw_t_0]; exact box_new _ _ _ 1 _ rfl
  replace H := bind_hid H
  obtain ⟨t_3, qt_3, H⟩ := H
  go_wp2_with fail
  go_at_call 16
  refine (Go.Proofs.Ytekacbjnpeglhaa.GiIsKindTable.C (t_sizes) (t_bans) A0_0 c0_0 A0_1 c0_1 _   (Lib.hid (Cells.below M0_0.out HBw_t_0.out)) N0_0 (Lib.hid (Cells.below M0_1.out HBw_t_0.out)) N0_1 qt_3).mono ?_
  rintro e_t_3 wt_3 ⟨rfl, bt_3⟩
  have HBwt_3 := Lib.hid (Below.step HBw_t_0.out bt_3)
  replace kt_0_0 := cell_below bt_3 kt_0_0
  replace kt_0_1 := cell_below bt_3 kt_0_1
  clear bt_3
  cases t_3 with
  | false =>
    replace H := let_hid H
    obtain ⟨t_4, ht_4, H⟩ := H
    obtain rfl : t_4 = true := ht_4.symm
    replace H := join_hid H
    replace H := ite_t H
    replace H := app_hid H
    replace H := ite_t H
    obtain rfl := ret_hid H
    go_wp2_with fail
    go_ret
    exact ⟨rfl, HBwt_3.out⟩
  | true =>
    replace H := let_hid H
    obtain ⟨t_4, ht_4, H⟩ := H
    obtain rfl : t_4 = false := ht_4.symm
    replace H := join_hid H
    replace H := ite_f H
    replace H := let_hid H
    obtain ⟨t_11, ht_11, H⟩ := H
    replace H := app_hid H
    cases t_11 with
    | false =>
      have Hht_11 : Hid (kind.length = t_sizes.length) := Lib.hid (by have := bne_eq_false_iff_eq.1 ht_11; omega)
      have nht_11 : (kind.length == t_sizes.length) = true := beq_iff_eq.2 Hht_11.out
      replace H := ite_f H
      go_wp2_with fail
      go_loopg [20] (kind.length) (fun m_ v20_ wr => ∃ (k0 : Nat) , k0 + m_ = kind.length ∧ v20_ = .int .i64 (k0 : Int) ∧ Hid (cntK (l0 t_sizes kind) m_ k0 () (e0 ) = some r) ∧ Hid (Below w.heap.size w wr) ∧ wr.cell? ⟨w.heap.size, 0, none⟩ = some (.slice A0_0 t_sizes.length c0_0) ∧ wr.cell? ⟨w.heap.size, 1, none⟩ = some (.slice A0_1 t_bans.length c0_1))
      case atStart => exact ⟨0, by omega, rfl, H, HBwt_3, kt_0_0, kt_0_1⟩
      case round =>
        obtain ⟨k0, hkm0, rfl, H, HBwr0, kt_0_0, kt_0_1⟩ := hrel
        rename World => wr0
        cases gk with
        | zero =>
          obtain rfl : k0 = kind.length := by omega
          have hc0 : decide (((kind.length : Nat) : Int) < ((kind.length : Nat) : Int)) = false := by simp
          replace H := cnt_zero H
          unfold e0 at H
          obtain rfl := ret_hid H
          go_wp2_with fail
          go_ret
          exact ⟨rfl, HBwr0.out⟩
        | succ m0 =>
          have hlt0 : k0 < kind.length := by omega
          have hc0 : decide ((k0 : Int) < ((kind.length : Nat) : Int)) = true := by simp; omega
          replace H := cnt_succ H
          unfold l0 at H
          replace H := idx_hid H
          obtain ⟨nt_19, yt_19, et_19, lt_19, gt_19, H⟩ := H
          obtain rfl : k0 = nt_19 := by omega
          clear et_19
          obtain ⟨ab_t_19, ao_t_19, zt_19, At_19, z_t_19, ct_19_0⟩ := Go.Proofs.Ytekacbjnpeglhaa.HelpInt.Ints.at_ M1.out lt_19
          obtain rfl := Option.some.inj (gt_19.out.symm.trans z_t_19)
          subst At_19
          have ltt_19 := cell_lt ct_19_0
          replace ct_19_0 := cell_below HBwr0.out ct_19_0
          clear z_t_19
          have b0t_19 : (0 : Int) ≤ (k0 : Int) := by omega
          have b1t_19 : (k0 : Int) < ((kind.length : Nat) : Int) := by omega
          have b2t_19 : ((k0 : Int)).toNat = k0 := by omega
          replace H := bind_hid H
          obtain ⟨t_27, qt_27, H⟩ := H
          go_wp2_with fail
          go_at_call 73
          refine (Go.Proofs.Ytekacbjnpeglhaa.GiHasValue.C (t_sizes) ((k0 : Int)) (yt_19) A0_0 c0_0 _   (Lib.hid (Cells.below M0_0.out HBwr0.out)) N0_0 qt_27).mono ?_
          rintro e_t_27 wt_27 ⟨rfl, bt_27⟩
          have HBwt_27 := Lib.hid (Below.step HBwr0.out bt_27)
          replace kt_0_0 := cell_below bt_27 kt_0_0
          replace kt_0_1 := cell_below bt_27 kt_0_1
          replace ct_19_0 := cell_below bt_27 ct_19_0
          clear bt_27
          cases t_27 with
          | false =>
            replace H := let_hid H
            obtain ⟨t_28, ht_28, H⟩ := H
            obtain rfl : t_28 = true := ht_28.symm
            replace H := ite_t H
            obtain rfl := ret_hid H
            go_wp2_with fail
            go_ret
            exact ⟨rfl, HBwt_27.out⟩
          | true =>
            replace H := let_hid H
            obtain ⟨t_28, ht_28, H⟩ := H
            obtain rfl : t_28 = false := ht_28.symm
            replace H := ite_f H
            replace H := app_hid H
            go_wp2_with fail
            go_roundg m0
            case measure => omega
            case rel => exact ⟨k0 + 1, by omega, by go_num, H, HBwt_27, kt_0_0, kt_0_1⟩
    | true =>
      have nht_11 : ¬ (kind.length = t_sizes.length) := by have := bne_iff_ne.1 ht_11; omega
      replace H := ite_t H
      obtain rfl := ret_hid H
      go_wp2_with fail
      go_ret
      exact ⟨rfl, HBwt_3.out⟩
end Go.Proofs.Ytekacbjnpeglhaa.GiIsKind

/- More words for the contracts of plain functions: a test against nil, a row that is handed over, a row whose end is cleared. No condition. -/
namespace Go.Proofs.Ytekacbjnpeglhaa.GoK
set_option linter.unusedVariables false
open Go.RowKit
open Go.Proofs.Ytekacbjnpeglhaa.Rowed Go.Proofs.Ytekacbjnpeglhaa.Turn Go.Proofs.Ytekacbjnpeglhaa.GoM

/-- a test of a row against nil: only an empty row can be nil, and then both ways have one answer -/
def nilK {α ρ : Type} (l : List α) (f : Bool → Option ρ) : Option ρ := f false
theorem nilK_hid {α ρ : Type} {l : List α} {f : Bool → Option ρ} {r : ρ} (H : Hid (nilK l f = some r)) (b : Bool) (hb : b = true → l = []) (he : l = [] → f true = f false) : Hid (f b = some r) := by
  have h : f false = some r := H
  cases b with
  | false => exact h
  | true => exact (he (hb rfl)).trans h
theorem nil_cells {w : World} {K n : Nat} {A : Option Addr} {α : Type} {l : List α} {cs : List Value} (h : Cells w K A n cs) (hl : cs = [] → l = []) : A.isNone = true → l = [] := by
  intro hA
  refine hl ?_
  cases hc : cs with
  | nil => rfl
  | cons y ys => obtain ⟨a, e, _⟩ := h.2 (by rw [hc]; simp); rw [e] at hA; simp at hA
/-- where a row lies that a function hands on: where another one lay, or behind all that was there -/
def From (w : World) (A A' : Option Addr) : Prop := ∀ a', A' = some a' → (∃ a, A = some a ∧ a.block = a'.block) ∨ w.heap.size ≤ a'.block
theorem from_self {w : World} {A : Option Addr} : From w A A := fun a h => .inl ⟨a, h, rfl⟩
theorem from_new {w : World} {A : Option Addr} {g : Nat} (h : w.heap.size ≤ g) : From w A (some ⟨g, 0, none⟩) := by
  intro a' e
  injection e with e
  subst e
  exact .inr h
theorem apart_from {w : World} {A A' B : Option Addr} (hD : Apart A B) (hB : ∀ a, B = some a → a.block < w.heap.size) (h : From w A A') : Apart A' B := by
  intro a a' ha ha' e
  have hl := hB a' ha'
  rcases h a ha with ⟨a2, h2, e2⟩ | h2
  · exact hD a2 a' h2 ha' (e2.trans e)
  · omega
theorem own_emptyB {b : Nat} {wc : World} {T K : Nat} (h : b ≤ wc.heap.size) : (wc.alloc (.cells #[] T)).ownsRow b T K (.slice (some ⟨wc.heap.size, 0, none⟩) 0 0) 0 [] :=
  ⟨by simp, .inr ⟨wc.heap.size, 0, #[], rfl, h, heap_alloc_new wc _, Nat.le_refl _, by unfold maxLen; omega, by simp, by simp⟩⟩
theorem own_setCells {b T K n c g : Nat} : ∀ (vs : List Value) (o : Nat) {w : World} {xs : List Value}, w.ownsRow b T K (.slice (some ⟨g, 0, none⟩) n c) n xs → o + vs.length ≤ xs.length →
    (w.setCells g o vs).ownsRow b T K (.slice (some ⟨g, 0, none⟩) n c) n (xs.take o ++ vs ++ xs.drop (o + vs.length)) ∧ w.grownBy (w.setCells g o vs) (some g) := by
  intro vs
  induction vs with
  | nil => intro o w xs h _; exact ⟨by simpa [World.setCells] using h, Aid.grown_refl _ _⟩
  | cons v vs ih =>
    intro o w xs h hl
    simp only [List.length_cons] at hl
    have h1 := h.stored o v
    have h2 := ih (o + 1) h1.1 (by rw [List.length_set]; omega)
    refine ⟨?_, Aid.grown_tr h1.2 h2.2⟩
    have e : (xs.set o v).take (o + 1) ++ vs ++ (xs.set o v).drop (o + 1 + vs.length) = xs.take o ++ (v :: vs) ++ xs.drop (o + (v :: vs).length) := by
      have ho : o < xs.length := by omega
      rw [List.drop_set_of_lt (by omega), List.take_add_one, List.getElem?_set_self ho, List.take_set_of_le (Nat.le_refl _)]
      simp [Nat.add_comm, Nat.add_left_comm]
    rw [← e]
    exact h2.1
/-- clear(s[lo:]) of a row of its own -/
theorem own_clear {P : Program} {t e : TypeId} {i : TypeInfo} {k : IntKind} {n c b : Nat} {A : Option Addr} {lo : Int} {w : World} {xs ys : List Value} {z : Value}
    (ht : P.underlying t = some (.slice (P.elem t))) (he : P.elem t = e) (hi : P.info? e = some i) (hs : i.size = 1) (hv : i.zero = some z) (hz : z.cells = #[z]) (h1 : z.oneCell' = true)
    (h : w.ownsRow b e 1 (.slice A n c) n xs) (hl : 0 ≤ lo ∧ lo ≤ (n : Int)) (hd : xs.take lo.toNat ++ List.replicate (n - lo.toNat) z = ys) :
    ∃ A' m c' w', (∀ W, (Instr.slice t (.slice A n c) (some (.int k lo)) none none).run P W = .ok (.slice A' m c') W) ∧ (∀ ty, (Builtin.clear_ #[t] ty #[.slice A' m c']).run P w = .ok (.tuple #[]) w') ∧
      w'.ownsRow b e 1 (.slice A n c) n ys ∧ w.grownBy w' (Value.slice A n c).ownBlock := by
  have hR := own_room h
  have hxs : xs.length = n := by have := h.1; omega
  have hsz : ∀ W, (sizeOf (P.elem t)).run P W = .ok 1 W := by intro W; subst he; simp [sizeOf, typeInfo, hi, hs]
  have hrun : ∀ W, (Instr.slice t (.slice A n c) (some (.int k lo)) none none).run P W = .ok (.slice (if c = lo.toNat then A else A.map (·.add (lo.toNat * 1))) (n - lo.toNat) (c - lo.toNat)) W := by
    intro W
    rw [run_slice_l (P := P) W t A n c ht k lo hl.1 hl.2, hsz W]
    rfl
  by_cases hm : n - lo.toNat = 0
  · refine ⟨_, _, _, w, hrun, ?_, ?_, Aid.grown_refl _ _⟩
    · intro ty
      rw [hm]
      generalize (if c = lo.toNat then A else A.map (·.add (lo.toNat * 1))) = A'
      cases A' <;> simp [Builtin.clear_, run_underlying ht]
    · rw [← hd, hm, List.replicate_zero, List.append_nil, List.take_of_length_le (by omega)]
      exact h
  · obtain ⟨g, rfl⟩ := own_some h (by omega)
    have hne : ¬ c = lo.toNat := by have := hR.1; omega
    have hcl := own_cells h
    have hget : ∀ j, j < n → (w.cell? ⟨g, j, none⟩).isSome = true := by
      intro j hj
      obtain ⟨ad, e0, hc⟩ := hcl.2 (by omega)
      obtain rfl := Option.some.inj e0
      have := hc j xs[j] (List.getElem?_eq_getElem (by omega))
      rw [add_flat, Nat.zero_add] at this
      rw [this]; rfl
    have hadd : (if c = lo.toNat then (some ⟨g, 0, none⟩ : Option Addr) else (some ⟨g, 0, none⟩ : Option Addr).map (·.add (lo.toNat * 1))) = some ⟨g, lo.toNat, none⟩ := by
      rw [if_neg hne, Option.map_some, add_flat, Nat.zero_add, Nat.mul_one]
    rw [hadd] at hrun
    have h2 := own_setCells (List.replicate (n - lo.toNat) z) lo.toNat h (by rw [List.length_replicate]; omega)
    refine ⟨_, _, _, _, hrun, fun ty => ?_, ?_, h2.2⟩
    · refine Lib.run_clear_slice w t e ty z (he ▸ ht) (fun w => by simp [zeroValue, typeInfo, hi, hv]) hz h1 g lo.toNat (n - lo.toNat) (c - lo.toNat) (by omega) (fun j hj => hget _ (by omega)) (fun j hj => h.frozenAt _)
    · have e2 : xs.take lo.toNat ++ List.replicate (n - lo.toNat) z ++ xs.drop (lo.toNat + (List.replicate (n - lo.toNat) z).length) = ys := by
        rw [List.length_replicate, List.drop_of_length_le (by omega), List.append_nil, hd]
      rw [← e2]
      exact h2.1
theorem apart_xio {n bb oo : Nat} {B : Option Addr} (h : 0 < n → Apart (some ⟨bb, oo, none⟩) B) (h0 : 0 < n) : Apart B (some ⟨bb, 0, none⟩) := by
  intro a a' ha ha' e
  injection ha' with ha'
  subst ha'
  exact h h0 ⟨bb, oo, none⟩ a rfl ha e.symm
/-- a row that came in, where another one was written -/
theorem cells_wr {w w' : World} {K n q c' : Nat} {A B : Option Addr} {xs : List Value} (h : Cells w K A n xs) (hg : w.grownBy w' (Value.slice B q c').ownBlock) (hX : 0 < n → Apart A B) : Cells w' K A n xs := by
  refine ⟨h.1, fun h0 => ?_⟩
  obtain ⟨a, e, hc⟩ := h.2 h0
  have hn : 0 < n := by
    rcases Nat.eq_zero_or_pos n with h1 | h1
    · have := h.1; rw [h1, Nat.zero_mul] at this; omega
    · exact h1
  refine ⟨a, e, fun j u hu => ?_⟩
  have hj := hc j u hu
  have hb : (a.add j).block = a.block := by unfold Addr.add; split <;> rfl
  rw [World.cell?_of_block (hg.block (a.add j).block (cell_lt hj) ?_)]
  · exact hj
  · cases hB : B with
    | none => simp [Value.ownBlock]
    | some y =>
      simp only [Value.ownBlock, ne_eq, Option.some.injEq]
      intro e2
      exact hX hn a y e hB (by rw [← hb]; exact e2)
/-- what came in lies apart from a row of one's own -/
theorem far_base {w w1 : World} {K n T K' m c n' : Nat} {A B : Option Addr} {cs xs : List Value} (hK : 0 < K) (h : Cells w K A n cs) (hO : w1.ownsRow w.heap.size T K' (.slice B m c) n' xs) : 0 < n → Apart A B := by
  intro hn a a' ha ha' e
  have h0 : 0 < cs.length := by rw [h.1]; exact Nat.mul_pos hn hK
  obtain ⟨a2, e2, hc⟩ := h.2 h0
  obtain rfl : a = a2 := by rw [ha] at e2; exact Option.some.inj e2
  have hl := cell_lt (hc 0 _ (List.getElem?_eq_getElem h0))
  have hb : (a.add 0).block = a.block := by unfold Addr.add; simp
  have := (own_lt hO a' ha').1
  rw [hb] at hl
  omega
end Go.Proofs.Ytekacbjnpeglhaa.GoK

/- slices.Clone[[]int,int] as a plain function, and the contract of the program's: where the plain one has an answer, the program has it. Conditions: slices read as lists. -/
namespace Go.Proofs.Ytekacbjnpeglhaa.GxSlicesCloneIntInt
set_option linter.unusedVariables false
set_option linter.unusedSimpArgs false
open Go.RowKit
open Go.Proofs.Ytekacbjnpeglhaa.Rowed Go.Proofs.Ytekacbjnpeglhaa.Turn Go.Proofs.Ytekacbjnpeglhaa.Aid Go.Proofs.Ytekacbjnpeglhaa.GoP Go.Proofs.Ytekacbjnpeglhaa.GoM

def P (s_0 : (List Int)) : Option ((List Int)) :=
  Go.Proofs.Ytekacbjnpeglhaa.GoK.nilK s_0 fun (nt_2 : Bool) =>
  iteK nt_2
  (some [])
  (guardK (([] : List Int).length + s_0.length ≤ 1099511627776) <|
  letK (([] : List Int) ++ s_0) fun (t_6 : (List Int)) =>
  some t_6)

set_option maxRecDepth 100000 in
set_option maxHeartbeats 2000000 in
theorem C (s_0 : (List Int)) (A0 : Option Addr) (c0 : Nat)  (w : World) (M0 : Hid (Cells w 1 A0 s_0.length (Go.Proofs.Ytekacbjnpeglhaa.HelpInt.iv s_0))) (N0 : Hid (s_0.length ≤ 9223372036854775807)) (Q0 : Hid (Room A0 s_0.length c0))  {r : (List Int)} (H : Hid (P s_0 = some r)) :
    Calls Try.prog 80 #[.slice A0 s_0.length c0] w (fun e w' => ∃ A_r c_r, e = .returned (.slice A_r r.length c_r) ∧ w'.ownsRow w.heap.size 3 1 (.slice A_r r.length c_r) r.length (Go.Proofs.Ytekacbjnpeglhaa.HelpInt.iv r) ∧ Below w.heap.size w w') := by
  have HB := Lib.hid (Below.refl w.heap.size w)
  unfold P at H
  have N0o := N0.out
  obtain ⟨i0_3, hi_3, hz0_3, hz1_3, hz2_3⟩ := Aid.info_parts (P := Try.prog) (T := 3) (z := .int .i64 0) (s := 1) (b := 8) (by kernel_rfl)
  go_enter Try.func80, Try.ntmps80
  have mt_2 := Go.Proofs.Ytekacbjnpeglhaa.GoK.nil_cells (l := s_0) (Cells.below M0.out HB.out) (fun h_ => by cases s_0 with | nil => rfl | cons y_ ys_ => simp [Go.Proofs.Ytekacbjnpeglhaa.HelpInt.iv] at h_)
  obtain ⟨nt_2, ht_2⟩ : ∃ z_, (A0 : Option Addr).isNone = z_ := ⟨_, rfl⟩
  have rt_2 : ∀ W_, (binOp .eql 22 (.slice A0 s_0.length c0) (.slice none 0 0)).run Try.prog W_ = .ok (.bool nt_2) W_ := by intro W_; rw [← ht_2]; exact Lib.run_eql_slice_nil W_ _ _ _ _ _ _ _ Try.underlying22
  replace H := Go.Proofs.Ytekacbjnpeglhaa.GoK.nilK_hid H nt_2 (by rw [← ht_2]; exact mt_2) (by intro h_; subst h_; rfl)
  clear mt_2 ht_2
  cases nt_2 with
  | false =>
    replace H := ite_f H
    obtain ⟨w_t_4, hw_t_4⟩ : ∃ x, w.alloc (.cells #[] 3) = x := ⟨_, rfl⟩
    have bw_t_4 : Below w.heap.size w w_t_4 := by rw [← hw_t_4]; exact (Below.refl _ _).alloc (Nat.le_refl _) _
    have Ot_4 : Hid (w_t_4.ownsRow w.heap.size 3 1 (.slice (some ⟨w.heap.size, 0, none⟩) 0 0) 0 []) := Lib.hid (by rw [← hw_t_4]; exact own_empty HB.out.size)
    have HBw_t_4 := Lib.hid (Below.step HB.out bw_t_4)
    clear bw_t_4
    replace H := guard_hid H
    obtain ⟨hlt_6, H⟩ := H
    replace H := let_hid H
    obtain ⟨t_6, ht_6, H⟩ := H
    have hht_6 := Lib.hid ht_6
    clear ht_6
    have hst_6 := HBw_t_4.out.size
    have Ct_6 := Lib.hid ((Cells.below M0.out HBw_t_4.out))
    go_wp2_with (at_builtin; refine append_spread rfl _ _ 22 rfl w.heap.size 3 i0_3 (.int .i64 0) 1 8 Try.underlying22 hi_3 hz0_3 hz1_3 hz2_3 rfl (by decide) (some ⟨w.heap.size, 0, none⟩) 0 0 _ rfl Ot_4.out A0 s_0.length c0 (Go.Proofs.Ytekacbjnpeglhaa.HelpInt.iv s_0) rfl Q0.out Ct_6.out (fun u hu => by unfold Go.Proofs.Ytekacbjnpeglhaa.HelpInt.iv at hu; obtain ⟨y_, _, rfl⟩ := List.mem_map.1 hu; rfl) (by unfold maxLen; simp only [List.length_nil] at hlt_6; omega) (by simp only [List.length_nil] at hlt_6; omega) hst_6 ?_; intro vt_6 wt_6 ot_6 gt_6 yt_6; obtain ⟨At_6, ct_6, rfl, pt_6⟩ := own_pushS (f := Go.Proofs.Ytekacbjnpeglhaa.HelpInt.iv) hht_6.out (by simp [Go.Proofs.Ytekacbjnpeglhaa.HelpInt.iv]) rfl ot_6; have Pt_6 := Lib.hid pt_6; have Yt_6 := Lib.hid yt_6; have Gt_6 := Lib.hid gt_6; clear ot_6 gt_6 pt_6 yt_6; refine stop_in ?_)
    refine stop_out ?_
    clear Ct_6
    have HBwt_6 := Lib.hid (HBw_t_4.out.grown Gt_6.out hst_6 (fun q hq => (Ot_4.out.lt q hq).1))
    clear hst_6
    clear Ot_4 Yt_6 Gt_6
    obtain rfl := ret_hid H
    go_wp2_with fail
    go_ret
    exact ⟨At_6, ct_6, rfl, Pt_6.out, HBwt_6.out⟩
  | true =>
    replace H := ite_t H
    obtain rfl := ret_hid H
    go_wp2_with fail
    go_ret
    exact ⟨none, 0, rfl, own_nil, HB.out⟩
end Go.Proofs.Ytekacbjnpeglhaa.GxSlicesCloneIntInt

/- loop.example/g01062/impl.advance as a plain function, and the contract of the program's: where the plain one has an answer, the program has it. Conditions: slices read as lists. -/
namespace Go.Proofs.Ytekacbjnpeglhaa.GiAdvance
set_option linter.unusedVariables false
set_option linter.unusedSimpArgs false
open Go.RowKit
open Go.Proofs.Ytekacbjnpeglhaa.Rowed Go.Proofs.Ytekacbjnpeglhaa.Turn Go.Proofs.Ytekacbjnpeglhaa.Aid Go.Proofs.Ytekacbjnpeglhaa.GoP Go.Proofs.Ytekacbjnpeglhaa.GoM

def l0 (sizes : (List Int)) (s : (List Int) × Int) (nx0 bk0 : (List Int) × Int → Option (Bool × (List Int))) : Option (Bool × (List Int)) :=
  unp2 s fun kind_1l0 k_7l0 =>
  letK (decide (0 ≤ k_7l0)) fun (t_9 : Bool) =>
  iteK t_9
  (Option.bind (idx kind_1l0 k_7l0) fun (yt_12 : Int) =>
  letK (IntKind.i64.wrap (yt_12 + 1)) fun (t_14 : Int) =>
  Option.bind (idx kind_1l0 k_7l0) fun (yt_15 : Int) =>
  letK (kind_1l0.set (k_7l0).toNat t_14) fun (l16_16 : (List Int)) =>
  Option.bind (idx l16_16 k_7l0) fun (yt_19 : Int) =>
  Option.bind (idx sizes k_7l0) fun (yt_23 : Int) =>
  letK (decide (yt_19 < yt_23)) fun (t_25 : Bool) =>
  iteK t_25
  (some (true, l16_16))
  (Option.bind (idx l16_16 k_7l0) fun (yt_29 : Int) =>
  letK (l16_16.set (k_7l0).toNat 0) fun (l30_30 : (List Int)) =>
  letK (IntKind.i64.wrap (k_7l0 - 1)) fun (t_32 : Int) =>
  appK nx0 (l30_30, t_32)))
  (appK bk0 (kind_1l0, k_7l0))

def e0  (s : (List Int) × Int) : Option (Bool × (List Int)) :=
  unp2 s fun kind_1l0 k_7l0 =>
  some (false, kind_1l0)

def P (fuel : Nat) (sizes : (List Int)) (kind : (List Int)) (trait : Int) : Option (Bool × (List Int)) :=
  letK (IntKind.i64.wrap (trait + 1)) fun (t_3 : Int) =>
  guardK ((0 : Int) ≤ t_3 ∧ (t_3 : Int) ≤ (kind.length : Int)) <|
  letK (List.take (Int.toNat t_3) kind ++ List.replicate (kind.length - Int.toNat t_3) 0) fun (cl_5 : (List Int)) =>
  loopK (l0 sizes) fuel (cl_5, trait) (e0 )

set_option maxRecDepth 100000 in
set_option maxHeartbeats 2000000 in
theorem C (fuel : Nat) (sizes : (List Int)) (kind : (List Int)) (trait : Int) (A0 : Option Addr) (c0 : Nat) (A1 : Option Addr) (c1 : Nat)  (b0 : Nat) (w : World) (M0 : Hid (Cells w 1 A0 sizes.length (Go.Proofs.Ytekacbjnpeglhaa.HelpInt.iv sizes))) (N0 : Hid (sizes.length ≤ 9223372036854775807)) (M1 : Hid (w.ownsRow b0 3 1 (.slice A1 kind.length c1) kind.length (Go.Proofs.Ytekacbjnpeglhaa.HelpInt.iv kind))) (N1 : Hid (kind.length ≤ 9223372036854775807))  (X0 : Hid (0 < sizes.length → Apart A0 A1)) {r : Bool} {l_ : (List Int)} (H : Hid (P fuel sizes kind trait = some (r, l_))) :
    Calls Try.prog 97 #[.slice A0 sizes.length c0, .slice A1 kind.length c1, .int .i64 trait] w (fun e w' => e = .returned (.bool r) ∧ w'.ownsRow b0 3 1 (.slice A1 kind.length c1) kind.length (Go.Proofs.Ytekacbjnpeglhaa.HelpInt.iv l_) ∧ l_.length = kind.length ∧ w.grownBy w' (Value.slice A1 kind.length c1).ownBlock) := by
  have HB := Lib.hid (Aid.grown_refl w (Value.slice A1 kind.length c1).ownBlock)
  unfold P at H
  have N0o := N0.out
  have N1o := N1.out
  obtain ⟨i0_3, hi_3, hz0_3, hz1_3, hz2_3⟩ := Aid.info_parts (P := Try.prog) (T := 3) (z := .int .i64 0) (s := 1) (b := 8) (by kernel_rfl)
  go_enter Try.func97, Try.ntmps97
  replace H := let_hid H
  obtain ⟨t_3, ht_3, H⟩ := H
  replace H := guard_hid H
  obtain ⟨hl_cl_5, H⟩ := H
  replace H := let_hid H
  obtain ⟨cl_5, hcl_5, H⟩ := H
  have dcl_5 : ((Go.Proofs.Ytekacbjnpeglhaa.HelpInt.iv kind)).take (Int.toNat t_3) ++ List.replicate (kind.length - Int.toNat t_3) (.int .i64 0) = (Go.Proofs.Ytekacbjnpeglhaa.HelpInt.iv cl_5) := by rw [← hcl_5]; simp [Go.Proofs.Ytekacbjnpeglhaa.HelpInt.iv, List.map_take]
  have ncl_5 : Hid (cl_5.length = kind.length) := Lib.hid (by rw [← hcl_5, List.length_append, List.length_take, List.length_replicate]; omega)
  obtain ⟨Acl_5, mcl_5, ccl_5, wcl_5, rcl_5, ucl_5, ocl_5, gcl_5⟩ := Go.Proofs.Ytekacbjnpeglhaa.GoK.own_clear (P := Try.prog) (t := 22) (e := 3) (k := .i64) (by kernel_rfl) (by kernel_rfl) hi_3 hz1_3 hz0_3 (by rfl) (by rfl) M1.out hl_cl_5 dcl_5
  have Pcl_5 := Lib.hid ocl_5
  have Gcl_5 := Lib.hid gcl_5
  clear ocl_5 gcl_5 dcl_5 hl_cl_5
  have hhcl_5 := Lib.hid hcl_5
  clear hcl_5
  have HBwcl_5 := Lib.hid (Aid.grown_tr HB.out Gcl_5.out)
  clear M1 Gcl_5
  go_wp2_with fail
  clear rcl_5 ucl_5
  go_wp2_with fail
  go_loopg [7] (fuel) (fun m_ v7_ wr => ∃ (kind_1l0 : (List Int)) (k_7l0 : Int), v7_ = .int .i64 k_7l0 ∧ Hid (loopK (l0 sizes) m_ (kind_1l0, k_7l0) (e0 ) = some (r, l_)) ∧ Hid (w.grownBy wr (Value.slice A1 kind.length c1).ownBlock) ∧ Hid (wr.ownsRow b0 3 1 (.slice A1 kind.length c1) kind.length (Go.Proofs.Ytekacbjnpeglhaa.HelpInt.iv kind_1l0)) ∧ Hid (kind_1l0.length = kind.length))
  case atStart => exact ⟨_, _, rfl, H, HBwcl_5, Pcl_5, Lib.hid (ncl_5.out)⟩
  case round =>
    obtain ⟨kind_1l0, k_7l0, rfl, H, HBwr0, Okind_1l0, hnkind_1l0⟩ := hrel
    rename World => wr0
    cases gk with
    | zero => exact (loop_zero H).elim
    | succ m0 =>
      replace H := loop_succ H
      unfold l0 at H
      replace H := unp2_hid H
      replace H := let_hid H
      obtain ⟨t_9, ht_9, H⟩ := H
      cases t_9 with
      | false =>
        replace H := ite_f H
        replace H := app_hid H
        unfold e0 at H
        replace H := unp2_hid H
        cases ret_hid H
        go_wp2_with fail
        go_ret
        exact ⟨rfl, Okind_1l0.out, hnkind_1l0.out, HBwr0.out⟩
      | true =>
        replace H := ite_t H
        replace H := idx_hid H
        obtain ⟨nt_12, yt_12, et_12, lt_12, gt_12, H⟩ := H
        subst et_12
        have nc_138 : 0 ≤ nt_12 := by have := of_decide_eq_true ht_9; omega
        have hqt_12 := hnkind_1l0.out
        obtain ⟨qt_12, Qt_12⟩ := own_some Okind_1l0.out (by omega)
        subst Qt_12
        obtain ⟨ab_t_12, ao_t_12, zt_12, At_12, z_t_12, ct_12_0⟩ := Go.Proofs.Ytekacbjnpeglhaa.HelpInt.Ints.at_ (own_cells Okind_1l0.out) (k := nt_12) (by omega)
        obtain rfl := Option.some.inj (gt_12.out.symm.trans z_t_12)
        simp only [Option.some.injEq, Addr.mk.injEq] at At_12
        obtain ⟨rfl, rfl, _⟩ := At_12
        clear z_t_12
        simp only [Nat.zero_add] at ct_12_0
        have b0t_12 : (0 : Int) ≤ (nt_12 : Int) := by omega
        have b1t_12 : (nt_12 : Int) < ((kind.length : Nat) : Int) := by omega
        have b2t_12 : ((nt_12 : Int)).toNat = nt_12 := by omega
        clear hqt_12
        replace H := let_hid H
        obtain ⟨t_14, ht_14, H⟩ := H
        replace H := idx_hid H
        obtain ⟨nt_15, yt_15, et_15, lt_15, gt_15, H⟩ := H
        obtain rfl : nt_12 = nt_15 := by omega
        clear et_15
        obtain rfl := Option.some.inj (gt_12.out.symm.trans gt_15.out)
        clear gt_15 lt_15
        replace H := let_hid H
        obtain ⟨l16_16, hl16_16, H⟩ := H
        obtain ⟨wl16_16, hwl16_16⟩ : ∃ x, (wr0).setCell ⟨qt_12, nt_12, none⟩ (.int .i64 t_14) = x := ⟨_, rfl⟩
        have z0l16_16 := Okind_1l0.out.frozenAt (nt_12)
        have Sl16_16 := Lib.hid (own_stores [(nt_12, .int .i64 t_14)] Okind_1l0.out)
        have nl16_16 : Hid (l16_16.length = kind.length) := Lib.hid (by rw [← hl16_16, List.length_set]; exact hnkind_1l0.out)
        have Pl16_16 : Hid (wl16_16.ownsRow b0 3 1 (.slice (some ⟨qt_12, 0, none⟩) kind.length c1) kind.length (Go.Proofs.Ytekacbjnpeglhaa.HelpInt.iv l16_16)) := Lib.hid (by have e_ : ([(nt_12, .int .i64 t_14)] : List (Nat × Value)).foldl (fun xs p => xs.set p.1 p.2) (Go.Proofs.Ytekacbjnpeglhaa.HelpInt.iv kind_1l0) = (Go.Proofs.Ytekacbjnpeglhaa.HelpInt.iv l16_16) := (by rw [← hl16_16]; first | done | simp [Go.Proofs.Ytekacbjnpeglhaa.HelpInt.iv, List.map_set]); rw [← hwl16_16, ← e_]; exact Sl16_16.out.1)
        have Gl16_16 : Hid (wr0.grownBy wl16_16 (Value.slice (some ⟨qt_12, 0, none⟩) kind.length c1).ownBlock) := Lib.hid (by rw [← hwl16_16]; exact Sl16_16.out.2)
        have HBwl16_16 := Lib.hid (Aid.grown_tr HBwr0.out Gl16_16.out)
        have hhl16_16 := Lib.hid hl16_16
        clear hl16_16 Sl16_16
        clear Okind_1l0 Gl16_16
        go_wp2_with fail
        clear z0l16_16 ct_12_0
        replace H := idx_hid H
        obtain ⟨nt_19, yt_19, et_19, lt_19, gt_19, H⟩ := H
        obtain rfl : nt_12 = nt_19 := by omega
        clear et_19
        have hqt_19 := nl16_16.out
        obtain ⟨ab_t_19, ao_t_19, zt_19, At_19, z_t_19, ct_19_0⟩ := Go.Proofs.Ytekacbjnpeglhaa.HelpInt.Ints.at_ (own_cells Pl16_16.out) (k := nt_12) (by omega)
        obtain rfl := Option.some.inj (gt_19.out.symm.trans z_t_19)
        simp only [Option.some.injEq, Addr.mk.injEq] at At_19
        obtain ⟨rfl, rfl, _⟩ := At_19
        clear z_t_19
        simp only [Nat.zero_add] at ct_19_0
        have b0t_19 : (0 : Int) ≤ (nt_12 : Int) := by omega
        have b1t_19 : (nt_12 : Int) < ((kind.length : Nat) : Int) := by omega
        have b2t_19 : ((nt_12 : Int)).toNat = nt_12 := by omega
        clear hqt_19
        have Hct_19_0 := Lib.hid ct_19_0
        replace ct_19_0 := cell_regrown ct_19_0
        replace H := idx_hid H
        obtain ⟨nt_23, yt_23, et_23, lt_23, gt_23, H⟩ := H
        obtain rfl : nt_12 = nt_23 := by omega
        clear et_23
        obtain ⟨ab_t_23, ao_t_23, zt_23, At_23, z_t_23, ct_23_0⟩ := Go.Proofs.Ytekacbjnpeglhaa.HelpInt.Ints.at_ M0.out lt_23
        obtain rfl := Option.some.inj (gt_23.out.symm.trans z_t_23)
        subst At_23
        have ltt_23 := cell_lt ct_23_0
        replace ct_23_0 := cell_other ct_23_0 HBwl16_16.out (Go.Proofs.Ytekacbjnpeglhaa.GoK.apart_xio X0.out (by omega))
        clear z_t_23
        have b0t_23 : (0 : Int) ≤ (nt_12 : Int) := by omega
        have b1t_23 : (nt_12 : Int) < ((sizes.length : Nat) : Int) := by omega
        have b2t_23 : ((nt_12 : Int)).toNat = nt_12 := by omega
        have Hct_23_0 := Lib.hid ct_23_0
        replace ct_23_0 := cell_regrown ct_23_0
        replace H := let_hid H
        obtain ⟨t_25, ht_25, H⟩ := H
        refine wp_region_quiet_below (by kernel_rfl) (by kernel_rfl) ?_
        repeat (go_big_quiet_step (fail))
        refine wpQuiet_nil ?_
        intro Y6 hY6
        replace hY6 := below_class hY6
        replace ct_19_0 := Hct_19_0.out
        clear Hct_19_0
        replace ct_23_0 := Hct_23_0.out
        clear Hct_23_0
        have HBY6 := Lib.hid (grown_below HBwl16_16.out hY6)
        replace ct_19_0 := cell_below hY6 ct_19_0
        replace ct_23_0 := cell_below hY6 ct_23_0
        replace Pl16_16 := Lib.hid (own_below Pl16_16.out hY6)
        clear hY6
        cases t_25 with
        | false =>
          replace H := ite_f H
          replace H := idx_hid H
          obtain ⟨nt_29, yt_29, et_29, lt_29, gt_29, H⟩ := H
          obtain rfl : nt_12 = nt_29 := by omega
          clear et_29
          obtain rfl := Option.some.inj (gt_19.out.symm.trans gt_29.out)
          clear gt_29 lt_29
          replace H := let_hid H
          obtain ⟨l30_30, hl30_30, H⟩ := H
          obtain ⟨wl30_30, hwl30_30⟩ : ∃ x, (Y6).setCell ⟨qt_12, nt_12, none⟩ (.int .i64 0) = x := ⟨_, rfl⟩
          have z0l30_30 := Pl16_16.out.frozenAt (nt_12)
          have Sl30_30 := Lib.hid (own_stores [(nt_12, .int .i64 0)] Pl16_16.out)
          have nl30_30 : Hid (l30_30.length = kind.length) := Lib.hid (by rw [← hl30_30, List.length_set]; exact nl16_16.out)
          have Pl30_30 : Hid (wl30_30.ownsRow b0 3 1 (.slice (some ⟨qt_12, 0, none⟩) kind.length c1) kind.length (Go.Proofs.Ytekacbjnpeglhaa.HelpInt.iv l30_30)) := Lib.hid (by have e_ : ([(nt_12, .int .i64 0)] : List (Nat × Value)).foldl (fun xs p => xs.set p.1 p.2) (Go.Proofs.Ytekacbjnpeglhaa.HelpInt.iv l16_16) = (Go.Proofs.Ytekacbjnpeglhaa.HelpInt.iv l30_30) := (by rw [← hl30_30]; first | done | simp [Go.Proofs.Ytekacbjnpeglhaa.HelpInt.iv, List.map_set]); rw [← hwl30_30, ← e_]; exact Sl30_30.out.1)
          have Gl30_30 : Hid (Y6.grownBy wl30_30 (Value.slice (some ⟨qt_12, 0, none⟩) kind.length c1).ownBlock) := Lib.hid (by rw [← hwl30_30]; exact Sl30_30.out.2)
          have HBwl30_30 := Lib.hid (Aid.grown_tr HBY6.out Gl30_30.out)
          have hhl30_30 := Lib.hid hl30_30
          clear hl30_30 Sl30_30
          have ct_23_0__139 := cell_other ct_23_0 Gl30_30.out (Go.Proofs.Ytekacbjnpeglhaa.GoK.apart_xio X0.out (by have := lt_23; omega))
          clear Pl16_16 Gl30_30
          replace H := let_hid H
          obtain ⟨t_32, ht_32, H⟩ := H
          replace H := app_hid H
          go_wp2_with fail
          clear z0l30_30 ct_19_0 ct_23_0
          go_roundg m0
          case measure => omega
          case rel => exact ⟨_, _, rfl, H, HBwl30_30, Pl30_30, Lib.hid (nl30_30.out)⟩
        | true =>
          replace H := ite_t H
          cases ret_hid H
          go_wp2_with fail
          go_ret
          exact ⟨rfl, Pl16_16.out, nl16_16.out, HBY6.out⟩
end Go.Proofs.Ytekacbjnpeglhaa.GiAdvance

/- loop.example/g01062/impl.forbids as a plain function, and the contract of the program's: where the plain one has an answer, the program has it. Conditions: slices read as lists. -/
namespace Go.Proofs.Ytekacbjnpeglhaa.GiForbids
set_option linter.unusedVariables false
set_option linter.unusedSimpArgs false
open Go.RowKit
open Go.Proofs.Ytekacbjnpeglhaa.Rowed Go.Proofs.Ytekacbjnpeglhaa.Turn Go.Proofs.Ytekacbjnpeglhaa.Aid Go.Proofs.Ytekacbjnpeglhaa.GoP Go.Proofs.Ytekacbjnpeglhaa.GoM

def P (b : Go.Proofs.Ytekacbjnpeglhaa.PBan.Ban) (kind : (List Int)) : Option (Bool) :=
  unBan b fun (b_a : Int) (b_x : Int) (b_b : Int) (b_y : Int) =>
  Option.bind (idx kind b_a) fun (yt_5 : Int) =>
  letK (yt_5 == b_x) fun (t_9 : Bool) =>
  joinK (fun (t_19 : Bool) =>
  some t_19) fun jt_19 => iteK t_9 (Option.bind (idx kind b_b) fun (yt_14 : Int) =>
  letK (yt_14 == b_y) fun (t_18 : Bool) =>
  appK jt_19 t_18) (appK jt_19 false)

set_option maxRecDepth 100000 in
set_option maxHeartbeats 2000000 in
theorem C (b : Go.Proofs.Ytekacbjnpeglhaa.PBan.Ban) (kind : (List Int)) (A1 : Option Addr) (c1 : Nat)  (w : World) (M1 : Hid (Cells w 1 A1 kind.length (Go.Proofs.Ytekacbjnpeglhaa.HelpInt.iv kind))) (N1 : Hid (kind.length ≤ 9223372036854775807))  {r : Bool} (H : Hid (P b kind = some r)) :
    Calls Try.prog 64 #[b.val, .slice A1 kind.length c1] w (Gives (.bool r) w) := by
  have HB := Lib.hid (Below.refl w.heap.size w)
  unfold P at H
  obtain ⟨b_a, b_x, b_b, b_y⟩ := b
  replace H := unBan_hid H
  unfold Go.Proofs.Ytekacbjnpeglhaa.PBan.Ban.val
  have N1o := N1.out
  go_enter Try.func64, Try.ntmps64
  obtain ⟨w_b_0, hw_b_0⟩ : ∃ x, w.alloc (.cells #[.int .i64 b_a, .int .i64 b_x, .int .i64 b_b, .int .i64 b_y] 57) = x := ⟨_, rfl⟩
  have bw_b_0 : Below w.heap.size w w_b_0 := by rw [← hw_b_0]; exact (Below.refl _ _).alloc (Nat.le_refl _) _
  have HBw_b_0 := Lib.hid (Below.step HB.out bw_b_0)
  clear bw_b_0
  have kb_0_0 : w_b_0.cell? ⟨w.heap.size, 0, none⟩ = some (.int .i64 b_a) := by rw [← hw_b_0]; exact box_new _ _ _ 0 _ rfl
  have kb_0_1 : w_b_0.cell? ⟨w.heap.size, 1, none⟩ = some (.int .i64 b_x) := by rw [← hw_b_0]; exact box_new _ _ _ 1 _ rfl
  have kb_0_2 : w_b_0.cell? ⟨w.heap.size, 2, none⟩ = some (.int .i64 b_b) := by rw [← hw_b_0]; exact box_new _ _ _ 2 _ rfl
  have kb_0_3 : w_b_0.cell? ⟨w.heap.size, 3, none⟩ = some (.int .i64 b_y) := by rw [← hw_b_0]; exact box_new _ _ _ 3 _ rfl
  go_wp2_with fail
  have Hkb_0_0 := Lib.hid kb_0_0
  replace kb_0_0 := cell_regrown kb_0_0
  have Hkb_0_1 := Lib.hid kb_0_1
  replace kb_0_1 := cell_regrown kb_0_1
  have Hkb_0_2 := Lib.hid kb_0_2
  replace kb_0_2 := cell_regrown kb_0_2
  have Hkb_0_3 := Lib.hid kb_0_3
  replace kb_0_3 := cell_regrown kb_0_3
  replace H := idx_hid H
  obtain ⟨nt_5, yt_5, et_5, lt_5, gt_5, H⟩ := H
  subst et_5
  obtain ⟨ab_t_5, ao_t_5, zt_5, At_5, z_t_5, ct_5_0⟩ := Go.Proofs.Ytekacbjnpeglhaa.HelpInt.Ints.at_ M1.out lt_5
  obtain rfl := Option.some.inj (gt_5.out.symm.trans z_t_5)
  subst At_5
  have ltt_5 := cell_lt ct_5_0
  replace ct_5_0 := cell_below HBw_b_0.out ct_5_0
  clear z_t_5
  have b0t_5 : (0 : Int) ≤ (nt_5 : Int) := by omega
  have b1t_5 : (nt_5 : Int) < ((kind.length : Nat) : Int) := by omega
  have b2t_5 : ((nt_5 : Int)).toNat = nt_5 := by omega
  have Hct_5_0 := Lib.hid ct_5_0
  replace ct_5_0 := cell_regrown ct_5_0
  replace H := let_hid H
  obtain ⟨t_9, ht_9, H⟩ := H
  replace H := join_hid H
  cases t_9 with
  | false =>
    replace H := ite_f H
    replace H := app_hid H
    refine wp_region_quiet_below (by kernel_rfl) (by kernel_rfl) ?_
    repeat (go_big_quiet_step (fail))
    refine wpQuiet_nil ?_
    intro Y1 hY1
    replace hY1 := below_class hY1
    replace kb_0_0 := Hkb_0_0.out
    clear Hkb_0_0
    replace kb_0_1 := Hkb_0_1.out
    clear Hkb_0_1
    replace kb_0_2 := Hkb_0_2.out
    clear Hkb_0_2
    replace kb_0_3 := Hkb_0_3.out
    clear Hkb_0_3
    replace ct_5_0 := Hct_5_0.out
    clear Hct_5_0
    have HBY1 := Lib.hid (Below.step HBw_b_0.out hY1)
    replace kb_0_0 := cell_below hY1 kb_0_0
    replace kb_0_1 := cell_below hY1 kb_0_1
    replace kb_0_2 := cell_below hY1 kb_0_2
    replace kb_0_3 := cell_below hY1 kb_0_3
    replace ct_5_0 := cell_below hY1 ct_5_0
    clear hY1
    obtain rfl := ret_hid H
    go_wp2_with fail
    go_ret
    exact ⟨rfl, HBY1.out⟩
  | true =>
    replace H := ite_t H
    replace H := idx_hid H
    obtain ⟨nt_14, yt_14, et_14, lt_14, gt_14, H⟩ := H
    subst et_14
    obtain ⟨ab_t_14, ao_t_14, zt_14, At_14, z_t_14, ct_14_0⟩ := Go.Proofs.Ytekacbjnpeglhaa.HelpInt.Ints.at_ M1.out lt_14
    obtain rfl := Option.some.inj (gt_14.out.symm.trans z_t_14)
    simp only [Option.some.injEq, Addr.mk.injEq] at At_14
    obtain ⟨rfl, rfl, _⟩ := At_14
    have ltt_14 := cell_lt ct_14_0
    replace ct_14_0 := cell_below HBw_b_0.out ct_14_0
    clear z_t_14
    have b0t_14 : (0 : Int) ≤ (nt_14 : Int) := by omega
    have b1t_14 : (nt_14 : Int) < ((kind.length : Nat) : Int) := by omega
    have b2t_14 : ((nt_14 : Int)).toNat = nt_14 := by omega
    have Hct_14_0 := Lib.hid ct_14_0
    replace ct_14_0 := cell_regrown ct_14_0
    replace H := let_hid H
    obtain ⟨t_18, ht_18, H⟩ := H
    replace H := app_hid H
    refine wp_region_quiet_below (by kernel_rfl) (by kernel_rfl) ?_
    repeat (go_big_quiet_step (fail))
    refine wpQuiet_nil ?_
    intro Y1 hY1
    replace hY1 := below_class hY1
    replace kb_0_0 := Hkb_0_0.out
    clear Hkb_0_0
    replace kb_0_1 := Hkb_0_1.out
    clear Hkb_0_1
    replace kb_0_2 := Hkb_0_2.out
    clear Hkb_0_2
    replace kb_0_3 := Hkb_0_3.out
    clear Hkb_0_3
    replace ct_5_0 := Hct_5_0.out
    clear Hct_5_0
    replace ct_14_0 := Hct_14_0.out
    clear Hct_14_0
    have HBY1 := Lib.hid (Below.step HBw_b_0.out hY1)
    replace kb_0_0 := cell_below hY1 kb_0_0
    replace kb_0_1 := cell_below hY1 kb_0_1
    replace kb_0_2 := cell_below hY1 kb_0_2
    replace kb_0_3 := cell_below hY1 kb_0_3
    replace ct_5_0 := cell_below hY1 ct_5_0
    replace ct_14_0 := cell_below hY1 ct_14_0
    clear hY1
    obtain rfl := ret_hid H
    go_wp2_with fail
    go_ret
    exact ⟨rfl, HBY1.out⟩
end Go.Proofs.Ytekacbjnpeglhaa.GiForbids

/- loop.example/g01062/impl.firstFrom as a plain function, and the contract of the program's: where the plain one has an answer, the program has it. Conditions: slices read as lists. -/
namespace Go.Proofs.Ytekacbjnpeglhaa.GiFirstFrom
set_option linter.unusedVariables false
set_option linter.unusedSimpArgs false
open Go.RowKit
open Go.Proofs.Ytekacbjnpeglhaa.Rowed Go.Proofs.Ytekacbjnpeglhaa.Turn Go.Proofs.Ytekacbjnpeglhaa.Aid Go.Proofs.Ytekacbjnpeglhaa.GoP Go.Proofs.Ytekacbjnpeglhaa.GoM

def l1 (t_sizes : (List Int)) (t_bans : (List Go.Proofs.Ytekacbjnpeglhaa.PBan.Ban)) (fuel : Nat) (nx0 : ((List Int)) → Option ((List Int) × Bool)) (kind_1l0 : (List Int)) (k1 : Nat) (s : Unit) (nx1 bk1 : Unit → Option ((List Int) × Bool)) : Option ((List Int) × Bool) :=
  
  Option.bind (idx t_bans (k1 : Int)) fun (yt_8 : Go.Proofs.Ytekacbjnpeglhaa.PBan.Ban) =>
  unBan yt_8 fun (t_8_a : Int) (t_8_x : Int) (t_8_b : Int) (t_8_y : Int) =>
  Option.bind (Go.Proofs.Ytekacbjnpeglhaa.GiForbids.P (Go.Proofs.Ytekacbjnpeglhaa.PBan.Ban.mk t_8_a t_8_x t_8_b t_8_y) kind_1l0) fun (t_14 : Bool) =>
  letK (!t_14) fun (t_15 : Bool) =>
  iteK t_15
  (appK nx1 ())
  (bind2 (Go.Proofs.Ytekacbjnpeglhaa.GiAdvance.P fuel t_sizes kind_1l0 t_8_b) fun (t_21 : Bool) (lt_21 : (List Int)) =>
  letK (!t_21) fun (t_22 : Bool) =>
  iteK t_22
  (some (([] : List Int), false))
  (appK nx0 (lt_21)))

def e1 (kind_1l0 : (List Int)) (s : Unit) : Option ((List Int) × Bool) :=
  
  some (kind_1l0, true)

def l0 (t_sizes : (List Int)) (t_bans : (List Go.Proofs.Ytekacbjnpeglhaa.PBan.Ban)) (fuel : Nat) (s : (List Int)) (nx0 bk0 : (List Int) → Option ((List Int) × Bool)) : Option ((List Int) × Bool) :=
  letK s fun kind_1l0 =>
  cntK (l1 t_sizes t_bans fuel nx0 kind_1l0) (t_bans.length) 0 () (e1 kind_1l0)

def e0  (s : (List Int)) : Option ((List Int) × Bool) :=
  letK s fun kind_1l0 =>
  some ([], false)

def P (fuel : Nat) (t_sizes : (List Int)) (t_bans : (List Go.Proofs.Ytekacbjnpeglhaa.PBan.Ban)) (kind : (List Int)) : Option ((List Int) × Bool) :=
  loopK (l0 t_sizes t_bans fuel) fuel (kind) (e0 )

set_option maxRecDepth 100000 in
set_option maxHeartbeats 2000000 in
theorem C (fuel : Nat) (t_sizes : (List Int)) (t_bans : (List Go.Proofs.Ytekacbjnpeglhaa.PBan.Ban)) (kind : (List Int)) (A0_0 : Option Addr) (c0_0 : Nat) (A0_1 : Option Addr) (c0_1 : Nat) (A1 : Option Addr) (c1 : Nat)  (b0 : Nat) (w : World) (M0_0 : Hid (Cells w 1 A0_0 t_sizes.length (Go.Proofs.Ytekacbjnpeglhaa.HelpInt.iv t_sizes))) (N0_0 : Hid (t_sizes.length ≤ 9223372036854775807)) (M0_1 : Hid (Cells w 4 A0_1 t_bans.length (Go.Proofs.Ytekacbjnpeglhaa.PBan.flat t_bans))) (N0_1 : Hid (t_bans.length ≤ 9223372036854775807)) (M1 : Hid (w.ownsRow b0 3 1 (.slice A1 kind.length c1) kind.length (Go.Proofs.Ytekacbjnpeglhaa.HelpInt.iv kind))) (N1 : Hid (kind.length ≤ 9223372036854775807))  (LB : Hid (b0 ≤ w.heap.size)) (X0_0 : Hid (0 < t_sizes.length → Apart A0_0 A1)) (X0_1 : Hid (0 < t_bans.length → Apart A0_1 A1)) {r0 : (List Int)} {r1 : Bool} (H : Hid (P fuel t_sizes t_bans kind = some (r0, r1))) :
    Calls Try.prog 96 #[.agg #[.slice A0_0 t_sizes.length c0_0, .slice A0_1 t_bans.length c0_1], .slice A1 kind.length c1] w (fun e w' => ∃ A_r0 c_r0, e = .returned (.tuple #[.slice A_r0 r0.length c_r0, .bool r1]) ∧ w'.ownsRow b0 3 1 (.slice A_r0 r0.length c_r0) r0.length (Go.Proofs.Ytekacbjnpeglhaa.HelpInt.iv r0) ∧ w.grownBy w' (Value.slice A1 kind.length c1).ownBlock ∧ Go.Proofs.Ytekacbjnpeglhaa.GoK.From w A1 A_r0) := by
  have HB := Lib.hid (Aid.grown_refl w (Value.slice A1 kind.length c1).ownBlock)
  unfold P at H
  have N0_0o := N0_0.out
  have N0_1o := N0_1.out
  have N1o := N1.out
  go_enter Try.func96, Try.ntmps96
  obtain ⟨w_t_0, hw_t_0⟩ : ∃ x, w.alloc (.cells #[.slice A0_0 t_sizes.length c0_0, .slice A0_1 t_bans.length c0_1] 30) = x := ⟨_, rfl⟩
  have bw_t_0 : Below w.heap.size w w_t_0 := by rw [← hw_t_0]; exact (Below.refl _ _).alloc (Nat.le_refl _) _
  have Dt_0_io1 := Lib.hid (apart_fresh M1.out)
  have HBw_t_0 := Lib.hid (grown_below HB.out bw_t_0)
  replace M1 := Lib.hid (own_below M1.out bw_t_0)
  clear bw_t_0
  have kt_0_0 : w_t_0.cell? ⟨w.heap.size, 0, none⟩ = some (.slice A0_0 t_sizes.length c0_0) := by rw [← hw_t_0]; exact box_new _ _ _ 0 _ rfl
  have kt_0_1 : w_t_0.cell? ⟨w.heap.size, 1, none⟩ = some (.slice A0_1 t_bans.length c0_1) := by rw [← hw_t_0]; exact box_new _ _ _ 1 _ rfl
  go_wp2_with fail
  first | refine wp_scope_straight (wp_seq (wp_label ?_)) | refine wp_seq (wp_label ?_)
  try simp only [Exit.then]
  go_wp2_with fail
  go_wp2_with fail
  go_loopg [] (fuel) (fun m_  wr => ∃ (kind_1l0 : (List Int)), Hid (loopK (l0 t_sizes t_bans fuel) m_ (kind_1l0) (e0 ) = some (r0, r1)) ∧ Hid (w.grownBy wr (Value.slice A1 kind.length c1).ownBlock) ∧ wr.cell? ⟨w.heap.size, 0, none⟩ = some (.slice A0_0 t_sizes.length c0_0) ∧ wr.cell? ⟨w.heap.size, 1, none⟩ = some (.slice A0_1 t_bans.length c0_1) ∧ Hid (wr.ownsRow b0 3 1 (.slice A1 kind.length c1) kind.length (Go.Proofs.Ytekacbjnpeglhaa.HelpInt.iv kind_1l0)) ∧ Hid (kind_1l0.length = kind.length) ∧ Hid (Apart A1 (some ⟨w.heap.size, 0, none⟩)))
  case atStart => exact ⟨_, H, HBw_t_0, kt_0_0, kt_0_1, M1, Lib.hid (rfl), Lib.hid (Apart.symm Dt_0_io1.out)⟩
  case round =>
    obtain ⟨kind_1l0, H, HBwr0, kt_0_0, kt_0_1, Okind_1l0, hnkind_1l0, Dkind_1l0_t_0⟩ := hrel
    rename World => wr0
    cases gk with
    | zero => exact (loop_zero H).elim
    | succ m0 =>
      replace H := loop_succ H
      unfold l0 at H
      replace H := let_hid H
      obtain ⟨_, rfl, H⟩ := H
      go_wp2_with fail
      go_loopg [11] (t_bans.length) (fun m_ v11_ wr => ∃ (k1 : Nat) , k1 + m_ = t_bans.length ∧ v11_ = .int .i64 (k1 : Int) ∧ Hid (cntK (l1 t_sizes t_bans fuel (fun s' => loopK (l0 t_sizes t_bans fuel) m0 s' (e0 )) kind_1l0) m_ k1 () (e1 kind_1l0) = some (r0, r1)) ∧ Hid (w.grownBy wr (Value.slice A1 kind.length c1).ownBlock) ∧ wr.cell? ⟨w.heap.size, 0, none⟩ = some (.slice A0_0 t_sizes.length c0_0) ∧ wr.cell? ⟨w.heap.size, 1, none⟩ = some (.slice A0_1 t_bans.length c0_1) ∧ Hid (wr.ownsRow b0 3 1 (.slice A1 kind.length c1) kind.length (Go.Proofs.Ytekacbjnpeglhaa.HelpInt.iv kind_1l0)))
      case atStart => exact ⟨0, by omega, rfl, H, HBwr0, kt_0_0, kt_0_1, Okind_1l0⟩
      case round =>
        obtain ⟨k1, hkm1, rfl, H, HBwr1, kt_0_0, kt_0_1, Okind_1l0⟩ := hrel
        rename World => wr1
        cases gk with
        | zero =>
          obtain rfl : k1 = t_bans.length := by omega
          have hc1 : decide (((t_bans.length : Nat) : Int) < ((t_bans.length : Nat) : Int)) = false := by simp
          replace H := cnt_zero H
          unfold e1 at H
          cases ret_hid H
          go_wp2_with fail
          try simp only [Exit.noGoto]
          go_wp2_with fail
          go_ret2
          have hr_0 := hnkind_1l0.out
          replace Okind_1l0 := Lib.hid (own_len hr_0 Okind_1l0.out)
          exact ⟨A1, c1, (by first | (rw [hr_0]; done) | (rw [hr_0]; rfl)), Okind_1l0.out, HBwr1.out, Go.Proofs.Ytekacbjnpeglhaa.GoK.from_self⟩
        | succ m1 =>
          have hlt1 : k1 < t_bans.length := by omega
          have hc1 : decide ((k1 : Int) < ((t_bans.length : Nat) : Int)) = true := by simp; omega
          replace H := cnt_succ H
          unfold l1 at H
          replace H := idx_hid H
          obtain ⟨nt_8, yt_8, et_8, lt_8, gt_8, H⟩ := H
          obtain rfl : k1 = nt_8 := by omega
          clear et_8
          obtain ⟨t_8_a, t_8_x, t_8_b, t_8_y⟩ := yt_8
          replace H := unBan_hid H
          obtain ⟨ab_t_8, ao_t_8, zt_8, At_8, z_t_8, ct_8_0, ct_8_1, ct_8_2, ct_8_3⟩ := Go.Proofs.Ytekacbjnpeglhaa.OBan.at_ M0_1.out lt_8
          obtain rfl := Option.some.inj (gt_8.out.symm.trans z_t_8)
          subst At_8
          have ltt_8 := cell_lt ct_8_0
          replace ct_8_0 := cell_other ct_8_0 HBwr1.out (Go.Proofs.Ytekacbjnpeglhaa.GoK.apart_xio X0_1.out (by omega))
          replace ct_8_1 := cell_other ct_8_1 HBwr1.out (Go.Proofs.Ytekacbjnpeglhaa.GoK.apart_xio X0_1.out (by omega))
          replace ct_8_2 := cell_other ct_8_2 HBwr1.out (Go.Proofs.Ytekacbjnpeglhaa.GoK.apart_xio X0_1.out (by omega))
          replace ct_8_3 := cell_other ct_8_3 HBwr1.out (Go.Proofs.Ytekacbjnpeglhaa.GoK.apart_xio X0_1.out (by omega))
          clear z_t_8
          have b0t_8 : (0 : Int) ≤ (k1 : Int) := by omega
          have b1t_8 : (k1 : Int) < ((t_bans.length : Nat) : Int) := by omega
          have b2t_8 : ((k1 : Int)).toNat = k1 := by omega
          obtain ⟨w_b_10, hw_b_10⟩ : ∃ x, wr1.alloc (.cells #[.int .i64 t_8_a, .int .i64 t_8_x, .int .i64 t_8_b, .int .i64 t_8_y] 57) = x := ⟨_, rfl⟩
          have bw_b_10 : Below wr1.heap.size wr1 w_b_10 := by rw [← hw_b_10]; exact (Below.refl _ _).alloc (Nat.le_refl _) _
          have Db_10_kind_1l0 := Lib.hid (apart_fresh Okind_1l0.out)
          have HBw_b_10 := Lib.hid (grown_below HBwr1.out bw_b_10)
          have kt_0_0__140 := cell_below bw_b_10 kt_0_0
          have kt_0_1__141 := cell_below bw_b_10 kt_0_1
          have ct_8_0__142 := cell_below bw_b_10 ct_8_0
          have ct_8_1__143 := cell_below bw_b_10 ct_8_1
          have ct_8_2__144 := cell_below bw_b_10 ct_8_2
          have ct_8_3__145 := cell_below bw_b_10 ct_8_3
          replace Okind_1l0 := Lib.hid (own_below Okind_1l0.out bw_b_10)
          clear bw_b_10
          have kb_10_0 : w_b_10.cell? ⟨wr1.heap.size, 0, none⟩ = some (.int .i64 t_8_a) := by rw [← hw_b_10]; exact box_new _ _ _ 0 _ rfl
          have kb_10_1 : w_b_10.cell? ⟨wr1.heap.size, 1, none⟩ = some (.int .i64 t_8_x) := by rw [← hw_b_10]; exact box_new _ _ _ 1 _ rfl
          have kb_10_2 : w_b_10.cell? ⟨wr1.heap.size, 2, none⟩ = some (.int .i64 t_8_b) := by rw [← hw_b_10]; exact box_new _ _ _ 2 _ rfl
          have kb_10_3 : w_b_10.cell? ⟨wr1.heap.size, 3, none⟩ = some (.int .i64 t_8_y) := by rw [← hw_b_10]; exact box_new _ _ _ 3 _ rfl
          replace H := bind_hid H
          obtain ⟨t_14, qt_14, H⟩ := H
          go_wp2_with fail
          clear kt_0_0 kt_0_1 ct_8_0 ct_8_1 ct_8_2 ct_8_3
          have hc0_ := hnkind_1l0.out
          have Oct_14_1 := Lib.hid (own_len hc0_ Okind_1l0.out)
          have con_ := Go.Proofs.Ytekacbjnpeglhaa.GiForbids.C ((Go.Proofs.Ytekacbjnpeglhaa.PBan.Ban.mk t_8_a t_8_x t_8_b t_8_y)) (kind_1l0) A1 c1 _   (Lib.hid (own_cells Oct_14_1.out)) (Lib.hid (own_max Oct_14_1.out)) qt_14
          rw [hc0_] at con_
          clear hc0_ Oct_14_1
          go_at_call 64
          refine con_.mono ?_
          rintro e_t_14 wt_14 ⟨rfl, bt_14⟩
          have HBwt_14 := Lib.hid (grown_below HBw_b_10.out bt_14)
          replace kt_0_0__140 := cell_below bt_14 kt_0_0__140
          replace kt_0_1__141 := cell_below bt_14 kt_0_1__141
          replace ct_8_0__142 := cell_below bt_14 ct_8_0__142
          replace ct_8_1__143 := cell_below bt_14 ct_8_1__143
          replace ct_8_2__144 := cell_below bt_14 ct_8_2__144
          replace ct_8_3__145 := cell_below bt_14 ct_8_3__145
          replace kb_10_0 := cell_below bt_14 kb_10_0
          replace kb_10_1 := cell_below bt_14 kb_10_1
          replace kb_10_2 := cell_below bt_14 kb_10_2
          replace kb_10_3 := cell_below bt_14 kb_10_3
          replace Okind_1l0 := Lib.hid (own_below Okind_1l0.out bt_14)
          clear bt_14
          cases t_14 with
          | false =>
            replace H := let_hid H
            obtain ⟨t_15, ht_15, H⟩ := H
            obtain rfl : t_15 = true := ht_15.symm
            replace H := ite_t H
            replace H := app_hid H
            go_wp2_with fail
            go_roundg m1
            case measure => omega
            case rel => exact ⟨k1 + 1, by omega, by go_num, H, HBwt_14, kt_0_0__140, kt_0_1__141, Okind_1l0⟩
          | true =>
            replace H := let_hid H
            obtain ⟨t_15, ht_15, H⟩ := H
            obtain rfl : t_15 = false := ht_15.symm
            replace H := ite_f H
            replace H := bind2_hid H
            obtain ⟨t_21, lt_21, qt_21, H⟩ := H
            go_wp2_with fail
            have hc0_ := hnkind_1l0.out
            have Oct_21_1 := Lib.hid (own_len hc0_ Okind_1l0.out)
            have con_ := Go.Proofs.Ytekacbjnpeglhaa.GiAdvance.C fuel (t_sizes) (kind_1l0) (t_8_b) A0_0 c0_0 A1 c1 b0 _   (Lib.hid (Go.Proofs.Ytekacbjnpeglhaa.GoK.cells_wr M0_0.out HBwt_14.out X0_0.out)) N0_0 Oct_21_1 (Lib.hid (own_max Oct_21_1.out))  X0_0 qt_21
            rw [hc0_] at con_
            clear hc0_ Oct_21_1
            go_at_call 97
            refine con_.mono ?_
            rintro e_t_21 wt_21 ⟨rfl, ot_21, nt_21, gt_21⟩
            have Pt_21 := Lib.hid ot_21
            have Gt_21 := Lib.hid gt_21
            replace nt_21 := Lib.hid nt_21
            clear ot_21 gt_21
            have HBwt_21 := Lib.hid (Aid.grown_tr HBwt_14.out Gt_21.out)
            replace kt_0_0__140 := cell_other kt_0_0__140 Gt_21.out Dkind_1l0_t_0.out
            replace kt_0_1__141 := cell_other kt_0_1__141 Gt_21.out Dkind_1l0_t_0.out
            replace ct_8_0__142 := cell_other ct_8_0__142 Gt_21.out (Go.Proofs.Ytekacbjnpeglhaa.GoK.apart_xio X0_1.out (by have := lt_8; omega))
            replace ct_8_1__143 := cell_other ct_8_1__143 Gt_21.out (Go.Proofs.Ytekacbjnpeglhaa.GoK.apart_xio X0_1.out (by have := lt_8; omega))
            replace ct_8_2__144 := cell_other ct_8_2__144 Gt_21.out (Go.Proofs.Ytekacbjnpeglhaa.GoK.apart_xio X0_1.out (by have := lt_8; omega))
            replace ct_8_3__145 := cell_other ct_8_3__145 Gt_21.out (Go.Proofs.Ytekacbjnpeglhaa.GoK.apart_xio X0_1.out (by have := lt_8; omega))
            replace kb_10_0 := cell_other kb_10_0 Gt_21.out (Apart.symm Db_10_kind_1l0.out)
            replace kb_10_1 := cell_other kb_10_1 Gt_21.out (Apart.symm Db_10_kind_1l0.out)
            replace kb_10_2 := cell_other kb_10_2 Gt_21.out (Apart.symm Db_10_kind_1l0.out)
            replace kb_10_3 := cell_other kb_10_3 Gt_21.out (Apart.symm Db_10_kind_1l0.out)
            clear Okind_1l0 Gt_21
            cases t_21 with
            | false =>
              replace H := let_hid H
              obtain ⟨t_22, ht_22, H⟩ := H
              obtain rfl : t_22 = true := ht_22.symm
              replace H := ite_t H
              obtain ⟨w_t_23, hw_t_23⟩ : ∃ x, wt_21.alloc (.cells #[] 3) = x := ⟨_, rfl⟩
              have bw_t_23 : Below wt_21.heap.size wt_21 w_t_23 := by rw [← hw_t_23]; exact (Below.refl _ _).alloc (Nat.le_refl _) _
              have lot_23 : Hid (w.heap.size ≤ wt_21.heap.size) := Lib.hid HBwt_21.out.size
              have Ot_23 : Hid (w_t_23.ownsRow b0 3 1 (.slice (some ⟨wt_21.heap.size, 0, none⟩) 0 0) 0 []) := Lib.hid (by rw [← hw_t_23]; exact Go.Proofs.Ytekacbjnpeglhaa.GoK.own_emptyB (Nat.le_trans LB.out lot_23.out))
              have Dt_23_kind_1l0 := Lib.hid (apart_fresh Pt_21.out)
              have Dt_23_t_0 := Lib.hid (apart_box kt_0_0__140)
              have Dt_23_b_10 := Lib.hid (apart_box kb_10_0)
              have HBw_t_23 := Lib.hid (grown_below HBwt_21.out bw_t_23)
              have kt_0_0__146 := cell_below bw_t_23 kt_0_0__140
              have kt_0_1__147 := cell_below bw_t_23 kt_0_1__141
              have ct_8_0__148 := cell_below bw_t_23 ct_8_0__142
              have ct_8_1__149 := cell_below bw_t_23 ct_8_1__143
              have ct_8_2__150 := cell_below bw_t_23 ct_8_2__144
              have ct_8_3__151 := cell_below bw_t_23 ct_8_3__145
              have kb_10_0__152 := cell_below bw_t_23 kb_10_0
              have kb_10_1__153 := cell_below bw_t_23 kb_10_1
              have kb_10_2__154 := cell_below bw_t_23 kb_10_2
              have kb_10_3__155 := cell_below bw_t_23 kb_10_3
              replace Pt_21 := Lib.hid (own_below Pt_21.out bw_t_23)
              clear bw_t_23
              cases ret_hid H
              go_wp2_with fail
              try simp only [Exit.noGoto]
              go_wp2_with fail
              go_ret2
              exact ⟨(some ⟨wt_21.heap.size, 0, none⟩), 0, rfl, Ot_23.out, HBw_t_23.out, (Go.Proofs.Ytekacbjnpeglhaa.GoK.from_new lot_23.out)⟩
            | true =>
              replace H := let_hid H
              obtain ⟨t_22, ht_22, H⟩ := H
              obtain rfl : t_22 = false := ht_22.symm
              replace H := ite_f H
              replace H := app_hid H
              go_wp2_with fail
              go_roundg m0
              case measure => omega
              case rel => exact ⟨_, H, HBwt_21, kt_0_0__140, kt_0_1__141, Pt_21, Lib.hid (nt_21.out), Lib.hid Dkind_1l0_t_0.out⟩
end Go.Proofs.Ytekacbjnpeglhaa.GiFirstFrom

/- loop.example/g01062/impl.firstBehind as a plain function, and the contract of the program's: where the plain one has an answer, the program has it. Conditions: slices read as lists. -/
namespace Go.Proofs.Ytekacbjnpeglhaa.GiFirstBehind
set_option linter.unusedVariables false
set_option linter.unusedSimpArgs false
open Go.RowKit
open Go.Proofs.Ytekacbjnpeglhaa.Rowed Go.Proofs.Ytekacbjnpeglhaa.Turn Go.Proofs.Ytekacbjnpeglhaa.Aid Go.Proofs.Ytekacbjnpeglhaa.GoP Go.Proofs.Ytekacbjnpeglhaa.GoM

def P (fuel : Nat) (t_sizes : (List Int)) (t_bans : (List Go.Proofs.Ytekacbjnpeglhaa.PBan.Ban)) (kind : (List Int)) : Option ((List Int) × Bool) :=
  Option.bind (Go.Proofs.Ytekacbjnpeglhaa.GxSlicesCloneIntInt.P kind) fun (t_4 : (List Int)) =>
  letK (IntKind.i64.wrap ((t_4.length : Int) - 1)) fun (t_11 : Int) =>
  bind2 (Go.Proofs.Ytekacbjnpeglhaa.GiAdvance.P fuel t_sizes t_4 t_11) fun (t_12 : Bool) (lt_12 : (List Int)) =>
  letK (!t_12) fun (t_13 : Bool) =>
  iteK t_13
  (some (([] : List Int), false))
  (bind2 (Go.Proofs.Ytekacbjnpeglhaa.GiFirstFrom.P fuel t_sizes t_bans lt_12) fun (t_19a : (List Int)) (t_19b : Bool) =>
  some (t_19a, t_19b))

set_option maxRecDepth 100000 in
set_option maxHeartbeats 2000000 in
theorem C (fuel : Nat) (t_sizes : (List Int)) (t_bans : (List Go.Proofs.Ytekacbjnpeglhaa.PBan.Ban)) (kind : (List Int)) (A0_0 : Option Addr) (c0_0 : Nat) (A0_1 : Option Addr) (c0_1 : Nat) (A1 : Option Addr) (c1 : Nat)  (w : World) (M0_0 : Hid (Cells w 1 A0_0 t_sizes.length (Go.Proofs.Ytekacbjnpeglhaa.HelpInt.iv t_sizes))) (N0_0 : Hid (t_sizes.length ≤ 9223372036854775807)) (Q0_0 : Hid (Room A0_0 t_sizes.length c0_0)) (M0_1 : Hid (Cells w 4 A0_1 t_bans.length (Go.Proofs.Ytekacbjnpeglhaa.PBan.flat t_bans))) (N0_1 : Hid (t_bans.length ≤ 9223372036854775807)) (Q0_1 : Hid (Room A0_1 t_bans.length c0_1)) (M1 : Hid (Cells w 1 A1 kind.length (Go.Proofs.Ytekacbjnpeglhaa.HelpInt.iv kind))) (N1 : Hid (kind.length ≤ 9223372036854775807)) (Q1 : Hid (Room A1 kind.length c1))  {r0 : (List Int)} {r1 : Bool} (H : Hid (P fuel t_sizes t_bans kind = some (r0, r1))) :
    Calls Try.prog 71 #[.agg #[.slice A0_0 t_sizes.length c0_0, .slice A0_1 t_bans.length c0_1], .slice A1 kind.length c1] w (fun e w' => ∃ A_r0 c_r0, e = .returned (.tuple #[.slice A_r0 r0.length c_r0, .bool r1]) ∧ w'.ownsRow w.heap.size 3 1 (.slice A_r0 r0.length c_r0) r0.length (Go.Proofs.Ytekacbjnpeglhaa.HelpInt.iv r0) ∧ Below w.heap.size w w') := by
  have HB := Lib.hid (Below.refl w.heap.size w)
  unfold P at H
  have N0_0o := N0_0.out
  have N0_1o := N0_1.out
  have N1o := N1.out
  go_enter Try.func71, Try.ntmps71
  obtain ⟨w_t_0, hw_t_0⟩ : ∃ x, w.alloc (.cells #[.slice A0_0 t_sizes.length c0_0, .slice A0_1 t_bans.length c0_1] 30) = x := ⟨_, rfl⟩
  have bw_t_0 : Below w.heap.size w w_t_0 := by rw [← hw_t_0]; exact (Below.refl _ _).alloc (Nat.le_refl _) _
  have HBw_t_0 := Lib.hid (Below.step HB.out bw_t_0)
  clear bw_t_0
  have kt_0_0 : w_t_0.cell? ⟨w.heap.size, 0, none⟩ = some (.slice A0_0 t_sizes.length c0_0) := by rw [← hw_t_0]; exact box_new _ _ _ 0 _ rfl
  have kt_0_1 : w_t_0.cell? ⟨w.heap.size, 1, none⟩ = some (.slice A0_1 t_bans.length c0_1) := by rw [← hw_t_0]; exact box_new _ _ _ 1 _ rfl
  replace H := bind_hid H
  obtain ⟨t_4, qt_4, H⟩ := H
  go_wp2_with fail
  go_at_call 80
  refine (Go.Proofs.Ytekacbjnpeglhaa.GxSlicesCloneIntInt.C (kind) A1 c1 _   (Lib.hid (Cells.below M1.out HBw_t_0.out)) N1 Q1 qt_4).mono ?_
  rintro e_t_4 wt_4 ⟨At_4, ct_4, rfl, ot_4, bt_4⟩
  have Dt_4_t_0 := Lib.hid (apart_callbox ot_4 kt_0_0)
  have Ot_4 := Lib.hid (own_lower ot_4 HBw_t_0.out.size)
  clear ot_4
  have HBwt_4 := Lib.hid (Below.step HBw_t_0.out bt_4)
  replace kt_0_0 := cell_below bt_4 kt_0_0
  replace kt_0_1 := cell_below bt_4 kt_0_1
  clear bt_4
  replace H := let_hid H
  obtain ⟨t_11, ht_11, H⟩ := H
  try have hv_t_11 : (t_4.length : Int) - 1 = t_11 := by rw [← ht_11]; exact (IntWalk.i64_in _ (by omega)).symm
  try have hv2_t_11 : IntKind.i64.wrap t_11 = t_11 := by rw [← hv_t_11]; exact IntWalk.i64_in _ (by omega)
  replace H := bind2_hid H
  obtain ⟨t_12, lt_12, qt_12, H⟩ := H
  go_wp2_with fail
  go_at_call 97
  refine (Go.Proofs.Ytekacbjnpeglhaa.GiAdvance.C fuel (t_sizes) (t_4) (t_11) A0_0 c0_0 At_4 ct_4 w.heap.size _   (Lib.hid (Cells.below M0_0.out HBwt_4.out)) N0_0 Ot_4 (Lib.hid (own_max Ot_4.out))  (Lib.hid (Go.Proofs.Ytekacbjnpeglhaa.GoK.far_base (by decide) M0_0.out Ot_4.out)) qt_12).mono ?_
  rintro e_t_12 wt_12 ⟨rfl, ot_12, nt_12, gt_12⟩
  have Pt_12 := Lib.hid ot_12
  have Gt_12 := Lib.hid gt_12
  replace nt_12 := Lib.hid nt_12
  clear ot_12 gt_12
  have HBwt_12 := Lib.hid (HBwt_4.out.grown Gt_12.out HBwt_4.out.size (fun q hq => (Ot_4.out.lt q hq).1))
  replace kt_0_0 := cell_other kt_0_0 Gt_12.out Dt_4_t_0.out
  replace kt_0_1 := cell_other kt_0_1 Gt_12.out Dt_4_t_0.out
  clear Ot_4 Gt_12
  cases t_12 with
  | false =>
    replace H := let_hid H
    obtain ⟨t_13, ht_13, H⟩ := H
    obtain rfl : t_13 = true := ht_13.symm
    replace H := ite_t H
    obtain ⟨w_t_14, hw_t_14⟩ : ∃ x, wt_12.alloc (.cells #[] 3) = x := ⟨_, rfl⟩
    have bw_t_14 : Below wt_12.heap.size wt_12 w_t_14 := by rw [← hw_t_14]; exact (Below.refl _ _).alloc (Nat.le_refl _) _
    have Ot_14 : Hid (w_t_14.ownsRow w.heap.size 3 1 (.slice (some ⟨wt_12.heap.size, 0, none⟩) 0 0) 0 []) := Lib.hid (by rw [← hw_t_14]; exact own_empty HBwt_12.out.size)
    have Dt_14_t_4 := Lib.hid (apart_fresh Pt_12.out)
    have Dt_14_t_0 := Lib.hid (apart_box kt_0_0)
    have HBw_t_14 := Lib.hid (Below.step HBwt_12.out bw_t_14)
    have kt_0_0__158 := cell_below bw_t_14 kt_0_0
    have kt_0_1__159 := cell_below bw_t_14 kt_0_1
    replace Pt_12 := Lib.hid (own_below Pt_12.out bw_t_14)
    clear bw_t_14
    cases ret_hid H
    go_wp2_with fail
    go_ret2
    exact ⟨(some ⟨wt_12.heap.size, 0, none⟩), 0, rfl, Ot_14.out, HBw_t_14.out⟩
  | true =>
    replace H := let_hid H
    obtain ⟨t_13, ht_13, H⟩ := H
    obtain rfl : t_13 = false := ht_13.symm
    replace H := ite_f H
    go_wp2_with fail
    have hc_ := nt_12.out
    have hv_ : (Value.slice At_4 t_4.length ct_4 : Value) = Value.slice At_4 lt_12.length ct_4 := by rw [hc_]
    try rw [hv_]
    replace Pt_12 := Lib.hid (own_len hc_ Pt_12.out)
    clear hc_ hv_
    replace H := bind2_hid H
    obtain ⟨t_19a, t_19b, qt_19, H⟩ := H
    go_wp2_with fail
    go_at_call 96
    refine (Go.Proofs.Ytekacbjnpeglhaa.GiFirstFrom.C fuel (t_sizes) (t_bans) (lt_12) A0_0 c0_0 A0_1 c0_1 At_4 ct_4 w.heap.size _   (Lib.hid (Cells.below M0_0.out HBwt_12.out)) N0_0 (Lib.hid (Cells.below M0_1.out HBwt_12.out)) N0_1 Pt_12 (Lib.hid (own_max Pt_12.out)) (Lib.hid HBwt_12.out.size) (Lib.hid (Go.Proofs.Ytekacbjnpeglhaa.GoK.far_base (by decide) M0_0.out Pt_12.out)) (Lib.hid (Go.Proofs.Ytekacbjnpeglhaa.GoK.far_base (by decide) M0_1.out Pt_12.out)) qt_19).mono ?_
    rintro e_t_19 wt_19 ⟨At_19a, ct_19a, rfl, ot_19, gt_19, yt_19⟩
    have Pt_19 := Lib.hid ot_19
    have Gt_19 := Lib.hid gt_19
    replace yt_19 := Lib.hid yt_19
    clear ot_19 gt_19
    have HBwt_19 := Lib.hid (HBwt_12.out.grown Gt_19.out HBwt_12.out.size (fun q hq => (Pt_12.out.lt q hq).1))
    have Dt_19a_t_0 : Hid (Apart At_19a _) := Lib.hid (Go.Proofs.Ytekacbjnpeglhaa.GoK.apart_from Dt_4_t_0.out (fun a_ ha_ => by cases ha_; exact cell_lt kt_0_0) yt_19.out)
    replace kt_0_0 := cell_other kt_0_0 Gt_19.out Dt_4_t_0.out
    replace kt_0_1 := cell_other kt_0_1 Gt_19.out Dt_4_t_0.out
    clear Pt_12 Gt_19 yt_19
    cases ret_hid H
    go_wp2_with fail
    go_ret2
    exact ⟨At_19a, ct_19a, rfl, Pt_19.out, HBwt_19.out⟩
end Go.Proofs.Ytekacbjnpeglhaa.GiFirstBehind

/- loop.example/g01062/impl.NextKind as a plain function, and the contract of the program's: where the plain one has an answer, the program has it. Conditions: slices read as lists. -/
namespace Go.Proofs.Ytekacbjnpeglhaa.GiNextKind
set_option linter.unusedVariables false
set_option linter.unusedSimpArgs false
open Go.RowKit
open Go.Proofs.Ytekacbjnpeglhaa.Rowed Go.Proofs.Ytekacbjnpeglhaa.Turn Go.Proofs.Ytekacbjnpeglhaa.Aid Go.Proofs.Ytekacbjnpeglhaa.GoP Go.Proofs.Ytekacbjnpeglhaa.GoM

def P (fuel : Nat) (t_sizes : (List Int)) (t_bans : (List Go.Proofs.Ytekacbjnpeglhaa.PBan.Ban)) (kind : (List Int)) : Option ((List Int) × Bool) :=
  Option.bind (Go.Proofs.Ytekacbjnpeglhaa.GiIsKind.P t_sizes t_bans kind) fun (t_5 : Bool) =>
  letK (!t_5) fun (t_6 : Bool) =>
  iteK t_6
  (some (([] : List Int), false))
  (bind2 (Go.Proofs.Ytekacbjnpeglhaa.GiFirstBehind.P fuel t_sizes t_bans kind) fun (t_12a : (List Int)) (t_12b : Bool) =>
  some (t_12a, t_12b))

set_option maxRecDepth 100000 in
set_option maxHeartbeats 2000000 in
theorem C (fuel : Nat) (t_sizes : (List Int)) (t_bans : (List Go.Proofs.Ytekacbjnpeglhaa.PBan.Ban)) (kind : (List Int)) (A0_0 : Option Addr) (c0_0 : Nat) (A0_1 : Option Addr) (c0_1 : Nat) (A1 : Option Addr) (c1 : Nat)  (w : World) (M0_0 : Hid (Cells w 1 A0_0 t_sizes.length (Go.Proofs.Ytekacbjnpeglhaa.HelpInt.iv t_sizes))) (N0_0 : Hid (t_sizes.length ≤ 9223372036854775807)) (Q0_0 : Hid (Room A0_0 t_sizes.length c0_0)) (M0_1 : Hid (Cells w 4 A0_1 t_bans.length (Go.Proofs.Ytekacbjnpeglhaa.PBan.flat t_bans))) (N0_1 : Hid (t_bans.length ≤ 9223372036854775807)) (Q0_1 : Hid (Room A0_1 t_bans.length c0_1)) (M1 : Hid (Cells w 1 A1 kind.length (Go.Proofs.Ytekacbjnpeglhaa.HelpInt.iv kind))) (N1 : Hid (kind.length ≤ 9223372036854775807)) (Q1 : Hid (Room A1 kind.length c1))  {r0 : (List Int)} {r1 : Bool} (H : Hid (P fuel t_sizes t_bans kind = some (r0, r1))) :
    Calls Try.prog 30 #[.agg #[.slice A0_0 t_sizes.length c0_0, .slice A0_1 t_bans.length c0_1], .slice A1 kind.length c1] w (fun e w' => ∃ A_r0 c_r0, e = .returned (.tuple #[.slice A_r0 r0.length c_r0, .bool r1]) ∧ w'.ownsRow w.heap.size 3 1 (.slice A_r0 r0.length c_r0) r0.length (Go.Proofs.Ytekacbjnpeglhaa.HelpInt.iv r0) ∧ Below w.heap.size w w') := by
  have HB := Lib.hid (Below.refl w.heap.size w)
  unfold P at H
  have N0_0o := N0_0.out
  have N0_1o := N0_1.out
  have N1o := N1.out
  go_enter Try.func30, Try.ntmps30
  obtain ⟨w_t_0, hw_t_0⟩ : ∃ x, w.alloc (.cells #[.slice A0_0 t_sizes.length c0_0, .slice A0_1 t_bans.length c0_1] 30) = x := ⟨_, rfl⟩
  have bw_t_0 : Below w.heap.size w w_t_0 := by rw [← hw_t_0]; exact (Below.refl _ _).alloc (Nat.le_refl _) _
  have HBw_t_0 := Lib.hid (Below.step HB.out bw_t_0)
  clear bw_t_0
  have kt_0_0 : w_t_0.cell? ⟨w.heap.size, 0, none⟩ = some (.slice A0_0 t_sizes.length c0_0) := by rw [← hw_t_0]; exact box_new _ _ _ 0 _ rfl
  have kt_0_1 : w_t_0.cell? ⟨w.heap.size, 1, none⟩ = some (.slice A0_1 t_bans.length c0_1) := by rw [← hw_t_0]; exact box_new _ _ _ 1 _ rfl
  replace H := bind_hid H
  obtain ⟨t_5, qt_5, H⟩ := H
  go_wp2_with fail
  go_at_call 61
  refine (Go.Proofs.Ytekacbjnpeglhaa.GiIsKind.C (t_sizes) (t_bans) (kind) A0_0 c0_0 A0_1 c0_1 A1 c1 _   (Lib.hid (Cells.below M0_0.out HBw_t_0.out)) N0_0 (Lib.hid (Cells.below M0_1.out HBw_t_0.out)) N0_1 (Lib.hid (Cells.below M1.out HBw_t_0.out)) N1 qt_5).mono ?_
  rintro e_t_5 wt_5 ⟨rfl, bt_5⟩
  have HBwt_5 := Lib.hid (Below.step HBw_t_0.out bt_5)
  replace kt_0_0 := cell_below bt_5 kt_0_0
  replace kt_0_1 := cell_below bt_5 kt_0_1
  clear bt_5
  cases t_5 with
  | false =>
    replace H := let_hid H
    obtain ⟨t_6, ht_6, H⟩ := H
    obtain rfl : t_6 = true := ht_6.symm
    replace H := ite_t H
    obtain ⟨w_t_7, hw_t_7⟩ : ∃ x, wt_5.alloc (.cells #[] 3) = x := ⟨_, rfl⟩
    have bw_t_7 : Below wt_5.heap.size wt_5 w_t_7 := by rw [← hw_t_7]; exact (Below.refl _ _).alloc (Nat.le_refl _) _
    have Ot_7 : Hid (w_t_7.ownsRow w.heap.size 3 1 (.slice (some ⟨wt_5.heap.size, 0, none⟩) 0 0) 0 []) := Lib.hid (by rw [← hw_t_7]; exact own_empty HBwt_5.out.size)
    have Dt_7_t_0 := Lib.hid (apart_box kt_0_0)
    have HBw_t_7 := Lib.hid (Below.step HBwt_5.out bw_t_7)
    have kt_0_0__196 := cell_below bw_t_7 kt_0_0
    have kt_0_1__197 := cell_below bw_t_7 kt_0_1
    clear bw_t_7
    cases ret_hid H
    go_wp2_with fail
    go_ret2
    exact ⟨(some ⟨wt_5.heap.size, 0, none⟩), 0, rfl, Ot_7.out, HBw_t_7.out⟩
  | true =>
    replace H := let_hid H
    obtain ⟨t_6, ht_6, H⟩ := H
    obtain rfl : t_6 = false := ht_6.symm
    replace H := ite_f H
    replace H := bind2_hid H
    obtain ⟨t_12a, t_12b, qt_12, H⟩ := H
    go_wp2_with fail
    go_at_call 71
    refine (Go.Proofs.Ytekacbjnpeglhaa.GiFirstBehind.C fuel (t_sizes) (t_bans) (kind) A0_0 c0_0 A0_1 c0_1 A1 c1 _   (Lib.hid (Cells.below M0_0.out HBwt_5.out)) N0_0 Q0_0 (Lib.hid (Cells.below M0_1.out HBwt_5.out)) N0_1 Q0_1 (Lib.hid (Cells.below M1.out HBwt_5.out)) N1 Q1 qt_12).mono ?_
    rintro e_t_12 wt_12 ⟨At_12a, ct_12a, rfl, ot_12a, bt_12⟩
    have Dt_12a_t_0 := Lib.hid (apart_callbox ot_12a kt_0_0)
    have Ot_12a := Lib.hid (own_lower ot_12a HBwt_5.out.size)
    clear ot_12a
    have HBwt_12 := Lib.hid (Below.step HBwt_5.out bt_12)
    replace kt_0_0 := cell_below bt_12 kt_0_0
    replace kt_0_1 := cell_below bt_12 kt_0_1
    clear bt_12
    cases ret_hid H
    go_wp2_with fail
    go_ret2
    exact ⟨At_12a, ct_12a, rfl, Ot_12a.out, HBwt_12.out⟩
end Go.Proofs.Ytekacbjnpeglhaa.GiNextKind

/- loop.example/g01062/laws.eqIntS as a plain function, and the contract of the program's: where the plain one has an answer, the program has it. Conditions: slices read as lists. -/
namespace Go.Proofs.Ytekacbjnpeglhaa.GlEqIntS
set_option linter.unusedVariables false
set_option linter.unusedSimpArgs false
open Go.RowKit
open Go.Proofs.Ytekacbjnpeglhaa.Rowed Go.Proofs.Ytekacbjnpeglhaa.Turn Go.Proofs.Ytekacbjnpeglhaa.Aid Go.Proofs.Ytekacbjnpeglhaa.GoP Go.Proofs.Ytekacbjnpeglhaa.GoM

def l0 (a : (List Int)) (b : (List Int)) (k0 : Nat) (s : Unit) (nx0 bk0 : Unit → Option (Bool)) : Option (Bool) :=
  
  Option.bind (idx a (k0 : Int)) fun (yt_14 : Int) =>
  Option.bind (idx b (k0 : Int)) fun (yt_18 : Int) =>
  letK (yt_14 != yt_18) fun (t_20 : Bool) =>
  iteK t_20
  (some false)
  (appK nx0 ())

def e0  (s : Unit) : Option (Bool) :=
  
  some true

def P (a : (List Int)) (b : (List Int)) : Option (Bool) :=
  letK ((a.length : Int) != (b.length : Int)) fun (t_5 : Bool) =>
  iteK t_5
  (some false)
  (cntK (l0 a b) (a.length) 0 () (e0 ))

set_option maxRecDepth 100000 in
set_option maxHeartbeats 2000000 in
theorem C (a : (List Int)) (b : (List Int)) (A0 : Option Addr) (c0 : Nat) (A1 : Option Addr) (c1 : Nat)  (w : World) (M0 : Hid (Cells w 1 A0 a.length (Go.Proofs.Ytekacbjnpeglhaa.HelpInt.iv a))) (N0 : Hid (a.length ≤ 9223372036854775807)) (M1 : Hid (Cells w 1 A1 b.length (Go.Proofs.Ytekacbjnpeglhaa.HelpInt.iv b))) (N1 : Hid (b.length ≤ 9223372036854775807))  {r : Bool} (H : Hid (P a b = some r)) :
    Calls Try.prog 21 #[.slice A0 a.length c0, .slice A1 b.length c1] w (Gives (.bool r) w) := by
  have HB := Lib.hid (Below.refl w.heap.size w)
  unfold P at H
  have N0o := N0.out
  have N1o := N1.out
  go_enter Try.func21, Try.ntmps21
  replace H := let_hid H
  obtain ⟨t_5, ht_5, H⟩ := H
  cases t_5 with
  | false =>
    have Hht_5 : Hid (a.length = b.length) := Lib.hid (by have := bne_eq_false_iff_eq.1 ht_5; omega)
    have nht_5 : (a.length == b.length) = true := beq_iff_eq.2 Hht_5.out
    replace H := ite_f H
    go_wp2_with fail
    go_loopg [5] (a.length) (fun m_ v5_ wr => ∃ (k0 : Nat) , k0 + m_ = a.length ∧ v5_ = .int .i64 (k0 : Int) ∧ Hid (cntK (l0 a b) m_ k0 () (e0 ) = some r) ∧ Hid (Below w.heap.size w wr))
    case atStart => exact ⟨0, by omega, rfl, H, HB⟩
    case round =>
      obtain ⟨k0, hkm0, rfl, H, HBwr0⟩ := hrel
      rename World => wr0
      cases gk with
      | zero =>
        obtain rfl : k0 = a.length := by omega
        have hc0 : decide (((a.length : Nat) : Int) < ((a.length : Nat) : Int)) = false := by simp
        replace H := cnt_zero H
        unfold e0 at H
        obtain rfl := ret_hid H
        go_wp2_with fail
        go_ret
        exact ⟨rfl, HBwr0.out⟩
      | succ m0 =>
        have hlt0 : k0 < a.length := by omega
        have hc0 : decide ((k0 : Int) < ((a.length : Nat) : Int)) = true := by simp; omega
        replace H := cnt_succ H
        unfold l0 at H
        go_wp2_with fail
        replace H := idx_hid H
        obtain ⟨nt_14, yt_14, et_14, lt_14, gt_14, H⟩ := H
        obtain rfl : k0 = nt_14 := by omega
        clear et_14
        obtain ⟨ab_t_14, ao_t_14, zt_14, At_14, z_t_14, ct_14_0⟩ := Go.Proofs.Ytekacbjnpeglhaa.HelpInt.Ints.at_ M0.out lt_14
        obtain rfl := Option.some.inj (gt_14.out.symm.trans z_t_14)
        subst At_14
        have ltt_14 := cell_lt ct_14_0
        replace ct_14_0 := cell_below HBwr0.out ct_14_0
        clear z_t_14
        have b0t_14 : (0 : Int) ≤ (k0 : Int) := by omega
        have b1t_14 : (k0 : Int) < ((a.length : Nat) : Int) := by omega
        have b2t_14 : ((k0 : Int)).toNat = k0 := by omega
        have Hct_14_0 := Lib.hid ct_14_0
        replace ct_14_0 := cell_regrown ct_14_0
        replace H := idx_hid H
        obtain ⟨nt_18, yt_18, et_18, lt_18, gt_18, H⟩ := H
        obtain rfl : k0 = nt_18 := by omega
        clear et_18
        obtain ⟨ab_t_18, ao_t_18, zt_18, At_18, z_t_18, ct_18_0⟩ := Go.Proofs.Ytekacbjnpeglhaa.HelpInt.Ints.at_ M1.out lt_18
        obtain rfl := Option.some.inj (gt_18.out.symm.trans z_t_18)
        subst At_18
        have ltt_18 := cell_lt ct_18_0
        replace ct_18_0 := cell_below HBwr0.out ct_18_0
        clear z_t_18
        have b0t_18 : (0 : Int) ≤ (k0 : Int) := by omega
        have b1t_18 : (k0 : Int) < ((b.length : Nat) : Int) := by omega
        have b2t_18 : ((k0 : Int)).toNat = k0 := by omega
        have Hct_18_0 := Lib.hid ct_18_0
        replace ct_18_0 := cell_regrown ct_18_0
        replace H := let_hid H
        obtain ⟨t_20, ht_20, H⟩ := H
        refine wp_region_quiet_below (by kernel_rfl) (by kernel_rfl) ?_
        repeat (go_big_quiet_step (fail))
        refine wpQuiet_nil ?_
        intro Y6 hY6
        replace hY6 := below_class hY6
        replace ct_14_0 := Hct_14_0.out
        clear Hct_14_0
        replace ct_18_0 := Hct_18_0.out
        clear Hct_18_0
        have HBY6 := Lib.hid (Below.step HBwr0.out hY6)
        replace ct_14_0 := cell_below hY6 ct_14_0
        replace ct_18_0 := cell_below hY6 ct_18_0
        clear hY6
        cases t_20 with
        | false =>
          replace H := ite_f H
          replace H := app_hid H
          go_wp2_with fail
          go_roundg m0
          case measure => omega
          case rel => exact ⟨k0 + 1, by omega, by go_num, H, HBY6⟩
        | true =>
          replace H := ite_t H
          obtain rfl := ret_hid H
          go_wp2_with fail
          go_ret
          exact ⟨rfl, HBY6.out⟩
  | true =>
    have nht_5 : ¬ (a.length = b.length) := by have := bne_iff_ne.1 ht_5; omega
    replace H := ite_t H
    obtain rfl := ret_hid H
    go_wp2_with fail
    go_ret
    exact ⟨rfl, HB.out⟩
end Go.Proofs.Ytekacbjnpeglhaa.GlEqIntS

/- loop.example/g01062/laws.eqBan as a plain function, and the contract of the program's: where the plain one has an answer, the program has it. Conditions: slices read as lists. -/
namespace Go.Proofs.Ytekacbjnpeglhaa.GlEqBan
set_option linter.unusedVariables false
set_option linter.unusedSimpArgs false
open Go.RowKit
open Go.Proofs.Ytekacbjnpeglhaa.Rowed Go.Proofs.Ytekacbjnpeglhaa.Turn Go.Proofs.Ytekacbjnpeglhaa.Aid Go.Proofs.Ytekacbjnpeglhaa.GoP Go.Proofs.Ytekacbjnpeglhaa.GoM

def P (a : Go.Proofs.Ytekacbjnpeglhaa.PBan.Ban) (b : Go.Proofs.Ytekacbjnpeglhaa.PBan.Ban) : Option (Bool) :=
  unBan a fun (a_a : Int) (a_x : Int) (a_b : Int) (a_y : Int) =>
  unBan b fun (b_a : Int) (b_x : Int) (b_b : Int) (b_y : Int) =>
  letK (a_a != b_a) fun (t_7 : Bool) =>
  iteK t_7
  (some false)
  (letK (a_x != b_x) fun (t_13 : Bool) =>
  iteK t_13
  (some false)
  (letK (a_b != b_b) fun (t_19 : Bool) =>
  iteK t_19
  (some false)
  (letK (a_y != b_y) fun (t_25 : Bool) =>
  iteK t_25
  (some false)
  (some true))))

set_option maxRecDepth 100000 in
set_option maxHeartbeats 2000000 in
theorem C (a : Go.Proofs.Ytekacbjnpeglhaa.PBan.Ban) (b : Go.Proofs.Ytekacbjnpeglhaa.PBan.Ban)   (w : World)   {r : Bool} (H : Hid (P a b = some r)) :
    Calls Try.prog 92 #[a.val, b.val] w (Gives (.bool r) w) := by
  have HB := Lib.hid (Below.refl w.heap.size w)
  unfold P at H
  obtain ⟨a_a, a_x, a_b, a_y⟩ := a
  replace H := unBan_hid H
  obtain ⟨b_a, b_x, b_b, b_y⟩ := b
  replace H := unBan_hid H
  unfold Go.Proofs.Ytekacbjnpeglhaa.PBan.Ban.val
  go_enter Try.func92, Try.ntmps92
  obtain ⟨w_a_0, hw_a_0⟩ : ∃ x, w.alloc (.cells #[.int .i64 a_a, .int .i64 a_x, .int .i64 a_b, .int .i64 a_y] 57) = x := ⟨_, rfl⟩
  have bw_a_0 : Below w.heap.size w w_a_0 := by rw [← hw_a_0]; exact (Below.refl _ _).alloc (Nat.le_refl _) _
  have HBw_a_0 := Lib.hid (Below.step HB.out bw_a_0)
  clear bw_a_0
  have ka_0_0 : w_a_0.cell? ⟨w.heap.size, 0, none⟩ = some (.int .i64 a_a) := by rw [← hw_a_0]; exact box_new _ _ _ 0 _ rfl
  have ka_0_1 : w_a_0.cell? ⟨w.heap.size, 1, none⟩ = some (.int .i64 a_x) := by rw [← hw_a_0]; exact box_new _ _ _ 1 _ rfl
  have ka_0_2 : w_a_0.cell? ⟨w.heap.size, 2, none⟩ = some (.int .i64 a_b) := by rw [← hw_a_0]; exact box_new _ _ _ 2 _ rfl
  have ka_0_3 : w_a_0.cell? ⟨w.heap.size, 3, none⟩ = some (.int .i64 a_y) := by rw [← hw_a_0]; exact box_new _ _ _ 3 _ rfl
  obtain ⟨w_b_1, hw_b_1⟩ : ∃ x, w_a_0.alloc (.cells #[.int .i64 b_a, .int .i64 b_x, .int .i64 b_b, .int .i64 b_y] 57) = x := ⟨_, rfl⟩
  have bw_b_1 : Below w_a_0.heap.size w_a_0 w_b_1 := by rw [← hw_b_1]; exact (Below.refl _ _).alloc (Nat.le_refl _) _
  have HBw_b_1 := Lib.hid (Below.step HBw_a_0.out bw_b_1)
  have ka_0_0__164 := cell_below bw_b_1 ka_0_0
  have ka_0_1__165 := cell_below bw_b_1 ka_0_1
  have ka_0_2__166 := cell_below bw_b_1 ka_0_2
  have ka_0_3__167 := cell_below bw_b_1 ka_0_3
  clear bw_b_1
  have kb_1_0 : w_b_1.cell? ⟨w_a_0.heap.size, 0, none⟩ = some (.int .i64 b_a) := by rw [← hw_b_1]; exact box_new _ _ _ 0 _ rfl
  have kb_1_1 : w_b_1.cell? ⟨w_a_0.heap.size, 1, none⟩ = some (.int .i64 b_x) := by rw [← hw_b_1]; exact box_new _ _ _ 1 _ rfl
  have kb_1_2 : w_b_1.cell? ⟨w_a_0.heap.size, 2, none⟩ = some (.int .i64 b_b) := by rw [← hw_b_1]; exact box_new _ _ _ 2 _ rfl
  have kb_1_3 : w_b_1.cell? ⟨w_a_0.heap.size, 3, none⟩ = some (.int .i64 b_y) := by rw [← hw_b_1]; exact box_new _ _ _ 3 _ rfl
  replace H := let_hid H
  obtain ⟨t_7, ht_7, H⟩ := H
  cases t_7 with
  | false =>
    replace H := ite_f H
    replace H := let_hid H
    obtain ⟨t_13, ht_13, H⟩ := H
    cases t_13 with
    | false =>
      replace H := ite_f H
      replace H := let_hid H
      obtain ⟨t_19, ht_19, H⟩ := H
      cases t_19 with
      | false =>
        replace H := ite_f H
        replace H := let_hid H
        obtain ⟨t_25, ht_25, H⟩ := H
        cases t_25 with
        | false =>
          replace H := ite_f H
          obtain rfl := ret_hid H
          go_wp2_with fail
          go_ret
          exact ⟨rfl, HBw_b_1.out⟩
        | true =>
          replace H := ite_t H
          obtain rfl := ret_hid H
          go_wp2_with fail
          go_ret
          exact ⟨rfl, HBw_b_1.out⟩
      | true =>
        replace H := ite_t H
        obtain rfl := ret_hid H
        go_wp2_with fail
        go_ret
        exact ⟨rfl, HBw_b_1.out⟩
    | true =>
      replace H := ite_t H
      obtain rfl := ret_hid H
      go_wp2_with fail
      go_ret
      exact ⟨rfl, HBw_b_1.out⟩
  | true =>
    replace H := ite_t H
    obtain rfl := ret_hid H
    go_wp2_with fail
    go_ret
    exact ⟨rfl, HBw_b_1.out⟩
end Go.Proofs.Ytekacbjnpeglhaa.GlEqBan

/- loop.example/g01062/laws.eqBanS as a plain function, and the contract of the program's: where the plain one has an answer, the program has it. Conditions: slices read as lists. -/
namespace Go.Proofs.Ytekacbjnpeglhaa.GlEqBanS
set_option linter.unusedVariables false
set_option linter.unusedSimpArgs false
open Go.RowKit
open Go.Proofs.Ytekacbjnpeglhaa.Rowed Go.Proofs.Ytekacbjnpeglhaa.Turn Go.Proofs.Ytekacbjnpeglhaa.Aid Go.Proofs.Ytekacbjnpeglhaa.GoP Go.Proofs.Ytekacbjnpeglhaa.GoM

def l0 (a : (List Go.Proofs.Ytekacbjnpeglhaa.PBan.Ban)) (b : (List Go.Proofs.Ytekacbjnpeglhaa.PBan.Ban)) (k0 : Nat) (s : Unit) (nx0 bk0 : Unit → Option (Bool)) : Option (Bool) :=
  
  Option.bind (idx a (k0 : Int)) fun (yt_14 : Go.Proofs.Ytekacbjnpeglhaa.PBan.Ban) =>
  unBan yt_14 fun (t_14_a : Int) (t_14_x : Int) (t_14_b : Int) (t_14_y : Int) =>
  Option.bind (idx b (k0 : Int)) fun (yt_18 : Go.Proofs.Ytekacbjnpeglhaa.PBan.Ban) =>
  unBan yt_18 fun (t_18_a : Int) (t_18_x : Int) (t_18_b : Int) (t_18_y : Int) =>
  Option.bind (Go.Proofs.Ytekacbjnpeglhaa.GlEqBan.P (Go.Proofs.Ytekacbjnpeglhaa.PBan.Ban.mk t_14_a t_14_x t_14_b t_14_y) (Go.Proofs.Ytekacbjnpeglhaa.PBan.Ban.mk t_18_a t_18_x t_18_b t_18_y)) fun (t_20 : Bool) =>
  letK (!t_20) fun (t_21 : Bool) =>
  iteK t_21
  (some false)
  (appK nx0 ())

def e0  (s : Unit) : Option (Bool) :=
  
  some true

def P (a : (List Go.Proofs.Ytekacbjnpeglhaa.PBan.Ban)) (b : (List Go.Proofs.Ytekacbjnpeglhaa.PBan.Ban)) : Option (Bool) :=
  letK ((a.length : Int) != (b.length : Int)) fun (t_5 : Bool) =>
  iteK t_5
  (some false)
  (cntK (l0 a b) (a.length) 0 () (e0 ))

set_option maxRecDepth 100000 in
set_option maxHeartbeats 2000000 in
theorem C (a : (List Go.Proofs.Ytekacbjnpeglhaa.PBan.Ban)) (b : (List Go.Proofs.Ytekacbjnpeglhaa.PBan.Ban)) (A0 : Option Addr) (c0 : Nat) (A1 : Option Addr) (c1 : Nat)  (w : World) (M0 : Hid (Cells w 4 A0 a.length (Go.Proofs.Ytekacbjnpeglhaa.PBan.flat a))) (N0 : Hid (a.length ≤ 9223372036854775807)) (M1 : Hid (Cells w 4 A1 b.length (Go.Proofs.Ytekacbjnpeglhaa.PBan.flat b))) (N1 : Hid (b.length ≤ 9223372036854775807))  {r : Bool} (H : Hid (P a b = some r)) :
    Calls Try.prog 58 #[.slice A0 a.length c0, .slice A1 b.length c1] w (Gives (.bool r) w) := by
  have HB := Lib.hid (Below.refl w.heap.size w)
  unfold P at H
  have N0o := N0.out
  have N1o := N1.out
  go_enter Try.func58, Try.ntmps58
  replace H := let_hid H
  obtain ⟨t_5, ht_5, H⟩ := H
  cases t_5 with
  | false =>
    have Hht_5 : Hid (a.length = b.length) := Lib.hid (by have := bne_eq_false_iff_eq.1 ht_5; omega)
    have nht_5 : (a.length == b.length) = true := beq_iff_eq.2 Hht_5.out
    replace H := ite_f H
    go_wp2_with fail
    go_loopg [5] (a.length) (fun m_ v5_ wr => ∃ (k0 : Nat) , k0 + m_ = a.length ∧ v5_ = .int .i64 (k0 : Int) ∧ Hid (cntK (l0 a b) m_ k0 () (e0 ) = some r) ∧ Hid (Below w.heap.size w wr))
    case atStart => exact ⟨0, by omega, rfl, H, HB⟩
    case round =>
      obtain ⟨k0, hkm0, rfl, H, HBwr0⟩ := hrel
      rename World => wr0
      cases gk with
      | zero =>
        obtain rfl : k0 = a.length := by omega
        have hc0 : decide (((a.length : Nat) : Int) < ((a.length : Nat) : Int)) = false := by simp
        replace H := cnt_zero H
        unfold e0 at H
        obtain rfl := ret_hid H
        go_wp2_with fail
        go_ret
        exact ⟨rfl, HBwr0.out⟩
      | succ m0 =>
        have hlt0 : k0 < a.length := by omega
        have hc0 : decide ((k0 : Int) < ((a.length : Nat) : Int)) = true := by simp; omega
        replace H := cnt_succ H
        unfold l0 at H
        go_wp2_with fail
        replace H := idx_hid H
        obtain ⟨nt_14, yt_14, et_14, lt_14, gt_14, H⟩ := H
        obtain rfl : k0 = nt_14 := by omega
        clear et_14
        obtain ⟨t_14_a, t_14_x, t_14_b, t_14_y⟩ := yt_14
        replace H := unBan_hid H
        obtain ⟨ab_t_14, ao_t_14, zt_14, At_14, z_t_14, ct_14_0, ct_14_1, ct_14_2, ct_14_3⟩ := Go.Proofs.Ytekacbjnpeglhaa.OBan.at_ M0.out lt_14
        obtain rfl := Option.some.inj (gt_14.out.symm.trans z_t_14)
        subst At_14
        have ltt_14 := cell_lt ct_14_0
        replace ct_14_0 := cell_below HBwr0.out ct_14_0
        replace ct_14_1 := cell_below HBwr0.out ct_14_1
        replace ct_14_2 := cell_below HBwr0.out ct_14_2
        replace ct_14_3 := cell_below HBwr0.out ct_14_3
        clear z_t_14
        have b0t_14 : (0 : Int) ≤ (k0 : Int) := by omega
        have b1t_14 : (k0 : Int) < ((a.length : Nat) : Int) := by omega
        have b2t_14 : ((k0 : Int)).toNat = k0 := by omega
        have Hct_14_0 := Lib.hid ct_14_0
        replace ct_14_0 := cell_regrown ct_14_0
        have Hct_14_1 := Lib.hid ct_14_1
        replace ct_14_1 := cell_regrown ct_14_1
        have Hct_14_2 := Lib.hid ct_14_2
        replace ct_14_2 := cell_regrown ct_14_2
        have Hct_14_3 := Lib.hid ct_14_3
        replace ct_14_3 := cell_regrown ct_14_3
        replace H := idx_hid H
        obtain ⟨nt_18, yt_18, et_18, lt_18, gt_18, H⟩ := H
        obtain rfl : k0 = nt_18 := by omega
        clear et_18
        obtain ⟨t_18_a, t_18_x, t_18_b, t_18_y⟩ := yt_18
        replace H := unBan_hid H
        obtain ⟨ab_t_18, ao_t_18, zt_18, At_18, z_t_18, ct_18_0, ct_18_1, ct_18_2, ct_18_3⟩ := Go.Proofs.Ytekacbjnpeglhaa.OBan.at_ M1.out lt_18
        obtain rfl := Option.some.inj (gt_18.out.symm.trans z_t_18)
        subst At_18
        have ltt_18 := cell_lt ct_18_0
        replace ct_18_0 := cell_below HBwr0.out ct_18_0
        replace ct_18_1 := cell_below HBwr0.out ct_18_1
        replace ct_18_2 := cell_below HBwr0.out ct_18_2
        replace ct_18_3 := cell_below HBwr0.out ct_18_3
        clear z_t_18
        have b0t_18 : (0 : Int) ≤ (k0 : Int) := by omega
        have b1t_18 : (k0 : Int) < ((b.length : Nat) : Int) := by omega
        have b2t_18 : ((k0 : Int)).toNat = k0 := by omega
        have Hct_18_0 := Lib.hid ct_18_0
        replace ct_18_0 := cell_regrown ct_18_0
        have Hct_18_1 := Lib.hid ct_18_1
        replace ct_18_1 := cell_regrown ct_18_1
        have Hct_18_2 := Lib.hid ct_18_2
        replace ct_18_2 := cell_regrown ct_18_2
        have Hct_18_3 := Lib.hid ct_18_3
        replace ct_18_3 := cell_regrown ct_18_3
        replace H := bind_hid H
        obtain ⟨t_20, qt_20, H⟩ := H
        have nt_20 : ∀ d os, Calls Try.prog 92 #[.agg #[.int .i64 t_14_a, .int .i64 t_14_x, .int .i64 t_14_b, .int .i64 t_14_y], .agg #[.int .i64 t_18_a, .int .i64 t_18_x, .int .i64 t_18_b, .int .i64 t_18_y]] (Go.Sort.grow (redrawn wr0 d) os) fun e w'' => e = .returned (.bool t_20) ∧ ∃ p : Regrown, w'' = Go.Sort.grow (redrawn wr0 p.d) p.os := fun d os => Calls.regrown_of (Go.Proofs.Ytekacbjnpeglhaa.GlEqBan.C ((Go.Proofs.Ytekacbjnpeglhaa.PBan.Ban.mk t_14_a t_14_x t_14_b t_14_y)) ((Go.Proofs.Ytekacbjnpeglhaa.PBan.Ban.mk t_18_a t_18_x t_18_b t_18_y))  _    qt_20)
        cases t_20 with
        | false =>
          replace H := let_hid H
          obtain ⟨t_21, ht_21, H⟩ := H
          obtain rfl : t_21 = true := ht_21.symm
          refine wp_region_quiet_below (by kernel_rfl) (by kernel_rfl) ?_
          repeat (go_big_quiet_step (first | (go_at_call 92; exact nt_20 _ _)))
          refine wpQuiet_nil ?_
          intro Y6 hY6
          replace hY6 := below_class hY6
          clear nt_20
          replace ct_14_0 := Hct_14_0.out
          clear Hct_14_0
          replace ct_14_1 := Hct_14_1.out
          clear Hct_14_1
          replace ct_14_2 := Hct_14_2.out
          clear Hct_14_2
          replace ct_14_3 := Hct_14_3.out
          clear Hct_14_3
          replace ct_18_0 := Hct_18_0.out
          clear Hct_18_0
          replace ct_18_1 := Hct_18_1.out
          clear Hct_18_1
          replace ct_18_2 := Hct_18_2.out
          clear Hct_18_2
          replace ct_18_3 := Hct_18_3.out
          clear Hct_18_3
          have HBY6 := Lib.hid (Below.step HBwr0.out hY6)
          replace ct_14_0 := cell_below hY6 ct_14_0
          replace ct_14_1 := cell_below hY6 ct_14_1
          replace ct_14_2 := cell_below hY6 ct_14_2
          replace ct_14_3 := cell_below hY6 ct_14_3
          replace ct_18_0 := cell_below hY6 ct_18_0
          replace ct_18_1 := cell_below hY6 ct_18_1
          replace ct_18_2 := cell_below hY6 ct_18_2
          replace ct_18_3 := cell_below hY6 ct_18_3
          clear hY6
          replace H := ite_t H
          obtain rfl := ret_hid H
          go_wp2_with fail
          go_ret
          exact ⟨rfl, HBY6.out⟩
        | true =>
          replace H := let_hid H
          obtain ⟨t_21, ht_21, H⟩ := H
          obtain rfl : t_21 = false := ht_21.symm
          refine wp_region_quiet_below (by kernel_rfl) (by kernel_rfl) ?_
          repeat (go_big_quiet_step (first | (go_at_call 92; exact nt_20 _ _)))
          refine wpQuiet_nil ?_
          intro Y6 hY6
          replace hY6 := below_class hY6
          clear nt_20
          replace ct_14_0 := Hct_14_0.out
          clear Hct_14_0
          replace ct_14_1 := Hct_14_1.out
          clear Hct_14_1
          replace ct_14_2 := Hct_14_2.out
          clear Hct_14_2
          replace ct_14_3 := Hct_14_3.out
          clear Hct_14_3
          replace ct_18_0 := Hct_18_0.out
          clear Hct_18_0
          replace ct_18_1 := Hct_18_1.out
          clear Hct_18_1
          replace ct_18_2 := Hct_18_2.out
          clear Hct_18_2
          replace ct_18_3 := Hct_18_3.out
          clear Hct_18_3
          have HBY6 := Lib.hid (Below.step HBwr0.out hY6)
          replace ct_14_0 := cell_below hY6 ct_14_0
          replace ct_14_1 := cell_below hY6 ct_14_1
          replace ct_14_2 := cell_below hY6 ct_14_2
          replace ct_14_3 := cell_below hY6 ct_14_3
          replace ct_18_0 := cell_below hY6 ct_18_0
          replace ct_18_1 := cell_below hY6 ct_18_1
          replace ct_18_2 := cell_below hY6 ct_18_2
          replace ct_18_3 := cell_below hY6 ct_18_3
          clear hY6
          replace H := ite_f H
          replace H := app_hid H
          go_wp2_with fail
          go_roundg m0
          case measure => omega
          case rel => exact ⟨k0 + 1, by omega, by go_num, H, HBY6⟩
  | true =>
    have nht_5 : ¬ (a.length = b.length) := by have := bne_iff_ne.1 ht_5; omega
    replace H := ite_t H
    obtain rfl := ret_hid H
    go_wp2_with fail
    go_ret
    exact ⟨rfl, HB.out⟩
end Go.Proofs.Ytekacbjnpeglhaa.GlEqBanS

/- loop.example/g01062/laws.eqKindTable as a plain function, and the contract of the program's: where the plain one has an answer, the program has it. Conditions: slices read as lists. -/
namespace Go.Proofs.Ytekacbjnpeglhaa.GlEqKindTable
set_option linter.unusedVariables false
set_option linter.unusedSimpArgs false
open Go.RowKit
open Go.Proofs.Ytekacbjnpeglhaa.Rowed Go.Proofs.Ytekacbjnpeglhaa.Turn Go.Proofs.Ytekacbjnpeglhaa.Aid Go.Proofs.Ytekacbjnpeglhaa.GoP Go.Proofs.Ytekacbjnpeglhaa.GoM

def P (a_sizes : (List Int)) (a_bans : (List Go.Proofs.Ytekacbjnpeglhaa.PBan.Ban)) (b_sizes : (List Int)) (b_bans : (List Go.Proofs.Ytekacbjnpeglhaa.PBan.Ban)) : Option (Bool) :=
  Option.bind (Go.Proofs.Ytekacbjnpeglhaa.GlEqIntS.P a_sizes b_sizes) fun (t_7 : Bool) =>
  letK (!t_7) fun (t_8 : Bool) =>
  iteK t_8
  (some false)
  (Option.bind (Go.Proofs.Ytekacbjnpeglhaa.GlEqBanS.P a_bans b_bans) fun (t_14 : Bool) =>
  letK (!t_14) fun (t_15 : Bool) =>
  iteK t_15
  (some false)
  (some true))

set_option maxRecDepth 100000 in
set_option maxHeartbeats 2000000 in
theorem C (a_sizes : (List Int)) (a_bans : (List Go.Proofs.Ytekacbjnpeglhaa.PBan.Ban)) (b_sizes : (List Int)) (b_bans : (List Go.Proofs.Ytekacbjnpeglhaa.PBan.Ban)) (A0_0 : Option Addr) (c0_0 : Nat) (A0_1 : Option Addr) (c0_1 : Nat) (A1_0 : Option Addr) (c1_0 : Nat) (A1_1 : Option Addr) (c1_1 : Nat)  (w : World) (M0_0 : Hid (Cells w 1 A0_0 a_sizes.length (Go.Proofs.Ytekacbjnpeglhaa.HelpInt.iv a_sizes))) (N0_0 : Hid (a_sizes.length ≤ 9223372036854775807)) (M0_1 : Hid (Cells w 4 A0_1 a_bans.length (Go.Proofs.Ytekacbjnpeglhaa.PBan.flat a_bans))) (N0_1 : Hid (a_bans.length ≤ 9223372036854775807)) (M1_0 : Hid (Cells w 1 A1_0 b_sizes.length (Go.Proofs.Ytekacbjnpeglhaa.HelpInt.iv b_sizes))) (N1_0 : Hid (b_sizes.length ≤ 9223372036854775807)) (M1_1 : Hid (Cells w 4 A1_1 b_bans.length (Go.Proofs.Ytekacbjnpeglhaa.PBan.flat b_bans))) (N1_1 : Hid (b_bans.length ≤ 9223372036854775807))  {r : Bool} (H : Hid (P a_sizes a_bans b_sizes b_bans = some r)) :
    Calls Try.prog 17 #[.agg #[.slice A0_0 a_sizes.length c0_0, .slice A0_1 a_bans.length c0_1], .agg #[.slice A1_0 b_sizes.length c1_0, .slice A1_1 b_bans.length c1_1]] w (Gives (.bool r) w) := by
  have HB := Lib.hid (Below.refl w.heap.size w)
  unfold P at H
  have N0_0o := N0_0.out
  have N0_1o := N0_1.out
  have N1_0o := N1_0.out
  have N1_1o := N1_1.out
  go_enter Try.func17, Try.ntmps17
  obtain ⟨w_a_0, hw_a_0⟩ : ∃ x, w.alloc (.cells #[.slice A0_0 a_sizes.length c0_0, .slice A0_1 a_bans.length c0_1] 30) = x := ⟨_, rfl⟩
  have bw_a_0 : Below w.heap.size w w_a_0 := by rw [← hw_a_0]; exact (Below.refl _ _).alloc (Nat.le_refl _) _
  have HBw_a_0 := Lib.hid (Below.step HB.out bw_a_0)
  clear bw_a_0
  have ka_0_0 : w_a_0.cell? ⟨w.heap.size, 0, none⟩ = some (.slice A0_0 a_sizes.length c0_0) := by rw [← hw_a_0]; exact box_new _ _ _ 0 _ rfl
  have ka_0_1 : w_a_0.cell? ⟨w.heap.size, 1, none⟩ = some (.slice A0_1 a_bans.length c0_1) := by rw [← hw_a_0]; exact box_new _ _ _ 1 _ rfl
  obtain ⟨w_b_1, hw_b_1⟩ : ∃ x, w_a_0.alloc (.cells #[.slice A1_0 b_sizes.length c1_0, .slice A1_1 b_bans.length c1_1] 30) = x := ⟨_, rfl⟩
  have bw_b_1 : Below w_a_0.heap.size w_a_0 w_b_1 := by rw [← hw_b_1]; exact (Below.refl _ _).alloc (Nat.le_refl _) _
  have HBw_b_1 := Lib.hid (Below.step HBw_a_0.out bw_b_1)
  have ka_0_0__168 := cell_below bw_b_1 ka_0_0
  have ka_0_1__169 := cell_below bw_b_1 ka_0_1
  clear bw_b_1
  have kb_1_0 : w_b_1.cell? ⟨w_a_0.heap.size, 0, none⟩ = some (.slice A1_0 b_sizes.length c1_0) := by rw [← hw_b_1]; exact box_new _ _ _ 0 _ rfl
  have kb_1_1 : w_b_1.cell? ⟨w_a_0.heap.size, 1, none⟩ = some (.slice A1_1 b_bans.length c1_1) := by rw [← hw_b_1]; exact box_new _ _ _ 1 _ rfl
  replace H := bind_hid H
  obtain ⟨t_7, qt_7, H⟩ := H
  go_wp2_with fail
  clear ka_0_0 ka_0_1
  go_at_call 21
  refine (Go.Proofs.Ytekacbjnpeglhaa.GlEqIntS.C (a_sizes) (b_sizes) A0_0 c0_0 A1_0 c1_0 _   (Lib.hid (Cells.below M0_0.out HBw_b_1.out)) N0_0 (Lib.hid (Cells.below M1_0.out HBw_b_1.out)) N1_0 qt_7).mono ?_
  rintro e_t_7 wt_7 ⟨rfl, bt_7⟩
  have HBwt_7 := Lib.hid (Below.step HBw_b_1.out bt_7)
  replace ka_0_0__168 := cell_below bt_7 ka_0_0__168
  replace ka_0_1__169 := cell_below bt_7 ka_0_1__169
  replace kb_1_0 := cell_below bt_7 kb_1_0
  replace kb_1_1 := cell_below bt_7 kb_1_1
  clear bt_7
  cases t_7 with
  | false =>
    replace H := let_hid H
    obtain ⟨t_8, ht_8, H⟩ := H
    obtain rfl : t_8 = true := ht_8.symm
    replace H := ite_t H
    obtain rfl := ret_hid H
    go_wp2_with fail
    go_ret
    exact ⟨rfl, HBwt_7.out⟩
  | true =>
    replace H := let_hid H
    obtain ⟨t_8, ht_8, H⟩ := H
    obtain rfl : t_8 = false := ht_8.symm
    replace H := ite_f H
    replace H := bind_hid H
    obtain ⟨t_14, qt_14, H⟩ := H
    go_wp2_with fail
    go_at_call 58
    refine (Go.Proofs.Ytekacbjnpeglhaa.GlEqBanS.C (a_bans) (b_bans) A0_1 c0_1 A1_1 c1_1 _   (Lib.hid (Cells.below M0_1.out HBwt_7.out)) N0_1 (Lib.hid (Cells.below M1_1.out HBwt_7.out)) N1_1 qt_14).mono ?_
    rintro e_t_14 wt_14 ⟨rfl, bt_14⟩
    have HBwt_14 := Lib.hid (Below.step HBwt_7.out bt_14)
    replace ka_0_0__168 := cell_below bt_14 ka_0_0__168
    replace ka_0_1__169 := cell_below bt_14 ka_0_1__169
    replace kb_1_0 := cell_below bt_14 kb_1_0
    replace kb_1_1 := cell_below bt_14 kb_1_1
    clear bt_14
    cases t_14 with
    | false =>
      replace H := let_hid H
      obtain ⟨t_15, ht_15, H⟩ := H
      obtain rfl : t_15 = true := ht_15.symm
      replace H := ite_t H
      obtain rfl := ret_hid H
      go_wp2_with fail
      go_ret
      exact ⟨rfl, HBwt_14.out⟩
    | true =>
      replace H := let_hid H
      obtain ⟨t_15, ht_15, H⟩ := H
      obtain rfl : t_15 = false := ht_15.symm
      replace H := ite_f H
      obtain rfl := ret_hid H
      go_wp2_with fail
      go_ret
      exact ⟨rfl, HBwt_14.out⟩
end Go.Proofs.Ytekacbjnpeglhaa.GlEqKindTable

/- loop.example/g01062/laws.markIntS as a plain function, and the contract of the program's: where the plain one has an answer, the program has it. Conditions: slices read as lists. -/
namespace Go.Proofs.Ytekacbjnpeglhaa.GlMarkIntS
set_option linter.unusedVariables false
set_option linter.unusedSimpArgs false
open Go.RowKit
open Go.Proofs.Ytekacbjnpeglhaa.Rowed Go.Proofs.Ytekacbjnpeglhaa.Turn Go.Proofs.Ytekacbjnpeglhaa.Aid Go.Proofs.Ytekacbjnpeglhaa.GoP Go.Proofs.Ytekacbjnpeglhaa.GoM

def l0  (k0 : Nat) (s : (List Int) × Int) (nx0 bk0 : (List Int) × Int → Option (Int × (List Int))) : Option (Int × (List Int)) :=
  unp2 s fun a_0l0 k_1l0 =>
  Option.bind (idx a_0l0 (k0 : Int)) fun (yt_9 : Int) =>
  letK (a_0l0.set k0 k_1l0) fun (l10_10 : (List Int)) =>
  letK (IntKind.i64.wrap (k_1l0 + 1)) fun (t_12 : Int) =>
  appK nx0 (l10_10, t_12)

def e0  (s : (List Int) × Int) : Option (Int × (List Int)) :=
  unp2 s fun a_0l0 k_1l0 =>
  some (k_1l0, a_0l0)

def P (a : (List Int)) (k_1 : Int) : Option (Int × (List Int)) :=
  cntK (l0 ) (a.length) 0 (a, k_1) (e0 )

set_option maxRecDepth 100000 in
set_option maxHeartbeats 2000000 in
theorem C (a : (List Int)) (k_1 : Int) (A0 : Option Addr) (c0 : Nat)  (b0 : Nat) (w : World) (M0 : Hid (w.ownsRow b0 3 1 (.slice A0 a.length c0) a.length (Go.Proofs.Ytekacbjnpeglhaa.HelpInt.iv a))) (N0 : Hid (a.length ≤ 9223372036854775807))  {r : Int} {l_ : (List Int)} (H : Hid (P a k_1 = some (r, l_))) :
    Calls Try.prog 27 #[.slice A0 a.length c0, .int .i64 k_1] w (fun e w' => e = .returned (.int .i64 r) ∧ w'.ownsRow b0 3 1 (.slice A0 a.length c0) a.length (Go.Proofs.Ytekacbjnpeglhaa.HelpInt.iv l_) ∧ l_.length = a.length ∧ w.grownBy w' (Value.slice A0 a.length c0).ownBlock) := by
  have HB := Lib.hid (Aid.grown_refl w (Value.slice A0 a.length c0).ownBlock)
  unfold P at H
  have N0o := N0.out
  go_enter Try.func27, Try.ntmps27
  go_wp2_with fail
  have hb_0 : a.length ≤ 9223372036854775807 := own_max M0.out
  go_wp2_with fail
  go_loopg [5, 1] (a.length) (fun m_ v5_ v1_ wr => ∃ (k0 : Nat) (a_0l0 : (List Int)) (k_1l0 : Int), k0 + m_ = a.length ∧ v5_ = .int .i64 (k0 : Int) ∧ v1_ = .int .i64 k_1l0 ∧ Hid (cntK (l0 ) m_ k0 (a_0l0, k_1l0) (e0 ) = some (r, l_)) ∧ Hid (w.grownBy wr (Value.slice A0 a.length c0).ownBlock) ∧ Hid (wr.ownsRow b0 3 1 (.slice A0 a.length c0) a.length (Go.Proofs.Ytekacbjnpeglhaa.HelpInt.iv a_0l0)) ∧ Hid (a_0l0.length = a.length))
  case atStart => exact ⟨0, _, _, by omega, rfl, rfl, H, HB, M0, Lib.hid (rfl)⟩
  case round =>
    obtain ⟨k0, a_0l0, k_1l0, hkm0, rfl, rfl, H, HBwr0, Oa_0l0, hna_0l0⟩ := hrel
    rename World => wr0
    cases gk with
    | zero =>
      obtain rfl : k0 = a.length := by omega
      have hc0 : decide (((a.length : Nat) : Int) < ((a.length : Nat) : Int)) = false := by simp
      replace H := cnt_zero H
      unfold e0 at H
      replace H := unp2_hid H
      cases ret_hid H
      go_wp2_with fail
      go_ret
      exact ⟨rfl, Oa_0l0.out, hna_0l0.out, HBwr0.out⟩
    | succ m0 =>
      have hlt0 : k0 < a.length := by omega
      have hc0 : decide ((k0 : Int) < ((a.length : Nat) : Int)) = true := by simp; omega
      replace H := cnt_succ H
      unfold l0 at H
      replace H := unp2_hid H
      replace H := idx_hid H
      obtain ⟨nt_9, yt_9, et_9, lt_9, gt_9, H⟩ := H
      obtain rfl : k0 = nt_9 := by omega
      clear et_9
      have hqt_9 := hna_0l0.out
      obtain ⟨qt_9, Qt_9⟩ := own_some Oa_0l0.out (by omega)
      subst Qt_9
      obtain ⟨ab_t_9, ao_t_9, zt_9, At_9, z_t_9, ct_9_0⟩ := Go.Proofs.Ytekacbjnpeglhaa.HelpInt.Ints.at_ (own_cells Oa_0l0.out) (k := k0) (by omega)
      obtain rfl := Option.some.inj (gt_9.out.symm.trans z_t_9)
      simp only [Option.some.injEq, Addr.mk.injEq] at At_9
      obtain ⟨rfl, rfl, _⟩ := At_9
      clear z_t_9
      simp only [Nat.zero_add] at ct_9_0
      have b0t_9 : (0 : Int) ≤ (k0 : Int) := by omega
      have b1t_9 : (k0 : Int) < ((a.length : Nat) : Int) := by omega
      have b2t_9 : ((k0 : Int)).toNat = k0 := by omega
      clear hqt_9
      replace H := let_hid H
      obtain ⟨l10_10, hl10_10, H⟩ := H
      obtain ⟨wl10_10, hwl10_10⟩ : ∃ x, (wr0).setCell ⟨qt_9, k0, none⟩ (.int .i64 k_1l0) = x := ⟨_, rfl⟩
      have z0l10_10 := Oa_0l0.out.frozenAt (k0)
      have Sl10_10 := Lib.hid (own_stores [(k0, .int .i64 k_1l0)] Oa_0l0.out)
      have nl10_10 : Hid (l10_10.length = a.length) := Lib.hid (by rw [← hl10_10, List.length_set]; exact hna_0l0.out)
      have Pl10_10 : Hid (wl10_10.ownsRow b0 3 1 (.slice (some ⟨qt_9, 0, none⟩) a.length c0) a.length (Go.Proofs.Ytekacbjnpeglhaa.HelpInt.iv l10_10)) := Lib.hid (by have e_ : ([(k0, .int .i64 k_1l0)] : List (Nat × Value)).foldl (fun xs p => xs.set p.1 p.2) (Go.Proofs.Ytekacbjnpeglhaa.HelpInt.iv a_0l0) = (Go.Proofs.Ytekacbjnpeglhaa.HelpInt.iv l10_10) := (by rw [← hl10_10]; first | done | simp [Go.Proofs.Ytekacbjnpeglhaa.HelpInt.iv, List.map_set]); rw [← hwl10_10, ← e_]; exact Sl10_10.out.1)
      have Gl10_10 : Hid (wr0.grownBy wl10_10 (Value.slice (some ⟨qt_9, 0, none⟩) a.length c0).ownBlock) := Lib.hid (by rw [← hwl10_10]; exact Sl10_10.out.2)
      have HBwl10_10 := Lib.hid (Aid.grown_tr HBwr0.out Gl10_10.out)
      have hhl10_10 := Lib.hid hl10_10
      clear hl10_10 Sl10_10
      clear Oa_0l0 Gl10_10
      replace H := let_hid H
      obtain ⟨t_12, ht_12, H⟩ := H
      replace H := app_hid H
      go_wp2_with fail
      clear z0l10_10 ct_9_0
      go_roundg m0
      case measure => omega
      case rel => exact ⟨k0 + 1, _, _, by omega, by go_num, rfl, H, HBwl10_10, Pl10_10, Lib.hid (nl10_10.out)⟩
end Go.Proofs.Ytekacbjnpeglhaa.GlMarkIntS

/- loop.example/g01062/laws.markBanS as a plain function, and the contract of the program's: where the plain one has an answer, the program has it. Conditions: slices read as lists. -/
namespace Go.Proofs.Ytekacbjnpeglhaa.GlMarkBanS
set_option linter.unusedVariables false
set_option linter.unusedSimpArgs false
open Go.RowKit
open Go.Proofs.Ytekacbjnpeglhaa.Rowed Go.Proofs.Ytekacbjnpeglhaa.Turn Go.Proofs.Ytekacbjnpeglhaa.Aid Go.Proofs.Ytekacbjnpeglhaa.GoP Go.Proofs.Ytekacbjnpeglhaa.GoM

def l0  (k0 : Nat) (s : (List Go.Proofs.Ytekacbjnpeglhaa.PBan.Ban) × Int) (nx0 bk0 : (List Go.Proofs.Ytekacbjnpeglhaa.PBan.Ban) × Int → Option (Int × (List Go.Proofs.Ytekacbjnpeglhaa.PBan.Ban))) : Option (Int × (List Go.Proofs.Ytekacbjnpeglhaa.PBan.Ban)) :=
  unp2 s fun a_0l0 k_1l0 =>
  Option.bind (idx a_0l0 (k0 : Int)) fun (yt_9 : Go.Proofs.Ytekacbjnpeglhaa.PBan.Ban) =>
  unBan yt_9 fun (t_9_a : Int) (t_9_x : Int) (t_9_b : Int) (t_9_y : Int) =>
  letK (a_0l0.set k0 (Go.Proofs.Ytekacbjnpeglhaa.PBan.Ban.mk k_1l0 t_9_x t_9_b t_9_y)) fun (l11_11 : (List Go.Proofs.Ytekacbjnpeglhaa.PBan.Ban)) =>
  letK (IntKind.i64.wrap (k_1l0 + 1)) fun (t_13 : Int) =>
  Option.bind (idx l11_11 (k0 : Int)) fun (yt_18 : Go.Proofs.Ytekacbjnpeglhaa.PBan.Ban) =>
  unBan yt_18 fun (t_18_a : Int) (t_18_x : Int) (t_18_b : Int) (t_18_y : Int) =>
  letK (l11_11.set k0 (Go.Proofs.Ytekacbjnpeglhaa.PBan.Ban.mk t_18_a t_13 t_18_b t_18_y)) fun (l20_20 : (List Go.Proofs.Ytekacbjnpeglhaa.PBan.Ban)) =>
  letK (IntKind.i64.wrap (t_13 + 1)) fun (t_22 : Int) =>
  Option.bind (idx l20_20 (k0 : Int)) fun (yt_27 : Go.Proofs.Ytekacbjnpeglhaa.PBan.Ban) =>
  unBan yt_27 fun (t_27_a : Int) (t_27_x : Int) (t_27_b : Int) (t_27_y : Int) =>
  letK (l20_20.set k0 (Go.Proofs.Ytekacbjnpeglhaa.PBan.Ban.mk t_27_a t_27_x t_22 t_27_y)) fun (l29_29 : (List Go.Proofs.Ytekacbjnpeglhaa.PBan.Ban)) =>
  letK (IntKind.i64.wrap (t_22 + 1)) fun (t_31 : Int) =>
  Option.bind (idx l29_29 (k0 : Int)) fun (yt_36 : Go.Proofs.Ytekacbjnpeglhaa.PBan.Ban) =>
  unBan yt_36 fun (t_36_a : Int) (t_36_x : Int) (t_36_b : Int) (t_36_y : Int) =>
  letK (l29_29.set k0 (Go.Proofs.Ytekacbjnpeglhaa.PBan.Ban.mk t_36_a t_36_x t_36_b t_31)) fun (l38_38 : (List Go.Proofs.Ytekacbjnpeglhaa.PBan.Ban)) =>
  letK (IntKind.i64.wrap (t_31 + 1)) fun (t_40 : Int) =>
  appK nx0 (l38_38, t_40)

def e0  (s : (List Go.Proofs.Ytekacbjnpeglhaa.PBan.Ban) × Int) : Option (Int × (List Go.Proofs.Ytekacbjnpeglhaa.PBan.Ban)) :=
  unp2 s fun a_0l0 k_1l0 =>
  some (k_1l0, a_0l0)

def P (a : (List Go.Proofs.Ytekacbjnpeglhaa.PBan.Ban)) (k_1 : Int) : Option (Int × (List Go.Proofs.Ytekacbjnpeglhaa.PBan.Ban)) :=
  cntK (l0 ) (a.length) 0 (a, k_1) (e0 )

set_option maxRecDepth 100000 in
set_option maxHeartbeats 2000000 in
theorem C (a : (List Go.Proofs.Ytekacbjnpeglhaa.PBan.Ban)) (k_1 : Int) (A0 : Option Addr) (c0 : Nat)  (b0 : Nat) (w : World) (M0 : Hid (w.ownsRow b0 57 4 (.slice A0 a.length c0) a.length (Go.Proofs.Ytekacbjnpeglhaa.PBan.flat a))) (N0 : Hid (a.length ≤ 9223372036854775807))  {r : Int} {l_ : (List Go.Proofs.Ytekacbjnpeglhaa.PBan.Ban)} (H : Hid (P a k_1 = some (r, l_))) :
    Calls Try.prog 69 #[.slice A0 a.length c0, .int .i64 k_1] w (fun e w' => e = .returned (.int .i64 r) ∧ w'.ownsRow b0 57 4 (.slice A0 a.length c0) a.length (Go.Proofs.Ytekacbjnpeglhaa.PBan.flat l_) ∧ l_.length = a.length ∧ w.grownBy w' (Value.slice A0 a.length c0).ownBlock) := by
  have HB := Lib.hid (Aid.grown_refl w (Value.slice A0 a.length c0).ownBlock)
  unfold P at H
  have N0o := N0.out
  go_enter Try.func69, Try.ntmps69
  go_wp2_with fail
  have hb_0 : a.length ≤ 9223372036854775807 := own_max M0.out
  go_wp2_with fail
  go_loopg [5, 1] (a.length) (fun m_ v5_ v1_ wr => ∃ (k0 : Nat) (a_0l0 : (List Go.Proofs.Ytekacbjnpeglhaa.PBan.Ban)) (k_1l0 : Int), k0 + m_ = a.length ∧ v5_ = .int .i64 (k0 : Int) ∧ v1_ = .int .i64 k_1l0 ∧ Hid (cntK (l0 ) m_ k0 (a_0l0, k_1l0) (e0 ) = some (r, l_)) ∧ Hid (w.grownBy wr (Value.slice A0 a.length c0).ownBlock) ∧ Hid (wr.ownsRow b0 57 4 (.slice A0 a.length c0) a.length (Go.Proofs.Ytekacbjnpeglhaa.PBan.flat a_0l0)) ∧ Hid (a_0l0.length = a.length))
  case atStart => exact ⟨0, _, _, by omega, rfl, rfl, H, HB, M0, Lib.hid (rfl)⟩
  case round =>
    obtain ⟨k0, a_0l0, k_1l0, hkm0, rfl, rfl, H, HBwr0, Oa_0l0, hna_0l0⟩ := hrel
    rename World => wr0
    cases gk with
    | zero =>
      obtain rfl : k0 = a.length := by omega
      have hc0 : decide (((a.length : Nat) : Int) < ((a.length : Nat) : Int)) = false := by simp
      replace H := cnt_zero H
      unfold e0 at H
      replace H := unp2_hid H
      cases ret_hid H
      go_wp2_with fail
      go_ret
      exact ⟨rfl, Oa_0l0.out, hna_0l0.out, HBwr0.out⟩
    | succ m0 =>
      have hlt0 : k0 < a.length := by omega
      have hc0 : decide ((k0 : Int) < ((a.length : Nat) : Int)) = true := by simp; omega
      replace H := cnt_succ H
      unfold l0 at H
      replace H := unp2_hid H
      replace H := idx_hid H
      obtain ⟨nt_9, yt_9, et_9, lt_9, gt_9, H⟩ := H
      obtain rfl : k0 = nt_9 := by omega
      clear et_9
      obtain ⟨t_9_a, t_9_x, t_9_b, t_9_y⟩ := yt_9
      replace H := unBan_hid H
      have hqt_9 := hna_0l0.out
      obtain ⟨qt_9, Qt_9⟩ := own_some Oa_0l0.out (by omega)
      subst Qt_9
      obtain ⟨ab_t_9, ao_t_9, zt_9, At_9, z_t_9, ct_9_0, ct_9_1, ct_9_2, ct_9_3⟩ := Go.Proofs.Ytekacbjnpeglhaa.OBan.at_ (own_cells Oa_0l0.out) (k := k0) (by omega)
      obtain rfl := Option.some.inj (gt_9.out.symm.trans z_t_9)
      simp only [Option.some.injEq, Addr.mk.injEq] at At_9
      obtain ⟨rfl, rfl, _⟩ := At_9
      clear z_t_9
      simp only [Nat.zero_add] at ct_9_0 ct_9_1 ct_9_2 ct_9_3
      have b0t_9 : (0 : Int) ≤ (k0 : Int) := by omega
      have b1t_9 : (k0 : Int) < ((a.length : Nat) : Int) := by omega
      have b2t_9 : ((k0 : Int)).toNat = k0 := by omega
      clear hqt_9
      replace H := let_hid H
      obtain ⟨l11_11, hl11_11, H⟩ := H
      obtain ⟨wl11_11, hwl11_11⟩ : ∃ x, (wr0).setCell ⟨qt_9, k0 * 4, none⟩ (.int .i64 k_1l0) = x := ⟨_, rfl⟩
      have z0l11_11 := Oa_0l0.out.frozenAt (k0 * 4)
      have Sl11_11 := Lib.hid (own_stores [(k0 * 4, .int .i64 k_1l0)] Oa_0l0.out)
      have nl11_11 : Hid (l11_11.length = a.length) := Lib.hid (by rw [← hl11_11, List.length_set]; exact hna_0l0.out)
      have Pl11_11 : Hid (wl11_11.ownsRow b0 57 4 (.slice (some ⟨qt_9, 0, none⟩) a.length c0) a.length (Go.Proofs.Ytekacbjnpeglhaa.PBan.flat l11_11)) := Lib.hid (by have es_ := set_self gt_9.out; have e0_ := flat_set Go.Proofs.Ytekacbjnpeglhaa.PBan.Ban.cells 4 (fun _ => rfl) a_0l0 (k0) 0 (Go.Proofs.Ytekacbjnpeglhaa.PBan.Ban.mk t_9_a t_9_x t_9_b t_9_y) (Go.Proofs.Ytekacbjnpeglhaa.PBan.Ban.mk k_1l0 t_9_x t_9_b t_9_y) (.int .i64 k_1l0) lt_9 (by decide) rfl; rw [es_] at e0_; have e_ : ([(k0 * 4, .int .i64 k_1l0)] : List (Nat × Value)).foldl (fun xs p => xs.set p.1 p.2) (Go.Proofs.Ytekacbjnpeglhaa.PBan.flat a_0l0) = (Go.Proofs.Ytekacbjnpeglhaa.PBan.flat l11_11) := (by rw [← hl11_11]; show _ = List.flatMap Go.Proofs.Ytekacbjnpeglhaa.PBan.Ban.cells _; rw [← e0_]; first | done | rfl); rw [← hwl11_11, ← e_]; exact Sl11_11.out.1)
      have Gl11_11 : Hid (wr0.grownBy wl11_11 (Value.slice (some ⟨qt_9, 0, none⟩) a.length c0).ownBlock) := Lib.hid (by rw [← hwl11_11]; exact Sl11_11.out.2)
      have HBwl11_11 := Lib.hid (Aid.grown_tr HBwr0.out Gl11_11.out)
      have hhl11_11 := Lib.hid hl11_11
      clear hl11_11 Sl11_11
      clear Oa_0l0 Gl11_11
      replace H := let_hid H
      obtain ⟨t_13, ht_13, H⟩ := H
      replace H := idx_hid H
      obtain ⟨nt_18, yt_18, et_18, lt_18, gt_18, H⟩ := H
      obtain rfl : k0 = nt_18 := by omega
      clear et_18
      obtain ⟨t_18_a, t_18_x, t_18_b, t_18_y⟩ := yt_18
      replace H := unBan_hid H
      have hqt_18 := nl11_11.out
      obtain ⟨ab_t_18, ao_t_18, zt_18, At_18, z_t_18, ct_18_0, ct_18_1, ct_18_2, ct_18_3⟩ := Go.Proofs.Ytekacbjnpeglhaa.OBan.at_ (own_cells Pl11_11.out) (k := k0) (by omega)
      obtain rfl := Option.some.inj (gt_18.out.symm.trans z_t_18)
      simp only [Option.some.injEq, Addr.mk.injEq] at At_18
      obtain ⟨rfl, rfl, _⟩ := At_18
      clear z_t_18
      simp only [Nat.zero_add] at ct_18_0 ct_18_1 ct_18_2 ct_18_3
      have b0t_18 : (0 : Int) ≤ (k0 : Int) := by omega
      have b1t_18 : (k0 : Int) < ((a.length : Nat) : Int) := by omega
      have b2t_18 : ((k0 : Int)).toNat = k0 := by omega
      clear hqt_18
      replace H := let_hid H
      obtain ⟨l20_20, hl20_20, H⟩ := H
      obtain ⟨wl20_20, hwl20_20⟩ : ∃ x, (wl11_11).setCell ⟨qt_9, k0 * 4 + 1, none⟩ (.int .i64 t_13) = x := ⟨_, rfl⟩
      have z0l20_20 := Pl11_11.out.frozenAt (k0 * 4 + 1)
      have Sl20_20 := Lib.hid (own_stores [(k0 * 4 + 1, .int .i64 t_13)] Pl11_11.out)
      have nl20_20 : Hid (l20_20.length = a.length) := Lib.hid (by rw [← hl20_20, List.length_set]; exact nl11_11.out)
      have Pl20_20 : Hid (wl20_20.ownsRow b0 57 4 (.slice (some ⟨qt_9, 0, none⟩) a.length c0) a.length (Go.Proofs.Ytekacbjnpeglhaa.PBan.flat l20_20)) := Lib.hid (by have es_ := set_self gt_18.out; have e0_ := flat_set Go.Proofs.Ytekacbjnpeglhaa.PBan.Ban.cells 4 (fun _ => rfl) l11_11 (k0) 1 (Go.Proofs.Ytekacbjnpeglhaa.PBan.Ban.mk t_18_a t_18_x t_18_b t_18_y) (Go.Proofs.Ytekacbjnpeglhaa.PBan.Ban.mk t_18_a t_13 t_18_b t_18_y) (.int .i64 t_13) lt_18 (by decide) rfl; rw [es_] at e0_; have e_ : ([(k0 * 4 + 1, .int .i64 t_13)] : List (Nat × Value)).foldl (fun xs p => xs.set p.1 p.2) (Go.Proofs.Ytekacbjnpeglhaa.PBan.flat l11_11) = (Go.Proofs.Ytekacbjnpeglhaa.PBan.flat l20_20) := (by rw [← hl20_20]; show _ = List.flatMap Go.Proofs.Ytekacbjnpeglhaa.PBan.Ban.cells _; rw [← e0_]; first | done | rfl); rw [← hwl20_20, ← e_]; exact Sl20_20.out.1)
      have Gl20_20 : Hid (wl11_11.grownBy wl20_20 (Value.slice (some ⟨qt_9, 0, none⟩) a.length c0).ownBlock) := Lib.hid (by rw [← hwl20_20]; exact Sl20_20.out.2)
      have HBwl20_20 := Lib.hid (Aid.grown_tr HBwl11_11.out Gl20_20.out)
      have hhl20_20 := Lib.hid hl20_20
      clear hl20_20 Sl20_20
      clear Pl11_11 Gl20_20
      replace H := let_hid H
      obtain ⟨t_22, ht_22, H⟩ := H
      replace H := idx_hid H
      obtain ⟨nt_27, yt_27, et_27, lt_27, gt_27, H⟩ := H
      obtain rfl : k0 = nt_27 := by omega
      clear et_27
      obtain ⟨t_27_a, t_27_x, t_27_b, t_27_y⟩ := yt_27
      replace H := unBan_hid H
      have hqt_27 := nl20_20.out
      obtain ⟨ab_t_27, ao_t_27, zt_27, At_27, z_t_27, ct_27_0, ct_27_1, ct_27_2, ct_27_3⟩ := Go.Proofs.Ytekacbjnpeglhaa.OBan.at_ (own_cells Pl20_20.out) (k := k0) (by omega)
      obtain rfl := Option.some.inj (gt_27.out.symm.trans z_t_27)
      simp only [Option.some.injEq, Addr.mk.injEq] at At_27
      obtain ⟨rfl, rfl, _⟩ := At_27
      clear z_t_27
      simp only [Nat.zero_add] at ct_27_0 ct_27_1 ct_27_2 ct_27_3
      have b0t_27 : (0 : Int) ≤ (k0 : Int) := by omega
      have b1t_27 : (k0 : Int) < ((a.length : Nat) : Int) := by omega
      have b2t_27 : ((k0 : Int)).toNat = k0 := by omega
      clear hqt_27
      replace H := let_hid H
      obtain ⟨l29_29, hl29_29, H⟩ := H
      obtain ⟨wl29_29, hwl29_29⟩ : ∃ x, (wl20_20).setCell ⟨qt_9, k0 * 4 + 2, none⟩ (.int .i64 t_22) = x := ⟨_, rfl⟩
      have z0l29_29 := Pl20_20.out.frozenAt (k0 * 4 + 2)
      have Sl29_29 := Lib.hid (own_stores [(k0 * 4 + 2, .int .i64 t_22)] Pl20_20.out)
      have nl29_29 : Hid (l29_29.length = a.length) := Lib.hid (by rw [← hl29_29, List.length_set]; exact nl20_20.out)
      have Pl29_29 : Hid (wl29_29.ownsRow b0 57 4 (.slice (some ⟨qt_9, 0, none⟩) a.length c0) a.length (Go.Proofs.Ytekacbjnpeglhaa.PBan.flat l29_29)) := Lib.hid (by have es_ := set_self gt_27.out; have e0_ := flat_set Go.Proofs.Ytekacbjnpeglhaa.PBan.Ban.cells 4 (fun _ => rfl) l20_20 (k0) 2 (Go.Proofs.Ytekacbjnpeglhaa.PBan.Ban.mk t_27_a t_27_x t_27_b t_27_y) (Go.Proofs.Ytekacbjnpeglhaa.PBan.Ban.mk t_27_a t_27_x t_22 t_27_y) (.int .i64 t_22) lt_27 (by decide) rfl; rw [es_] at e0_; have e_ : ([(k0 * 4 + 2, .int .i64 t_22)] : List (Nat × Value)).foldl (fun xs p => xs.set p.1 p.2) (Go.Proofs.Ytekacbjnpeglhaa.PBan.flat l20_20) = (Go.Proofs.Ytekacbjnpeglhaa.PBan.flat l29_29) := (by rw [← hl29_29]; show _ = List.flatMap Go.Proofs.Ytekacbjnpeglhaa.PBan.Ban.cells _; rw [← e0_]; first | done | rfl); rw [← hwl29_29, ← e_]; exact Sl29_29.out.1)
      have Gl29_29 : Hid (wl20_20.grownBy wl29_29 (Value.slice (some ⟨qt_9, 0, none⟩) a.length c0).ownBlock) := Lib.hid (by rw [← hwl29_29]; exact Sl29_29.out.2)
      have HBwl29_29 := Lib.hid (Aid.grown_tr HBwl20_20.out Gl29_29.out)
      have hhl29_29 := Lib.hid hl29_29
      clear hl29_29 Sl29_29
      clear Pl20_20 Gl29_29
      replace H := let_hid H
      obtain ⟨t_31, ht_31, H⟩ := H
      replace H := idx_hid H
      obtain ⟨nt_36, yt_36, et_36, lt_36, gt_36, H⟩ := H
      obtain rfl : k0 = nt_36 := by omega
      clear et_36
      obtain ⟨t_36_a, t_36_x, t_36_b, t_36_y⟩ := yt_36
      replace H := unBan_hid H
      have hqt_36 := nl29_29.out
      obtain ⟨ab_t_36, ao_t_36, zt_36, At_36, z_t_36, ct_36_0, ct_36_1, ct_36_2, ct_36_3⟩ := Go.Proofs.Ytekacbjnpeglhaa.OBan.at_ (own_cells Pl29_29.out) (k := k0) (by omega)
      obtain rfl := Option.some.inj (gt_36.out.symm.trans z_t_36)
      simp only [Option.some.injEq, Addr.mk.injEq] at At_36
      obtain ⟨rfl, rfl, _⟩ := At_36
      clear z_t_36
      simp only [Nat.zero_add] at ct_36_0 ct_36_1 ct_36_2 ct_36_3
      have b0t_36 : (0 : Int) ≤ (k0 : Int) := by omega
      have b1t_36 : (k0 : Int) < ((a.length : Nat) : Int) := by omega
      have b2t_36 : ((k0 : Int)).toNat = k0 := by omega
      clear hqt_36
      replace H := let_hid H
      obtain ⟨l38_38, hl38_38, H⟩ := H
      obtain ⟨wl38_38, hwl38_38⟩ : ∃ x, (wl29_29).setCell ⟨qt_9, k0 * 4 + 3, none⟩ (.int .i64 t_31) = x := ⟨_, rfl⟩
      have z0l38_38 := Pl29_29.out.frozenAt (k0 * 4 + 3)
      have Sl38_38 := Lib.hid (own_stores [(k0 * 4 + 3, .int .i64 t_31)] Pl29_29.out)
      have nl38_38 : Hid (l38_38.length = a.length) := Lib.hid (by rw [← hl38_38, List.length_set]; exact nl29_29.out)
      have Pl38_38 : Hid (wl38_38.ownsRow b0 57 4 (.slice (some ⟨qt_9, 0, none⟩) a.length c0) a.length (Go.Proofs.Ytekacbjnpeglhaa.PBan.flat l38_38)) := Lib.hid (by have es_ := set_self gt_36.out; have e0_ := flat_set Go.Proofs.Ytekacbjnpeglhaa.PBan.Ban.cells 4 (fun _ => rfl) l29_29 (k0) 3 (Go.Proofs.Ytekacbjnpeglhaa.PBan.Ban.mk t_36_a t_36_x t_36_b t_36_y) (Go.Proofs.Ytekacbjnpeglhaa.PBan.Ban.mk t_36_a t_36_x t_36_b t_31) (.int .i64 t_31) lt_36 (by decide) rfl; rw [es_] at e0_; have e_ : ([(k0 * 4 + 3, .int .i64 t_31)] : List (Nat × Value)).foldl (fun xs p => xs.set p.1 p.2) (Go.Proofs.Ytekacbjnpeglhaa.PBan.flat l29_29) = (Go.Proofs.Ytekacbjnpeglhaa.PBan.flat l38_38) := (by rw [← hl38_38]; show _ = List.flatMap Go.Proofs.Ytekacbjnpeglhaa.PBan.Ban.cells _; rw [← e0_]; first | done | rfl); rw [← hwl38_38, ← e_]; exact Sl38_38.out.1)
      have Gl38_38 : Hid (wl29_29.grownBy wl38_38 (Value.slice (some ⟨qt_9, 0, none⟩) a.length c0).ownBlock) := Lib.hid (by rw [← hwl38_38]; exact Sl38_38.out.2)
      have HBwl38_38 := Lib.hid (Aid.grown_tr HBwl29_29.out Gl38_38.out)
      have hhl38_38 := Lib.hid hl38_38
      clear hl38_38 Sl38_38
      clear Pl29_29 Gl38_38
      replace H := let_hid H
      obtain ⟨t_40, ht_40, H⟩ := H
      replace H := app_hid H
      go_wp2_with fail
      clear z0l11_11 ct_9_0 ct_9_1 ct_9_2 ct_9_3 z0l20_20 ct_18_0 ct_18_1 ct_18_2 ct_18_3 z0l29_29 ct_27_0 ct_27_1 ct_27_2 ct_27_3 z0l38_38 ct_36_0 ct_36_1 ct_36_2 ct_36_3
      go_roundg m0
      case measure => omega
      case rel => exact ⟨k0 + 1, _, _, by omega, by go_num, rfl, H, HBwl38_38, Pl38_38, Lib.hid (nl38_38.out)⟩
end Go.Proofs.Ytekacbjnpeglhaa.GlMarkBanS

/- loop.example/g01062/laws.markKindTable as a plain function, and the contract of the program's: where the plain one has an answer, the program has it. Conditions: slices read as lists. -/
namespace Go.Proofs.Ytekacbjnpeglhaa.GlMarkKindTable
set_option linter.unusedVariables false
set_option linter.unusedSimpArgs false
open Go.RowKit
open Go.Proofs.Ytekacbjnpeglhaa.Rowed Go.Proofs.Ytekacbjnpeglhaa.Turn Go.Proofs.Ytekacbjnpeglhaa.Aid Go.Proofs.Ytekacbjnpeglhaa.GoP Go.Proofs.Ytekacbjnpeglhaa.GoM

def P (a_sizes : (List Int)) (a_bans : (List Go.Proofs.Ytekacbjnpeglhaa.PBan.Ban)) (k_1 : Int) : Option (Int × (List Int) × (List Go.Proofs.Ytekacbjnpeglhaa.PBan.Ban)) :=
  bind2 (Go.Proofs.Ytekacbjnpeglhaa.GlMarkIntS.P a_sizes k_1) fun (t_5 : Int) (lt_5 : (List Int)) =>
  bind2 (Go.Proofs.Ytekacbjnpeglhaa.GlMarkBanS.P a_bans t_5) fun (t_10 : Int) (lt_10 : (List Go.Proofs.Ytekacbjnpeglhaa.PBan.Ban)) =>
  some (t_10, lt_5, lt_10)

set_option maxRecDepth 100000 in
set_option maxHeartbeats 2000000 in
theorem C (a_sizes : (List Int)) (a_bans : (List Go.Proofs.Ytekacbjnpeglhaa.PBan.Ban)) (k_1 : Int) (A0_0 : Option Addr) (c0_0 : Nat) (A0_1 : Option Addr) (c0_1 : Nat)  (b0 : Nat) (w : World) (M0_0 : Hid (w.ownsRow b0 3 1 (.slice A0_0 a_sizes.length c0_0) a_sizes.length (Go.Proofs.Ytekacbjnpeglhaa.HelpInt.iv a_sizes))) (N0_0 : Hid (a_sizes.length ≤ 9223372036854775807)) (M0_1 : Hid (w.ownsRow b0 57 4 (.slice A0_1 a_bans.length c0_1) a_bans.length (Go.Proofs.Ytekacbjnpeglhaa.PBan.flat a_bans))) (N0_1 : Hid (a_bans.length ≤ 9223372036854775807))  (DA : Hid (Apart A0_0 A0_1)) {r : Int} {l_ : (List Int)} {m_ : (List Go.Proofs.Ytekacbjnpeglhaa.PBan.Ban)} (H : Hid (P a_sizes a_bans k_1 = some (r, l_, m_))) :
    Calls Try.prog 26 #[.agg #[.slice A0_0 a_sizes.length c0_0, .slice A0_1 a_bans.length c0_1], .int .i64 k_1] w (fun e w' => e = .returned (.int .i64 r) ∧ w'.ownsRow b0 3 1 (.slice A0_0 a_sizes.length c0_0) a_sizes.length (Go.Proofs.Ytekacbjnpeglhaa.HelpInt.iv l_) ∧ l_.length = a_sizes.length ∧ w'.ownsRow b0 57 4 (.slice A0_1 a_bans.length c0_1) a_bans.length (Go.Proofs.Ytekacbjnpeglhaa.PBan.flat m_) ∧ m_.length = a_bans.length ∧ Grown2 w w' A0_0 A0_1) := by
  have HB := Lib.hid (grown2_refl w A0_0 A0_1)
  unfold P at H
  have N0_0o := N0_0.out
  have N0_1o := N0_1.out
  go_enter Try.func26, Try.ntmps26
  obtain ⟨w_a_0, hw_a_0⟩ : ∃ x, w.alloc (.cells #[.slice A0_0 a_sizes.length c0_0, .slice A0_1 a_bans.length c0_1] 30) = x := ⟨_, rfl⟩
  have bw_a_0 : Below w.heap.size w w_a_0 := by rw [← hw_a_0]; exact (Below.refl _ _).alloc (Nat.le_refl _) _
  have Da_0_io0_0 := Lib.hid (apart_fresh M0_0.out)
  have Da_0_io0_1 := Lib.hid (apart_fresh M0_1.out)
  have HBw_a_0 := Lib.hid (grown2_below HB.out bw_a_0)
  replace M0_0 := Lib.hid (own_below M0_0.out bw_a_0)
  replace M0_1 := Lib.hid (own_below M0_1.out bw_a_0)
  clear bw_a_0
  have ka_0_0 : w_a_0.cell? ⟨w.heap.size, 0, none⟩ = some (.slice A0_0 a_sizes.length c0_0) := by rw [← hw_a_0]; exact box_new _ _ _ 0 _ rfl
  have ka_0_1 : w_a_0.cell? ⟨w.heap.size, 1, none⟩ = some (.slice A0_1 a_bans.length c0_1) := by rw [← hw_a_0]; exact box_new _ _ _ 1 _ rfl
  replace H := bind2_hid H
  obtain ⟨t_5, lt_5, qt_5, H⟩ := H
  go_wp2_with fail
  go_at_call 27
  refine (Go.Proofs.Ytekacbjnpeglhaa.GlMarkIntS.C (a_sizes) (k_1) A0_0 c0_0 b0 _   M0_0 (Lib.hid (own_max M0_0.out))   qt_5).mono ?_
  rintro e_t_5 wt_5 ⟨rfl, ot_5, nt_5, gt_5⟩
  have Pt_5 := Lib.hid ot_5
  have Gt_5 := Lib.hid gt_5
  replace nt_5 := Lib.hid nt_5
  clear ot_5 gt_5
  have HBwt_5 := Lib.hid (grown2_l HBw_a_0.out Gt_5.out)
  replace ka_0_0 := cell_other ka_0_0 Gt_5.out (Apart.symm Da_0_io0_0.out)
  replace ka_0_1 := cell_other ka_0_1 Gt_5.out (Apart.symm Da_0_io0_0.out)
  replace M0_1 := Lib.hid (own_other M0_1.out Gt_5.out DA.out)
  clear M0_0 Gt_5
  replace H := bind2_hid H
  obtain ⟨t_10, lt_10, qt_10, H⟩ := H
  go_wp2_with fail
  go_at_call 69
  refine (Go.Proofs.Ytekacbjnpeglhaa.GlMarkBanS.C (a_bans) (t_5) A0_1 c0_1 b0 _   M0_1 (Lib.hid (own_max M0_1.out))   qt_10).mono ?_
  rintro e_t_10 wt_10 ⟨rfl, ot_10, nt_10, gt_10⟩
  have Pt_10 := Lib.hid ot_10
  have Gt_10 := Lib.hid gt_10
  replace nt_10 := Lib.hid nt_10
  clear ot_10 gt_10
  have HBwt_10 := Lib.hid (grown2_r HBwt_5.out Gt_10.out)
  replace ka_0_0 := cell_other ka_0_0 Gt_10.out (Apart.symm Da_0_io0_1.out)
  replace ka_0_1 := cell_other ka_0_1 Gt_10.out (Apart.symm Da_0_io0_1.out)
  replace Pt_5 := Lib.hid (own_other Pt_5.out Gt_10.out (Apart.symm DA.out))
  clear M0_1 Gt_10
  cases ret_hid H
  go_wp2_with fail
  go_ret
  exact ⟨rfl, Pt_5.out, nt_5.out, Pt_10.out, nt_10.out, HBwt_10.out⟩
end Go.Proofs.Ytekacbjnpeglhaa.GlMarkKindTable

/- loop.example/g01062/laws.heldIntS as a plain function, and the contract of the program's: where the plain one has an answer, the program has it. Conditions: slices read as lists. -/
namespace Go.Proofs.Ytekacbjnpeglhaa.GlHeldIntS
set_option linter.unusedVariables false
set_option linter.unusedSimpArgs false
open Go.RowKit
open Go.Proofs.Ytekacbjnpeglhaa.Rowed Go.Proofs.Ytekacbjnpeglhaa.Turn Go.Proofs.Ytekacbjnpeglhaa.Aid Go.Proofs.Ytekacbjnpeglhaa.GoP Go.Proofs.Ytekacbjnpeglhaa.GoM

def l0 (a : (List Int)) (k0 : Nat) (s : Int) (nx0 bk0 : Int → Option (Int)) : Option (Int) :=
  letK s fun k_1l0 =>
  Option.bind (idx a (k0 : Int)) fun (yt_8 : Int) =>
  letK (yt_8 != k_1l0) fun (t_11 : Bool) =>
  iteK t_11
  (some (-1))
  (letK (IntKind.i64.wrap (k_1l0 + 1)) fun (t_14 : Int) =>
  appK nx0 (t_14))

def e0  (s : Int) : Option (Int) :=
  letK s fun k_1l0 =>
  some k_1l0

def P (a : (List Int)) (k_1 : Int) : Option (Int) :=
  cntK (l0 a) (a.length) 0 (k_1) (e0 )

set_option maxRecDepth 100000 in
set_option maxHeartbeats 2000000 in
theorem C (a : (List Int)) (k_1 : Int) (A0 : Option Addr) (c0 : Nat)  (w : World) (M0 : Hid (Cells w 1 A0 a.length (Go.Proofs.Ytekacbjnpeglhaa.HelpInt.iv a))) (N0 : Hid (a.length ≤ 9223372036854775807))  {r : Int} (H : Hid (P a k_1 = some r)) :
    Calls Try.prog 28 #[.slice A0 a.length c0, .int .i64 k_1] w (Gives (.int .i64 r) w) := by
  have HB := Lib.hid (Below.refl w.heap.size w)
  unfold P at H
  have N0o := N0.out
  go_enter Try.func28, Try.ntmps28
  go_wp2_with fail
  go_loopg [5, 1] (a.length) (fun m_ v5_ v1_ wr => ∃ (k0 : Nat) (k_1l0 : Int), k0 + m_ = a.length ∧ v5_ = .int .i64 (k0 : Int) ∧ v1_ = .int .i64 k_1l0 ∧ Hid (cntK (l0 a) m_ k0 (k_1l0) (e0 ) = some r) ∧ Hid (Below w.heap.size w wr))
  case atStart => exact ⟨0, _, by omega, rfl, rfl, H, HB⟩
  case round =>
    obtain ⟨k0, k_1l0, hkm0, rfl, rfl, H, HBwr0⟩ := hrel
    rename World => wr0
    cases gk with
    | zero =>
      obtain rfl : k0 = a.length := by omega
      have hc0 : decide (((a.length : Nat) : Int) < ((a.length : Nat) : Int)) = false := by simp
      replace H := cnt_zero H
      unfold e0 at H
      replace H := let_hid H
      obtain ⟨_, rfl, H⟩ := H
      obtain rfl := ret_hid H
      go_wp2_with fail
      go_ret
      exact ⟨rfl, HBwr0.out⟩
    | succ m0 =>
      have hlt0 : k0 < a.length := by omega
      have hc0 : decide ((k0 : Int) < ((a.length : Nat) : Int)) = true := by simp; omega
      replace H := cnt_succ H
      unfold l0 at H
      replace H := let_hid H
      obtain ⟨_, rfl, H⟩ := H
      replace H := idx_hid H
      obtain ⟨nt_8, yt_8, et_8, lt_8, gt_8, H⟩ := H
      obtain rfl : k0 = nt_8 := by omega
      clear et_8
      obtain ⟨ab_t_8, ao_t_8, zt_8, At_8, z_t_8, ct_8_0⟩ := Go.Proofs.Ytekacbjnpeglhaa.HelpInt.Ints.at_ M0.out lt_8
      obtain rfl := Option.some.inj (gt_8.out.symm.trans z_t_8)
      subst At_8
      have ltt_8 := cell_lt ct_8_0
      replace ct_8_0 := cell_below HBwr0.out ct_8_0
      clear z_t_8
      have b0t_8 : (0 : Int) ≤ (k0 : Int) := by omega
      have b1t_8 : (k0 : Int) < ((a.length : Nat) : Int) := by omega
      have b2t_8 : ((k0 : Int)).toNat = k0 := by omega
      replace H := let_hid H
      obtain ⟨t_11, ht_11, H⟩ := H
      cases t_11 with
      | false =>
        replace H := ite_f H
        replace H := let_hid H
        obtain ⟨t_14, ht_14, H⟩ := H
        replace H := app_hid H
        go_wp2_with fail
        go_roundg m0
        case measure => omega
        case rel => exact ⟨k0 + 1, _, by omega, by go_num, rfl, H, HBwr0⟩
      | true =>
        replace H := ite_t H
        obtain rfl := ret_hid H
        go_wp2_with fail
        go_ret
        exact ⟨rfl, HBwr0.out⟩
end Go.Proofs.Ytekacbjnpeglhaa.GlHeldIntS

