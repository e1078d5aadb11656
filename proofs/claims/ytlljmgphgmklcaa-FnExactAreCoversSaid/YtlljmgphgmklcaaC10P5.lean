/- Texts on which the proofs of several laws stand, one behind the other (5 of 21). No condition of their own. -/
import Derived.Test.YtlljmgphgmklcaaChecked
import Derived.Test.YtlljmgphgmklcaaC10P1
import Derived.Test.YtlljmgphgmklcaaC10P4
import Derived.Test.YtlljmgphgmklcaaC10P2
import Derived.WalkKit
import Derived.WalkSpells
import Derived.WalkLawsBesides
import Derived.BigQuiet
import Derived.OwnWalk
import Derived.Deep.LoopGhost
import Derived.Deep.QuietTactic
import Derived.IntWalk
import Derived.Lib.QuietBelow
import Derived.Deep.RegionHeld3
import Derived.Test.YtlljmgphgmklcaaC10P3
import Derived.Deep.Slices
import Derived.Deep.Fields
import Derived.ChangeSame
import Derived.Lib.LaidU8
/- loop.example/g01062/spec.l9One as a plain function, and the contract of the program's: where the plain one has an answer, the program has it. Conditions: slices read as lists. -/
namespace Go.Proofs.Ytlljmgphgmklcaa.GsL9One
set_option linter.unusedVariables false
set_option linter.unusedSimpArgs false
open Go.RowKit
open Go.Proofs.Ytlljmgphgmklcaa.Rowed Go.Proofs.Ytlljmgphgmklcaa.Turn Go.Proofs.Ytlljmgphgmklcaa.Aid Go.Proofs.Ytlljmgphgmklcaa.GoP Go.Proofs.Ytlljmgphgmklcaa.GoM

def P (x : Go.Proofs.Ytlljmgphgmklcaa.PMail.Mail) : Option (Bool) :=
  unMail x fun (x_leave : Int) (x_from_ : Int) (x_to_ : Int) (x_arrive : Int) =>
  Option.bind (Go.Proofs.Ytlljmgphgmklcaa.GsL9Office.P x_from_) fun (t_4 : Bool) =>
  joinK (fun (t_9 : Bool) =>
  joinK (fun (t_16 : Bool) =>
  joinK (fun (t_21 : Bool) =>
  joinK (fun (t_29 : Bool) =>
  some t_29) fun jt_29 => iteK t_21 (letK (IntKind.i64.wrap (x_arrive - 1)) fun (t_27 : Int) =>
  Option.bind (Go.Proofs.Ytlljmgphgmklcaa.GsL1In.P x_leave 0 t_27) fun (t_28 : Bool) =>
  appK jt_29 t_28) (appK jt_29 false)) fun jt_21 => iteK t_16 (Option.bind (Go.Proofs.Ytlljmgphgmklcaa.GsL9Minute.P x_arrive) fun (t_20 : Bool) =>
  appK jt_21 t_20) (appK jt_21 false)) fun jt_16 => iteK t_9 (letK (x_from_ != x_to_) fun (t_15 : Bool) =>
  appK jt_16 t_15) (appK jt_16 false)) fun jt_9 => iteK t_4 (Option.bind (Go.Proofs.Ytlljmgphgmklcaa.GsL9Office.P x_to_) fun (t_8 : Bool) =>
  appK jt_9 t_8) (appK jt_9 false)

set_option maxRecDepth 100000 in
set_option maxHeartbeats 2000000 in
theorem C (x : Go.Proofs.Ytlljmgphgmklcaa.PMail.Mail)   (w : World)   {r : Bool} (H : Hid (P x = some r)) :
    Calls Try.prog 143 #[x.val] w (Gives (.bool r) w) := by
  have HB := Lib.hid (Below.refl w.heap.size w)
  unfold P at H
  obtain ⟨x_leave, x_from_, x_to_, x_arrive⟩ := x
  replace H := unMail_hid H
  unfold Go.Proofs.Ytlljmgphgmklcaa.PMail.Mail.val
  go_enter Try.func143, Try.ntmps143
  obtain ⟨w_x_0, hw_x_0⟩ : ∃ x, w.alloc (.cells #[.int .i64 x_leave, .int .i64 x_from_, .int .i64 x_to_, .int .i64 x_arrive] 108) = x := ⟨_, rfl⟩
  have bw_x_0 : Below w.heap.size w w_x_0 := by rw [← hw_x_0]; exact (Below.refl _ _).alloc (Nat.le_refl _) _
  have HBw_x_0 := Lib.hid (Below.step HB.out bw_x_0)
  clear bw_x_0
  have kx_0_0 : w_x_0.cell? ⟨w.heap.size, 0, none⟩ = some (.int .i64 x_leave) := by rw [← hw_x_0]; exact box_new _ _ _ 0 _ rfl
  have kx_0_1 : w_x_0.cell? ⟨w.heap.size, 1, none⟩ = some (.int .i64 x_from_) := by rw [← hw_x_0]; exact box_new _ _ _ 1 _ rfl
  have kx_0_2 : w_x_0.cell? ⟨w.heap.size, 2, none⟩ = some (.int .i64 x_to_) := by rw [← hw_x_0]; exact box_new _ _ _ 2 _ rfl
  have kx_0_3 : w_x_0.cell? ⟨w.heap.size, 3, none⟩ = some (.int .i64 x_arrive) := by rw [← hw_x_0]; exact box_new _ _ _ 3 _ rfl
  replace H := bind_hid H
  obtain ⟨t_4, qt_4, H⟩ := H
  go_wp2_with fail
  go_at_call 109
  refine (Go.Proofs.Ytlljmgphgmklcaa.GsL9Office.C (x_from_)  _    qt_4).mono ?_
  rintro e_t_4 wt_4 ⟨rfl, bt_4⟩
  have HBwt_4 := Lib.hid (Below.step HBw_x_0.out bt_4)
  replace kx_0_0 := cell_below bt_4 kx_0_0
  replace kx_0_1 := cell_below bt_4 kx_0_1
  replace kx_0_2 := cell_below bt_4 kx_0_2
  replace kx_0_3 := cell_below bt_4 kx_0_3
  clear bt_4
  replace H := join_hid H
  cases t_4 with
  | false =>
    replace H := ite_f H
    replace H := app_hid H
    replace H := join_hid H
    replace H := ite_f H
    replace H := app_hid H
    replace H := join_hid H
    replace H := ite_f H
    replace H := app_hid H
    replace H := join_hid H
    replace H := ite_f H
    replace H := app_hid H
    obtain rfl := ret_hid H
    go_wp2_with fail
    go_ret
    exact ⟨rfl, HBwt_4.out⟩
  | true =>
    replace H := ite_t H
    replace H := bind_hid H
    obtain ⟨t_8, qt_8, H⟩ := H
    go_wp2_with fail
    go_at_call 109
    refine (Go.Proofs.Ytlljmgphgmklcaa.GsL9Office.C (x_to_)  _    qt_8).mono ?_
    rintro e_t_8 wt_8 ⟨rfl, bt_8⟩
    have HBwt_8 := Lib.hid (Below.step HBwt_4.out bt_8)
    replace kx_0_0 := cell_below bt_8 kx_0_0
    replace kx_0_1 := cell_below bt_8 kx_0_1
    replace kx_0_2 := cell_below bt_8 kx_0_2
    replace kx_0_3 := cell_below bt_8 kx_0_3
    clear bt_8
    replace H := app_hid H
    replace H := join_hid H
    cases t_8 with
    | false =>
      replace H := ite_f H
      replace H := app_hid H
      replace H := join_hid H
      replace H := ite_f H
      replace H := app_hid H
      replace H := join_hid H
      replace H := ite_f H
      replace H := app_hid H
      obtain rfl := ret_hid H
      go_wp2_with fail
      go_ret
      exact ⟨rfl, HBwt_8.out⟩
    | true =>
      replace H := ite_t H
      replace H := let_hid H
      obtain ⟨t_15, ht_15, H⟩ := H
      replace H := app_hid H
      replace H := join_hid H
      cases t_15 with
      | false =>
        replace H := ite_f H
        replace H := app_hid H
        replace H := join_hid H
        replace H := ite_f H
        replace H := app_hid H
        obtain rfl := ret_hid H
        go_wp2_with fail
        go_ret
        exact ⟨rfl, HBwt_8.out⟩
      | true =>
        replace H := ite_t H
        replace H := bind_hid H
        obtain ⟨t_20, qt_20, H⟩ := H
        go_wp2_with fail
        go_at_call 140
        refine (Go.Proofs.Ytlljmgphgmklcaa.GsL9Minute.C (x_arrive)  _    qt_20).mono ?_
        rintro e_t_20 wt_20 ⟨rfl, bt_20⟩
        have HBwt_20 := Lib.hid (Below.step HBwt_8.out bt_20)
        replace kx_0_0 := cell_below bt_20 kx_0_0
        replace kx_0_1 := cell_below bt_20 kx_0_1
        replace kx_0_2 := cell_below bt_20 kx_0_2
        replace kx_0_3 := cell_below bt_20 kx_0_3
        clear bt_20
        replace H := app_hid H
        replace H := join_hid H
        cases t_20 with
        | false =>
          replace H := ite_f H
          replace H := app_hid H
          obtain rfl := ret_hid H
          go_wp2_with fail
          go_ret
          exact ⟨rfl, HBwt_20.out⟩
        | true =>
          replace H := ite_t H
          replace H := let_hid H
          obtain ⟨t_27, ht_27, H⟩ := H
          replace H := bind_hid H
          obtain ⟨t_28, qt_28, H⟩ := H
          go_wp2_with fail
          go_at_call 113
          refine (Go.Proofs.Ytlljmgphgmklcaa.GsL1In.C (x_leave) (0) (t_27)  _    qt_28).mono ?_
          rintro e_t_28 wt_28 ⟨rfl, bt_28⟩
          have HBwt_28 := Lib.hid (Below.step HBwt_20.out bt_28)
          replace kx_0_0 := cell_below bt_28 kx_0_0
          replace kx_0_1 := cell_below bt_28 kx_0_1
          replace kx_0_2 := cell_below bt_28 kx_0_2
          replace kx_0_3 := cell_below bt_28 kx_0_3
          clear bt_28
          replace H := app_hid H
          obtain rfl := ret_hid H
          go_wp2_with fail
          go_ret
          exact ⟨rfl, HBwt_28.out⟩
end Go.Proofs.Ytlljmgphgmklcaa.GsL9One

/- loop.example/g01062/spec.l9Code as a plain function, and the contract of the program's: where the plain one has an answer, the program has it. Conditions: slices read as lists. -/
namespace Go.Proofs.Ytlljmgphgmklcaa.GsL9Code
set_option linter.unusedVariables false
set_option linter.unusedSimpArgs false
open Go.RowKit
open Go.Proofs.Ytlljmgphgmklcaa.Rowed Go.Proofs.Ytlljmgphgmklcaa.Turn Go.Proofs.Ytlljmgphgmklcaa.Aid Go.Proofs.Ytlljmgphgmklcaa.GoP Go.Proofs.Ytlljmgphgmklcaa.GoM

def P (x : Go.Proofs.Ytlljmgphgmklcaa.PMail.Mail) : Option (Int) :=
  unMail x fun (x_leave : Int) (x_from_ : Int) (x_to_ : Int) (x_arrive : Int) =>
  letK (IntKind.i64.wrap (x_leave * 10)) fun (t_4 : Int) =>
  letK (IntKind.i64.wrap (t_4 + x_from_)) fun (t_7 : Int) =>
  letK (IntKind.i64.wrap (t_7 * 10)) fun (t_8 : Int) =>
  letK (IntKind.i64.wrap (t_8 + x_to_)) fun (t_11 : Int) =>
  letK (IntKind.i64.wrap (t_11 * 10000)) fun (t_12 : Int) =>
  letK (IntKind.i64.wrap (t_12 + x_arrive)) fun (t_15 : Int) =>
  some t_15

set_option maxRecDepth 100000 in
set_option maxHeartbeats 2000000 in
theorem C (x : Go.Proofs.Ytlljmgphgmklcaa.PMail.Mail)   (w : World)   {r : Int} (H : Hid (P x = some r)) :
    Calls Try.prog 144 #[x.val] w (Gives (.int .i64 r) w) := by
  have HB := Lib.hid (Below.refl w.heap.size w)
  unfold P at H
  obtain ⟨x_leave, x_from_, x_to_, x_arrive⟩ := x
  replace H := unMail_hid H
  unfold Go.Proofs.Ytlljmgphgmklcaa.PMail.Mail.val
  go_enter Try.func144, Try.ntmps144
  obtain ⟨w_x_0, hw_x_0⟩ : ∃ x, w.alloc (.cells #[.int .i64 x_leave, .int .i64 x_from_, .int .i64 x_to_, .int .i64 x_arrive] 108) = x := ⟨_, rfl⟩
  have bw_x_0 : Below w.heap.size w w_x_0 := by rw [← hw_x_0]; exact (Below.refl _ _).alloc (Nat.le_refl _) _
  have HBw_x_0 := Lib.hid (Below.step HB.out bw_x_0)
  clear bw_x_0
  have kx_0_0 : w_x_0.cell? ⟨w.heap.size, 0, none⟩ = some (.int .i64 x_leave) := by rw [← hw_x_0]; exact box_new _ _ _ 0 _ rfl
  have kx_0_1 : w_x_0.cell? ⟨w.heap.size, 1, none⟩ = some (.int .i64 x_from_) := by rw [← hw_x_0]; exact box_new _ _ _ 1 _ rfl
  have kx_0_2 : w_x_0.cell? ⟨w.heap.size, 2, none⟩ = some (.int .i64 x_to_) := by rw [← hw_x_0]; exact box_new _ _ _ 2 _ rfl
  have kx_0_3 : w_x_0.cell? ⟨w.heap.size, 3, none⟩ = some (.int .i64 x_arrive) := by rw [← hw_x_0]; exact box_new _ _ _ 3 _ rfl
  replace H := let_hid H
  obtain ⟨t_4, ht_4, H⟩ := H
  replace H := let_hid H
  obtain ⟨t_7, ht_7, H⟩ := H
  replace H := let_hid H
  obtain ⟨t_8, ht_8, H⟩ := H
  replace H := let_hid H
  obtain ⟨t_11, ht_11, H⟩ := H
  replace H := let_hid H
  obtain ⟨t_12, ht_12, H⟩ := H
  replace H := let_hid H
  obtain ⟨t_15, ht_15, H⟩ := H
  obtain rfl := ret_hid H
  go_wp2_with fail
  go_ret
  exact ⟨rfl, HBw_x_0.out⟩
end Go.Proofs.Ytlljmgphgmklcaa.GsL9Code

/- loop.example/g01062/impl.compareMails as a plain function, and the contract of the program's: where the plain one has an answer, the program has it. Conditions: slices read as lists. -/
namespace Go.Proofs.Ytlljmgphgmklcaa.GiCompareMails
set_option linter.unusedVariables false
set_option linter.unusedSimpArgs false
open Go.RowKit
open Go.Proofs.Ytlljmgphgmklcaa.Rowed Go.Proofs.Ytlljmgphgmklcaa.Turn Go.Proofs.Ytlljmgphgmklcaa.Aid Go.Proofs.Ytlljmgphgmklcaa.GoP Go.Proofs.Ytlljmgphgmklcaa.GoM

def P (a : Go.Proofs.Ytlljmgphgmklcaa.PMail.Mail) (b : Go.Proofs.Ytlljmgphgmklcaa.PMail.Mail) : Option (Int) :=
  unMail a fun (a_leave : Int) (a_from_ : Int) (a_to_ : Int) (a_arrive : Int) =>
  unMail b fun (b_leave : Int) (b_from_ : Int) (b_to_ : Int) (b_arrive : Int) =>
  Option.bind (Go.Proofs.Ytlljmgphgmklcaa.GxCmpCompareInt.P a_leave b_leave) fun (t_7 : Int) =>
  Option.bind (Go.Proofs.Ytlljmgphgmklcaa.GxCmpCompareInt.P a_from_ b_from_) fun (t_12 : Int) =>
  Option.bind (Go.Proofs.Ytlljmgphgmklcaa.GxCmpCompareInt.P a_to_ b_to_) fun (t_17 : Int) =>
  Option.bind (Go.Proofs.Ytlljmgphgmklcaa.GxCmpCompareInt.P a_arrive b_arrive) fun (t_22 : Int) =>
  letK ([t_7, t_12, t_17, t_22]) fun (t_23 : (List Int)) =>
  Option.bind (Go.Proofs.Ytlljmgphgmklcaa.GxCmpOrInt.P t_23) fun (t_24 : Int) =>
  some t_24

set_option maxRecDepth 100000 in
set_option maxHeartbeats 2000000 in
theorem C (a : Go.Proofs.Ytlljmgphgmklcaa.PMail.Mail) (b : Go.Proofs.Ytlljmgphgmklcaa.PMail.Mail)   (w : World)   {r : Int} (H : Hid (P a b = some r)) :
    Calls Try.prog 149 #[a.val, b.val] w (Gives (.int .i64 r) w) := by
  have HB := Lib.hid (Below.refl w.heap.size w)
  unfold P at H
  obtain ⟨a_leave, a_from_, a_to_, a_arrive⟩ := a
  replace H := unMail_hid H
  obtain ⟨b_leave, b_from_, b_to_, b_arrive⟩ := b
  replace H := unMail_hid H
  unfold Go.Proofs.Ytlljmgphgmklcaa.PMail.Mail.val
  go_enter Try.func149, Try.ntmps149
  obtain ⟨w_a_0, hw_a_0⟩ : ∃ x, w.alloc (.cells #[.int .i64 a_leave, .int .i64 a_from_, .int .i64 a_to_, .int .i64 a_arrive] 108) = x := ⟨_, rfl⟩
  have bw_a_0 : Below w.heap.size w w_a_0 := by rw [← hw_a_0]; exact (Below.refl _ _).alloc (Nat.le_refl _) _
  have HBw_a_0 := Lib.hid (Below.step HB.out bw_a_0)
  clear bw_a_0
  have ka_0_0 : w_a_0.cell? ⟨w.heap.size, 0, none⟩ = some (.int .i64 a_leave) := by rw [← hw_a_0]; exact box_new _ _ _ 0 _ rfl
  have ka_0_1 : w_a_0.cell? ⟨w.heap.size, 1, none⟩ = some (.int .i64 a_from_) := by rw [← hw_a_0]; exact box_new _ _ _ 1 _ rfl
  have ka_0_2 : w_a_0.cell? ⟨w.heap.size, 2, none⟩ = some (.int .i64 a_to_) := by rw [← hw_a_0]; exact box_new _ _ _ 2 _ rfl
  have ka_0_3 : w_a_0.cell? ⟨w.heap.size, 3, none⟩ = some (.int .i64 a_arrive) := by rw [← hw_a_0]; exact box_new _ _ _ 3 _ rfl
  obtain ⟨w_b_1, hw_b_1⟩ : ∃ x, w_a_0.alloc (.cells #[.int .i64 b_leave, .int .i64 b_from_, .int .i64 b_to_, .int .i64 b_arrive] 108) = x := ⟨_, rfl⟩
  have bw_b_1 : Below w_a_0.heap.size w_a_0 w_b_1 := by rw [← hw_b_1]; exact (Below.refl _ _).alloc (Nat.le_refl _) _
  have HBw_b_1 := Lib.hid (Below.step HBw_a_0.out bw_b_1)
  have ka_0_0__1 := cell_below bw_b_1 ka_0_0
  have ka_0_1__2 := cell_below bw_b_1 ka_0_1
  have ka_0_2__3 := cell_below bw_b_1 ka_0_2
  have ka_0_3__4 := cell_below bw_b_1 ka_0_3
  clear bw_b_1
  have kb_1_0 : w_b_1.cell? ⟨w_a_0.heap.size, 0, none⟩ = some (.int .i64 b_leave) := by rw [← hw_b_1]; exact box_new _ _ _ 0 _ rfl
  have kb_1_1 : w_b_1.cell? ⟨w_a_0.heap.size, 1, none⟩ = some (.int .i64 b_from_) := by rw [← hw_b_1]; exact box_new _ _ _ 1 _ rfl
  have kb_1_2 : w_b_1.cell? ⟨w_a_0.heap.size, 2, none⟩ = some (.int .i64 b_to_) := by rw [← hw_b_1]; exact box_new _ _ _ 2 _ rfl
  have kb_1_3 : w_b_1.cell? ⟨w_a_0.heap.size, 3, none⟩ = some (.int .i64 b_arrive) := by rw [← hw_b_1]; exact box_new _ _ _ 3 _ rfl
  go_wp2_with fail
  clear ka_0_0 ka_0_1 ka_0_2 ka_0_3
  have bd1 : Below w_b_1.heap.size w_b_1 w_b_1.drew := (Below.refl _ _).drew
  have HBw_b_1.drew := Lib.hid (Below.step HBw_b_1.out bd1)
  replace ka_0_0__1 := cell_below bd1 ka_0_0__1
  replace ka_0_1__2 := cell_below bd1 ka_0_1__2
  replace ka_0_2__3 := cell_below bd1 ka_0_2__3
  replace ka_0_3__4 := cell_below bd1 ka_0_3__4
  replace kb_1_0 := cell_below bd1 kb_1_0
  replace kb_1_1 := cell_below bd1 kb_1_1
  replace kb_1_2 := cell_below bd1 kb_1_2
  replace kb_1_3 := cell_below bd1 kb_1_3
  clear bd1
  replace H := bind_hid H
  obtain ⟨t_7, qt_7, H⟩ := H
  replace H := bind_hid H
  obtain ⟨t_12, qt_12, H⟩ := H
  replace H := bind_hid H
  obtain ⟨t_17, qt_17, H⟩ := H
  replace H := bind_hid H
  obtain ⟨t_22, qt_22, H⟩ := H
  replace H := let_hid H
  obtain ⟨t_23, ht_23, H⟩ := H
  replace H := bind_hid H
  obtain ⟨t_24, qt_24, H⟩ := H
  go_region_held3 (fun w' => w'.cell? ⟨w.heap.size, 0, none⟩ = some (.int .i64 a_leave) ∧ w'.cell? ⟨w.heap.size, 1, none⟩ = some (.int .i64 a_from_) ∧ w'.cell? ⟨w.heap.size, 2, none⟩ = some (.int .i64 a_to_) ∧ w'.cell? ⟨w.heap.size, 3, none⟩ = some (.int .i64 a_arrive) ∧ w'.cell? ⟨w_a_0.heap.size, 0, none⟩ = some (.int .i64 b_leave) ∧ w'.cell? ⟨w_a_0.heap.size, 1, none⟩ = some (.int .i64 b_from_) ∧ w'.cell? ⟨w_a_0.heap.size, 2, none⟩ = some (.int .i64 b_to_) ∧ w'.cell? ⟨w_a_0.heap.size, 3, none⟩ = some (.int .i64 b_arrive)) (first | exact ⟨ka_0_0__1, ka_0_1__2, ka_0_2__3, ka_0_3__4, kb_1_0, kb_1_1, kb_1_2, kb_1_3⟩ | exact ⟨ka_0_0__5, ka_0_1__6, ka_0_2__7, ka_0_3__8, kb_1_0__9, kb_1_1__10, kb_1_2__11, kb_1_3__12⟩)
      (first
        | (go_at_call 161
           refine (Go.Proofs.Ytlljmgphgmklcaa.GxCmpCompareInt.C (a_leave) (b_leave)  _    qt_7).mono ?_
           rintro e_t_7 wt_7 ⟨rfl, bt_7⟩
           have HBwt_7 := Lib.hid (Below.step HBw_b_1.drew.out bt_7)
           replace ka_0_0__1 := cell_below bt_7 ka_0_0__1
           replace ka_0_1__2 := cell_below bt_7 ka_0_1__2
           replace ka_0_2__3 := cell_below bt_7 ka_0_2__3
           replace ka_0_3__4 := cell_below bt_7 ka_0_3__4
           replace kb_1_0 := cell_below bt_7 kb_1_0
           replace kb_1_1 := cell_below bt_7 kb_1_1
           replace kb_1_2 := cell_below bt_7 kb_1_2
           replace kb_1_3 := cell_below bt_7 kb_1_3
           clear bt_7
           clear qt_7)
        | (go_at_call 161
           refine (Go.Proofs.Ytlljmgphgmklcaa.GxCmpCompareInt.C (a_from_) (b_from_)  _    qt_12).mono ?_
           rintro e_t_12 wt_12 ⟨rfl, bt_12⟩
           have HBwt_12 := Lib.hid (Below.step HBwt_7.out bt_12)
           replace ka_0_0__1 := cell_below bt_12 ka_0_0__1
           replace ka_0_1__2 := cell_below bt_12 ka_0_1__2
           replace ka_0_2__3 := cell_below bt_12 ka_0_2__3
           replace ka_0_3__4 := cell_below bt_12 ka_0_3__4
           replace kb_1_0 := cell_below bt_12 kb_1_0
           replace kb_1_1 := cell_below bt_12 kb_1_1
           replace kb_1_2 := cell_below bt_12 kb_1_2
           replace kb_1_3 := cell_below bt_12 kb_1_3
           clear bt_12
           clear qt_12)
        | (go_at_call 161
           refine (Go.Proofs.Ytlljmgphgmklcaa.GxCmpCompareInt.C (a_to_) (b_to_)  _    qt_17).mono ?_
           rintro e_t_17 wt_17 ⟨rfl, bt_17⟩
           have HBwt_17 := Lib.hid (Below.step HBwt_12.out bt_17)
           replace ka_0_0__1 := cell_below bt_17 ka_0_0__1
           replace ka_0_1__2 := cell_below bt_17 ka_0_1__2
           replace ka_0_2__3 := cell_below bt_17 ka_0_2__3
           replace ka_0_3__4 := cell_below bt_17 ka_0_3__4
           replace kb_1_0 := cell_below bt_17 kb_1_0
           replace kb_1_1 := cell_below bt_17 kb_1_1
           replace kb_1_2 := cell_below bt_17 kb_1_2
           replace kb_1_3 := cell_below bt_17 kb_1_3
           clear bt_17
           clear qt_17)
        | (go_at_call 161
           refine (Go.Proofs.Ytlljmgphgmklcaa.GxCmpCompareInt.C (a_arrive) (b_arrive)  _    qt_22).mono ?_
           rintro e_t_22 wt_22 ⟨rfl, bt_22⟩
           have HBwt_22 := Lib.hid (Below.step HBwt_17.out bt_22)
           replace ka_0_0__1 := cell_below bt_22 ka_0_0__1
           replace ka_0_1__2 := cell_below bt_22 ka_0_1__2
           replace ka_0_2__3 := cell_below bt_22 ka_0_2__3
           replace ka_0_3__4 := cell_below bt_22 ka_0_3__4
           replace kb_1_0 := cell_below bt_22 kb_1_0
           replace kb_1_1 := cell_below bt_22 kb_1_1
           replace kb_1_2 := cell_below bt_22 kb_1_2
           replace kb_1_3 := cell_below bt_22 kb_1_3
           clear bt_22
           clear qt_22
           obtain ⟨w_t_23, hw_t_23⟩ : ∃ x, wt_22.alloc (.cells #[.int .i64 t_7, .int .i64 t_12, .int .i64 t_17, .int .i64 t_22] 3) = x := ⟨_, rfl⟩
           have bw_t_23 : Below wt_22.heap.size wt_22 w_t_23 := by rw [← hw_t_23]; exact (Below.refl _ _).alloc (Nat.le_refl _) _
           have hs_t_23 := HBwt_22.out.size
           have nt_23 : t_23.length = 4 := by rw [← ht_23]; rfl
           have Ot_23 : Hid (w_t_23.ownsRow w.heap.size 3 1 (.slice (some ⟨wt_22.heap.size, 0, none⟩) 4 4) 4 (Go.Proofs.Ytlljmgphgmklcaa.HelpInt.iv t_23)) := by
             rw [← hw_t_23, ← ht_23]
             have e_ : ([.int .i64 t_7, .int .i64 t_12, .int .i64 t_17, .int .i64 t_22] : List Value) = (Go.Proofs.Ytlljmgphgmklcaa.HelpInt.iv ([t_7, t_12, t_17, t_22] : List Int)) := rfl
             exact Lib.hid (own_laid (n := 4) hs_t_23 e_ rfl (by unfold maxLen; omega))
           clear hs_t_23
           have hht_23 := Lib.hid ht_23
           clear ht_23
           replace nt_23 := Lib.hid nt_23
           have Dt_23_a_0 := Lib.hid (apart_box ka_0_0__1)
           have Dt_23_b_1 := Lib.hid (apart_box kb_1_0)
           have HBw_t_23 := Lib.hid (Below.step HBwt_22.out bw_t_23)
           have ka_0_0__5 := cell_below bw_t_23 ka_0_0__1
           have ka_0_1__6 := cell_below bw_t_23 ka_0_1__2
           have ka_0_2__7 := cell_below bw_t_23 ka_0_2__3
           have ka_0_3__8 := cell_below bw_t_23 ka_0_3__4
           have kb_1_0__9 := cell_below bw_t_23 kb_1_0
           have kb_1_1__10 := cell_below bw_t_23 kb_1_1
           have kb_1_2__11 := cell_below bw_t_23 kb_1_2
           have kb_1_3__12 := cell_below bw_t_23 kb_1_3
           clear bw_t_23)
        | (have hc0_ := nt_23.out
           have Oct_24_1 := Lib.hid (own_len hc0_ Ot_23.out)
           have con_ := Go.Proofs.Ytlljmgphgmklcaa.GxCmpOrInt.C (t_23) (some ⟨wt_22.heap.size, 0, none⟩) 4 _   (Lib.hid (own_cells Oct_24_1.out)) (Lib.hid (own_max Oct_24_1.out)) qt_24
           rw [hc0_] at con_
           clear hc0_ Oct_24_1
           go_at_call 160
           refine con_.mono ?_
           rintro e_t_24 wt_24 ⟨rfl, bt_24⟩
           have HBwt_24 := Lib.hid (Below.step HBw_t_23.out bt_24)
           replace ka_0_0__5 := cell_below bt_24 ka_0_0__5
           replace ka_0_1__6 := cell_below bt_24 ka_0_1__6
           replace ka_0_2__7 := cell_below bt_24 ka_0_2__7
           replace ka_0_3__8 := cell_below bt_24 ka_0_3__8
           replace kb_1_0__9 := cell_below bt_24 kb_1_0__9
           replace kb_1_1__10 := cell_below bt_24 kb_1_1__10
           replace kb_1_2__11 := cell_below bt_24 kb_1_2__11
           replace kb_1_3__12 := cell_below bt_24 kb_1_3__12
           replace Ot_23 := Lib.hid (own_below Ot_23.out bt_24)
           clear bt_24
           clear qt_24))
  try clear ka_0_0__1
  try clear ka_0_1__2
  try clear ka_0_2__3
  try clear ka_0_3__4
  try clear kb_1_0
  try clear kb_1_1
  try clear kb_1_2
  try clear kb_1_3
  obtain rfl := ret_hid H
  go_wp2_with fail
  go_ret
  exact ⟨rfl, HBwt_24.out⟩
end Go.Proofs.Ytlljmgphgmklcaa.GiCompareMails

/- Chapter 9: mails and routes: the plain functions of the program and of the reference agree, and the laws answer true. (Q9Mail) No condition but those of each theorem. -/
namespace Go.Proofs.Ytlljmgphgmklcaa.Q9Mail
set_option linter.unusedVariables false
set_option linter.unusedSimpArgs false
open Go.RowKit
open Go.Proofs.Ytlljmgphgmklcaa.GoP Go.Proofs.Ytlljmgphgmklcaa.PlainStamp Go.Proofs.Ytlljmgphgmklcaa.QBase Go.Proofs.Ytlljmgphgmklcaa.QCmp Go.Proofs.Ytlljmgphgmklcaa.QLoop Go.Proofs.Ytlljmgphgmklcaa.PMail

theorem isMinute_eq (n : Int) : GiIsMinute.P n = some (inB n 0 9999) := by simp only [GiIsMinute.P, within_eq, Option.bind_some]
theorem isOffice_eq (n : Int) : GiIsPostOffice.P n = some (inB n 0 9) := by simp only [GiIsPostOffice.P, within_eq, Option.bind_some]
theorem l9Office_eq (n : Int) : GsL9Office.P n = some (inB n 0 9) := by simp only [GsL9Office.P, l1In_eq, Option.bind_some]
theorem l9Minute_eq (n : Int) : GsL9Minute.P n = some (inB n 0 9999) := by simp only [GsL9Minute.P, l1In_eq, Option.bind_some]
def okM (x : Mail) : Bool := inB x.from_ 0 9 && inB x.to_ 0 9 && (x.from_ != x.to_) && inB x.leave 0 9999 && inB x.arrive 0 9999 && decide (x.leave < x.arrive)
theorem isMail_eq (x : Mail) : GiIsMail.P x = some (okM x) := by
  obtain ⟨a, b, c, d⟩ := x
  simp only [GiIsMail.P, unMail, isMinute_eq, isOffice_eq, Option.bind_some, letK, joinK, appK, iteK_if, okM]
  cases inB b 0 9 <;> cases inB c 0 9 <;> cases (b != c) <;> cases inB a 0 9999 <;> cases inB d 0 9999 <;> simp
theorem l9One_eq (x : Mail) : GsL9One.P x = some (okM x) := by
  obtain ⟨a, b, c, d⟩ := x
  have hx : (inB d 0 9999 && inB a 0 (d - 1)) = (inB a 0 9999 && inB d 0 9999 && decide (a < d)) := by unfold inB; rw [Bool.eq_iff_iff]; simp; omega
  have hy : okM ⟨a, b, c, d⟩ = (inB b 0 9 && inB c 0 9 && (b != c) && (inB d 0 9999 && inB a 0 (d - 1))) := by
    rw [hx]; unfold okM
    cases inB b 0 9 <;> cases inB c 0 9 <;> cases (b != c) <;> simp
  rw [hy]
  simp only [GsL9One.P, unMail, l9Office_eq, l9Minute_eq, l1In_eq, Option.bind_some, letK, joinK, appK, iteK_if]
  cases hd : inB d 0 9999 with
  | false => cases inB b 0 9 <;> cases inB c 0 9 <;> cases (b != c) <;> simp
  | true =>
    have h := inB_of hd
    rw [wrap_in (by omega) (by omega)]
    cases inB b 0 9 <;> cases inB c 0 9 <;> cases (b != c) <;> simp
theorem okM_of {x : Mail} (h : okM x = true) : (0 ≤ x.from_ ∧ x.from_ ≤ 9) ∧ (0 ≤ x.to_ ∧ x.to_ ≤ 9) ∧ x.from_ ≠ x.to_ ∧ (0 ≤ x.leave ∧ x.leave < x.arrive ∧ x.arrive ≤ 9999) := by
  unfold okM at h
  simp only [Bool.and_eq_true, decide_eq_true_eq, bne_iff_ne] at h
  have h1 := inB_of h.1.1.1.1.1
  have h2 := inB_of h.1.1.1.1.2
  have h3 := inB_of h.1.1.2
  have h4 := inB_of h.1.2
  exact ⟨h1, h2, h.1.1.1.2, h3.1, h.2, h4.2⟩
def codeM (x : Mail) : Int := ((x.leave * 10 + x.from_) * 10 + x.to_) * 10000 + x.arrive
def ltM (a b : Mail) : Bool := decide (codeM a < codeM b)
theorem code_eq {x : Mail} (h : okM x = true) : GsL9Code.P x = some (codeM x) := by
  obtain ⟨h1, h2, _, h3⟩ := okM_of h
  obtain ⟨a, b, c, d⟩ := x
  dsimp only at h1 h2 h3
  simp only [GsL9Code.P, unMail, letK, codeM]
  rw [wrap_in (x := a * 10) (by omega) (by omega), wrap_in (x := a * 10 + b) (by omega) (by omega), wrap_in (x := (a * 10 + b) * 10) (by omega) (by omega), wrap_in (x := (a * 10 + b) * 10 + c) (by omega) (by omega), wrap_in (x := ((a * 10 + b) * 10 + c) * 10000) (by omega) (by omega), wrap_in (by omega) (by omega)]
theorem compare_eq {a b : Mail} (ha : okM a = true) (hb : okM b = true) : ∃ c, GiCompareMails.P a b = some c ∧ (0 ≤ c ↔ codeM b ≤ codeM a) := by
  have h1 := okM_of ha
  have h2 := okM_of hb
  obtain ⟨a, x, c, y⟩ := a
  obtain ⟨a', x', c', y'⟩ := b
  dsimp only at h1 h2
  simp only [GiCompareMails.P, unMail, cmp_eq, Option.bind_some, letK, or_eq]
  refine ⟨_, rfl, ?_⟩
  unfold cmpI codeM
  dsimp only
  by_cases p1 : a < a'
  · simp [p1]; omega
  · by_cases p2 : a' < a
    · simp [p1, p2]; omega
    · obtain rfl : a = a' := by omega
      by_cases p3 : x < x'
      · simp [p3]; omega
      · by_cases p4 : x' < x
        · simp [p3, p4]; omega
        · obtain rfl : x = x' := by omega
          by_cases p5 : c < c'
          · simp [p5]; omega
          · by_cases p6 : c' < c
            · simp [p5, p6]; omega
            · obtain rfl : c = c' := by omega
              by_cases p7 : y < y'
              · simp [p7]
              · by_cases p8 : y' < y
                · simp [p7, p8]; omega
                · simp [p7, p8]; omega
end Go.Proofs.Ytlljmgphgmklcaa.Q9Mail

/- Chapter 10: covers: the plain functions of the program and of the reference agree, and the laws answer true. (Q10Cover) No condition but those of each theorem. -/
namespace Go.Proofs.Ytlljmgphgmklcaa.Q10Cover
set_option linter.unusedVariables false
set_option linter.unusedSimpArgs false
open Go.RowKit
open Go.Proofs.Ytlljmgphgmklcaa.GoP Go.Proofs.Ytlljmgphgmklcaa.PlainStamp Go.Proofs.Ytlljmgphgmklcaa.QBase Go.Proofs.Ytlljmgphgmklcaa.Q8Rate Go.Proofs.Ytlljmgphgmklcaa.Q9Mail Go.Proofs.Ytlljmgphgmklcaa.QLoop Go.Proofs.Ytlljmgphgmklcaa.PCover

def okC (x : Cover) : Bool := inB x.id 1 999 && inB x.day 0 4000 && inB x.zone 0 9 && inB x.grams 1 2000 && inB x.paid 1 9999 && inB x.from_ 0 9 && inB x.to_ 0 9 && (x.from_ != x.to_) && inB x.leave 0 9999 && inB x.arrive 0 9999 && decide (x.leave ≤ x.arrive)
theorem isCover_eq (x : Cover) : GiIsCover.P x = some (okC x) := by
  obtain ⟨a, b, c, d, e, f, g, h, i⟩ := x
  simp only [GiIsCover.P, unCover, within_eq, isDay_eq, isZone_eq, isWeight_eq, isRateCents_eq, isOffice_eq, isMinute_eq, Option.bind_some, letK, joinK, appK, iteK_if, okC]
  cases inB a 1 999 <;> cases inB b 0 4000 <;> cases inB c 0 9 <;> cases inB d 1 2000 <;> cases inB e 1 9999 <;> cases inB f 0 9 <;> cases inB g 0 9 <;> simp
  all_goals by_cases hfg : f = g <;> cases inB h 0 9999 <;> cases inB i 0 9999 <;> simp [hfg]
theorem l10One_eq (x : Cover) : GsL10One.P x = some (okC x) := by
  obtain ⟨a, b, c, d, e, f, g, h, i⟩ := x
  have hh : inB h 0 i = (inB h 0 9999 && inB i 0 9999 && decide (h ≤ i)) ∨ inB i 0 9999 = false := by
    unfold inB
    by_cases hi : 0 ≤ i ∧ i ≤ 9999
    · left; rw [Bool.eq_iff_iff]; simp; omega
    · right; simp; omega
  simp only [GsL10One.P, unCover, l1In_eq, l2Day_eq, l8Zone_eq, l8Grams_eq, l8Cents_eq, l9Office_eq, l9Minute_eq, Option.bind_some, letK, joinK, appK, iteK_if, okC]
  cases inB a 1 999 <;> cases inB b 0 4000 <;> cases inB c 0 9 <;> cases inB d 1 2000 <;> cases inB e 1 9999 <;> cases inB f 0 9 <;> cases inB g 0 9 <;> simp
  all_goals
    by_cases hfg : f = g
    · simp [hfg]
    · rcases hh with hh | hh
      · rw [hh]; cases inB h 0 9999 <;> cases inB i 0 9999 <;> simp [hfg]
      · simp [hh]
theorem okC_of {x : Cover} (h : okC x = true) : (1 ≤ x.id ∧ x.id ≤ 999) ∧ (0 ≤ x.day ∧ x.day ≤ 4000) ∧ (1 ≤ x.paid ∧ x.paid ≤ 9999) ∧ (0 ≤ x.from_ ∧ x.from_ ≤ 9) ∧ (0 ≤ x.to_ ∧ x.to_ ≤ 9) ∧ x.from_ ≠ x.to_ ∧ (0 ≤ x.leave ∧ x.leave ≤ x.arrive ∧ x.arrive ≤ 9999) := by
  simp only [okC, Bool.and_eq_true, decide_eq_true_eq, bne_iff_ne] at h
  obtain ⟨⟨⟨⟨⟨⟨⟨⟨⟨⟨h1, h2⟩, h3⟩, h4⟩, h5⟩, h6⟩, h7⟩, h8⟩, h9⟩, h10⟩, h11⟩ := h
  have := inB_of h1; have := inB_of h2; have := inB_of h5; have := inB_of h6; have := inB_of h7; have := inB_of h9; have := inB_of h10
  refine ⟨by omega, by omega, by omega, by omega, by omega, h8, by omega⟩
def okCs (l : List Cover) : Bool := upL 10 okC Cover.id l
theorem areCovers_eq (l : List Cover) : GiAreCovers.P l = some (okCs l) := by
  simp only [GiAreCovers.P, GiAreByKeyCoverIntiIsCoveriIdOfCover.P, letK, iteK_if]
  by_cases hl : l.length ≤ 10
  · rw [if_neg (by simp; omega), up_loop (ok := okC) (id := Cover.id) (no := false)]
    · unfold okCs upL; cases upTo okC Cover.id l l.length <;> simp [hl, GiAreByKeyCoverIntiIsCoveriIdOfCover.e0]
    · intro k nx s hs
      have hi : idx l (k : Int) = some s := by rw [idx_nat, hs]
      have hk : k < l.length := (List.getElem?_eq_some_iff.1 hs).1
      simp only [GiAreByKeyCoverIntiIsCoveriIdOfCover.l0, hi, Option.bind_some, unCover, isCover_eq, GiIdOfCover.P, letK, joinK, appK, iteK_if]
      refine ⟨fun h => by simp [h], fun h => ⟨fun h0 => by subst h0; simp [h], fun h0 r hr => ?_⟩⟩
      rw [idx_pred h0 (by omega) hr]
      have hk0 : (0 : Int) < (k : Int) := by omega
      have hk1 : ¬ k = 0 := by omega
      exact ⟨fun hlt => by (have hc : ¬ s.id ≤ r.id := by omega); simp [h, hk0, hk1, hc], fun hge => by simp [h, hk0, hk1, hge]⟩
  · rw [if_pos (by simp; omega)]; unfold okCs upL; simp [hl]
theorem l10Good_eq (l : List Cover) (hl : l.length ≤ 9223372036854775807) : GsL10Good.P l = some (okCs l) := by
  simp only [GsL10Good.P]
  rw [up_loop (ok := okC) (id := Cover.id) (no := false)]
  · unfold okCs upL; cases upTo okC Cover.id l l.length <;> simp [GsL10Good.e0, letK]; omega
  · intro k nx s hs
    have hi : idx l (k : Int) = some s := by rw [idx_nat, hs]
    have hk : k < l.length := (List.getElem?_eq_some_iff.1 hs).1
    simp only [GsL10Good.l0, hi, Option.bind_some, unCover, l10One_eq, letK, joinK, appK, iteK_if]
    refine ⟨fun h => by simp [h], fun h => ⟨fun h0 => by subst h0; simp [h], fun h0 r hr => ?_⟩⟩
    rw [idx_pred h0 (by omega) hr]
    have hk0 : (0 : Int) < (k : Int) := by omega
    have hk1 : ¬ k = 0 := by omega
    exact ⟨fun hlt => by (have hc : ¬ s.id ≤ r.id := by omega); simp [h, hk0, hk1, hc], fun hge => by simp [h, hk0, hk1, hge]⟩
theorem cs_mem {l : List Cover} (h : okCs l = true) {x : Cover} (hx : x ∈ l) : okC x = true := upL_mem h hx
theorem cs_len {l : List Cover} (h : okCs l = true) : l.length ≤ 10 := upL_len h
end Go.Proofs.Ytlljmgphgmklcaa.Q10Cover

/- The laws' helpers on Cover and on slices of it as plain functions: copied, equal, their bulk. No condition. -/
namespace Go.Proofs.Ytlljmgphgmklcaa.QHCoverE
set_option linter.unusedVariables false
set_option linter.unusedSimpArgs false
open Go.RowKit
open Go.Proofs.Ytlljmgphgmklcaa.GoP Go.Proofs.Ytlljmgphgmklcaa.QBase Go.Proofs.Ytlljmgphgmklcaa.QLoop Go.Proofs.Ytlljmgphgmklcaa.PCover

theorem toOne (s : Cover) : GlToCover.P s = some s := by cases s; rfl
theorem eqOne (s : Cover) : GlEqCover.P s s = some true := by
  obtain ⟨x0, x1, x2, x3, x4, x5, x6, x7, x8⟩ := s
  simp [GlEqCover.P, unCover, letK, joinK, appK, iteK_if]
theorem toS (l : List Cover) (hl : l.length ≤ 1048576) : GlToCoverS.P l = some l := by
  simp only [GlToCoverS.P, letK]
  rw [guardK_pos (by omega)]
  refine cnt_is l (fun k s => s = l.take k ++ List.replicate (l.length - k) (Cover.mk 0 0 0 0 0 0 0 0 0)) ?_ ?_ _ (by simp)
  · intro k s nx hk hI hn
    obtain ⟨x, hx, hi⟩ := at_lt (l := l) (k := k) hk
    have hlen : s.length = l.length := by rw [hI]; simp; omega
    obtain ⟨z, hz, hj⟩ := at_lt (l := s) (k := k) (by omega)
    simp only [GlToCoverS.l0, hi, hj, toOne, Option.bind_some, unCover, letK, appK]
    refine hn _ ?_
    rw [hI, take_next hx, List.set_append_right _ _ (by simp; omega)]
    have hr : l.length - k = (l.length - (k + 1)) + 1 := by omega
    rw [hr, List.replicate_succ, List.append_assoc]
    simp [show k - min k l.length = 0 by omega]
  · intro s hI
    rw [hI]; simp [GlToCoverS.e0, letK]
theorem eqS (l : List Cover) : GlEqCoverS.P l l = some true := by
  simp only [GlEqCoverS.P, letK, iteK_if]
  rw [if_neg (by simp)]
  refine cnt_is true (fun _ _ => True) ?_ (fun s _ => rfl) () trivial
  intro k s nx hk _ hn
  obtain ⟨x, hx, hi⟩ := at_lt (l := l) (k := k) hk
  simp only [GlEqCoverS.l0, hi, Option.bind_some, unCover, eqOne, letK, appK, iteK_if]
  exact hn () trivial
theorem szF (l : List Cover) (left : Int) (h0 : 0 ≤ left) (h1 : left ≤ 1048576) (hl : l.length ≤ 9223372036854775807) : GlSzCoverS.P l left = some (if (l.length : Int) ≤ left then left - (l.length : Int) else -1) := by
  simp only [GlSzCoverS.P, letK, iteK_if]
  rw [wrap_in (by omega) (by omega)]
  by_cases h : (l.length : Int) ≤ left
  · rw [if_neg (by simp; omega), if_pos h]
  · rw [if_pos (by simp; omega), if_neg h]
theorem szS (l : List Cover) (hl : l.length ≤ 9223372036854775807) : GlSzCoverS.P l 1048576 = some (if l.length ≤ 1048576 then 1048576 - (l.length : Int) else -1) := by
  simp only [GlSzCoverS.P, letK, iteK_if]
  rw [wrap_in (by omega) (by omega)]
  by_cases h : l.length ≤ 1048576
  · rw [if_neg (by simp; omega), if_pos h]
  · rw [if_pos (by simp; omega), if_neg h]
end Go.Proofs.Ytlljmgphgmklcaa.QHCoverE

/- loop.example/g01062/laws.szRateS as a plain function, and the contract of the program's: where the plain one has an answer, the program has it. Conditions: slices read as lists. -/
namespace Go.Proofs.Ytlljmgphgmklcaa.GlSzRateS
set_option linter.unusedVariables false
set_option linter.unusedSimpArgs false
open Go.RowKit
open Go.Proofs.Ytlljmgphgmklcaa.Rowed Go.Proofs.Ytlljmgphgmklcaa.Turn Go.Proofs.Ytlljmgphgmklcaa.Aid Go.Proofs.Ytlljmgphgmklcaa.GoP Go.Proofs.Ytlljmgphgmklcaa.GoM

def P (a : (List Go.Proofs.Ytlljmgphgmklcaa.PRate.Rate)) (left : Int) : Option (Int) :=
  letK (IntKind.i64.wrap (left - (a.length : Int))) fun (t_4 : Int) =>
  letK (decide (t_4 < 0)) fun (t_7 : Bool) =>
  iteK t_7
  (some (-1))
  (some t_4)

set_option maxRecDepth 100000 in
set_option maxHeartbeats 2000000 in
theorem C (a : (List Go.Proofs.Ytlljmgphgmklcaa.PRate.Rate)) (left : Int) (A0 : Option Addr) (c0 : Nat)  (w : World) (M0 : Hid (Cells w 5 A0 a.length (Go.Proofs.Ytlljmgphgmklcaa.PRate.flat a))) (N0 : Hid (a.length ≤ 9223372036854775807))  {r : Int} (H : Hid (P a left = some r)) :
    Calls Try.prog 24 #[.slice A0 a.length c0, .int .i64 left] w (Gives (.int .i64 r) w) := by
  have HB := Lib.hid (Below.refl w.heap.size w)
  unfold P at H
  have N0o := N0.out
  go_enter Try.func24, Try.ntmps24
  replace H := let_hid H
  obtain ⟨t_4, ht_4, H⟩ := H
  replace H := let_hid H
  obtain ⟨t_7, ht_7, H⟩ := H
  cases t_7 with
  | false =>
    replace H := ite_f H
    obtain rfl := ret_hid H
    go_wp2_with fail
    go_ret
    exact ⟨rfl, HB.out⟩
  | true =>
    replace H := ite_t H
    obtain rfl := ret_hid H
    go_wp2_with fail
    go_ret
    exact ⟨rfl, HB.out⟩

set_option maxRecDepth 100000 in
set_option maxHeartbeats 2000000 in
theorem C0 (a : (List Go.Proofs.Ytlljmgphgmklcaa.PRate.Rate)) (left : Int) (A0 : Option Addr) (c0 : Nat)  (w : World) (M0 : Hid (Cells w 5 A0 a.length (Go.Proofs.Ytlljmgphgmklcaa.PRate.flat a))) (N0 : Hid (a.length ≤ 9223372036854775807))  {r : Int} (H : Hid (P a left = some r)) :
    Calls Try.prog 24 #[.slice A0 a.length c0, .int .i64 left] w (fun e w'' => e = .returned (.int .i64 r) ∧ w'' = w) := by
  have HB := Lib.hid (Below.refl w.heap.size w)
  unfold P at H
  have N0o := N0.out
  go_enter Try.func24, Try.ntmps24
  replace H := let_hid H
  obtain ⟨t_4, ht_4, H⟩ := H
  replace H := let_hid H
  obtain ⟨t_7, ht_7, H⟩ := H
  cases t_7 with
  | false =>
    replace H := ite_f H
    obtain rfl := ret_hid H
    go_wp2_with fail
    go_ret
    exact ⟨rfl, rfl⟩
  | true =>
    replace H := ite_t H
    obtain rfl := ret_hid H
    go_wp2_with fail
    go_ret
    exact ⟨rfl, rfl⟩
end Go.Proofs.Ytlljmgphgmklcaa.GlSzRateS

/- loop.example/g01062/laws.szMailS as a plain function, and the contract of the program's: where the plain one has an answer, the program has it. Conditions: slices read as lists. -/
namespace Go.Proofs.Ytlljmgphgmklcaa.GlSzMailS
set_option linter.unusedVariables false
set_option linter.unusedSimpArgs false
open Go.RowKit
open Go.Proofs.Ytlljmgphgmklcaa.Rowed Go.Proofs.Ytlljmgphgmklcaa.Turn Go.Proofs.Ytlljmgphgmklcaa.Aid Go.Proofs.Ytlljmgphgmklcaa.GoP Go.Proofs.Ytlljmgphgmklcaa.GoM

def P (a : (List Go.Proofs.Ytlljmgphgmklcaa.PMail.Mail)) (left : Int) : Option (Int) :=
  letK (IntKind.i64.wrap (left - (a.length : Int))) fun (t_4 : Int) =>
  letK (decide (t_4 < 0)) fun (t_7 : Bool) =>
  iteK t_7
  (some (-1))
  (some t_4)

set_option maxRecDepth 100000 in
set_option maxHeartbeats 2000000 in
theorem C (a : (List Go.Proofs.Ytlljmgphgmklcaa.PMail.Mail)) (left : Int) (A0 : Option Addr) (c0 : Nat)  (w : World) (M0 : Hid (Cells w 4 A0 a.length (Go.Proofs.Ytlljmgphgmklcaa.PMail.flat a))) (N0 : Hid (a.length ≤ 9223372036854775807))  {r : Int} (H : Hid (P a left = some r)) :
    Calls Try.prog 25 #[.slice A0 a.length c0, .int .i64 left] w (Gives (.int .i64 r) w) := by
  have HB := Lib.hid (Below.refl w.heap.size w)
  unfold P at H
  have N0o := N0.out
  go_enter Try.func25, Try.ntmps25
  replace H := let_hid H
  obtain ⟨t_4, ht_4, H⟩ := H
  replace H := let_hid H
  obtain ⟨t_7, ht_7, H⟩ := H
  cases t_7 with
  | false =>
    replace H := ite_f H
    obtain rfl := ret_hid H
    go_wp2_with fail
    go_ret
    exact ⟨rfl, HB.out⟩
  | true =>
    replace H := ite_t H
    obtain rfl := ret_hid H
    go_wp2_with fail
    go_ret
    exact ⟨rfl, HB.out⟩

set_option maxRecDepth 100000 in
set_option maxHeartbeats 2000000 in
theorem C0 (a : (List Go.Proofs.Ytlljmgphgmklcaa.PMail.Mail)) (left : Int) (A0 : Option Addr) (c0 : Nat)  (w : World) (M0 : Hid (Cells w 4 A0 a.length (Go.Proofs.Ytlljmgphgmklcaa.PMail.flat a))) (N0 : Hid (a.length ≤ 9223372036854775807))  {r : Int} (H : Hid (P a left = some r)) :
    Calls Try.prog 25 #[.slice A0 a.length c0, .int .i64 left] w (fun e w'' => e = .returned (.int .i64 r) ∧ w'' = w) := by
  have HB := Lib.hid (Below.refl w.heap.size w)
  unfold P at H
  have N0o := N0.out
  go_enter Try.func25, Try.ntmps25
  replace H := let_hid H
  obtain ⟨t_4, ht_4, H⟩ := H
  replace H := let_hid H
  obtain ⟨t_7, ht_7, H⟩ := H
  cases t_7 with
  | false =>
    replace H := ite_f H
    obtain rfl := ret_hid H
    go_wp2_with fail
    go_ret
    exact ⟨rfl, rfl⟩
  | true =>
    replace H := ite_t H
    obtain rfl := ret_hid H
    go_wp2_with fail
    go_ret
    exact ⟨rfl, rfl⟩
end Go.Proofs.Ytlljmgphgmklcaa.GlSzMailS

/- The record Rate as data that comes in, and a slice of it. No condition. -/
namespace Go.Proofs.Ytlljmgphgmklcaa.ORate
set_option linter.unusedVariables false
set_option maxRecDepth 100000
open Go.Joins Go.ChangeShapes Go.WideShapes Go.RowKit Go.Deep
open Go.Proofs.Ytlljmgphgmklcaa.Rowed Go.Proofs.Ytlljmgphgmklcaa.OpenAny Go.Proofs.Ytlljmgphgmklcaa.PRate

/-- the slice 'A, n' reads as the records l -/
abbrev Rates (w : World) (A : Option Addr) (n : Nat) (l : List Rate) : Prop := Cells w 5 A n (flat l)
theorem at_ {w : World} {A : Option Addr} {n k : Nat} {l : List Rate} (h : Rates w A n l) (hk : k < n) :
    ∃ (b o : Nat) (s : Rate), A = some ⟨b, o, none⟩ ∧ l[k]? = some s ∧ w.cell? ⟨b, o + k * 5, none⟩ = some (.int .i64 s.zone) ∧ w.cell? ⟨b, o + k * 5 + 1, none⟩ = some (.int .i64 s.grams) ∧ w.cell? ⟨b, o + k * 5 + 2, none⟩ = some (.int .i64 s.from_) ∧ w.cell? ⟨b, o + k * 5 + 3, none⟩ = some (.int .i64 s.until_) ∧ w.cell? ⟨b, o + k * 5 + 4, none⟩ = some (.int .i64 s.cents) := by
  have hl : k < l.length := by have := h.1; rw [flat_len] at this; omega
  obtain ⟨⟨b, o, sp⟩, e, hc⟩ := h.2 (by rw [flat_len]; omega)
  have h0 := hc 0 _ (flat_at l 0 l[0] (List.getElem?_eq_getElem (by omega)) 0 (by omega))
  obtain rfl : sp = none := cell_spot (b := b) (o := o) h0
  have hs := List.getElem?_eq_getElem hl
  have f := flat_at l k _ hs
  have g := fun j u hu => add_none b o j ▸ hc j u hu
  exact ⟨b, o, l[k], e, hs, g _ _ (f 0 (by omega)), g _ _ (f 1 (by omega)), g _ _ (f 2 (by omega)), g _ _ (f 3 (by omega)), g _ _ (f 4 (by omega))⟩
theorem len_of {w : World} {A : Option Addr} {n : Nat} {l : List Rate} (h : Rates w A n l) : l.length = n := by
  have := h.1
  rw [flat_len] at this; omega

/-- a slice of records that came in: the list that it reads as -/
structure Came (w : World) (A : Option Addr) (len cap : Nat) (l : List Rate) : Prop where
  cells : Rates w A len l
  small : len ≤ maxLen
  fits : ∀ s ∈ l, s.fits
theorem Came.len {w : World} {A : Option Addr} {len cap : Nat} {l : List Rate} (h : Came w A len cap l) : l.length = len := len_of h.cells

section
variable {H : Type} {enc : TypeId × Value → H} {w : World} {base : Nat} {spare : Nat → Bool} {held : Bool}
theorem read_one {n : Nat} {cs : List Value} {x : DataW H × List MemPlace} (h : DataW.trod enc Try.prog w base spare held n 106 cs = some x) : ∃ s : Rate, cs = s.cells ∧ s.fits := by
  have hc : Try.prog.cellsOf 106 = 5 := by kernel_rfl
  obtain ⟨hl, hf⟩ := read_fields Try.underlying106 (by kernel_rfl) hc h
  rw [hc] at hl
  match cs, hl with
  | [v0, v1, v2, v3, v4], _ =>
    obtain ⟨u0, n0, y0, eu0, t0⟩ := hf 0 _ rfl
    obtain ⟨x0, e0, _, f0⟩ := DataW.trod_int Try.underlying3 t0
    obtain rfl : v0 = u0 := by simpa using eu0
    obtain rfl : v0 = .int .i64 x0 := by simpa using e0
    obtain ⟨u1, n1, y1, eu1, t1⟩ := hf 1 _ rfl
    obtain ⟨x1, e1, _, f1⟩ := DataW.trod_int Try.underlying3 t1
    obtain rfl : v1 = u1 := by simpa using eu1
    obtain rfl : v1 = .int .i64 x1 := by simpa using e1
    obtain ⟨u2, n2, y2, eu2, t2⟩ := hf 2 _ rfl
    obtain ⟨x2, e2, _, f2⟩ := DataW.trod_int Try.underlying3 t2
    obtain rfl : v2 = u2 := by simpa using eu2
    obtain rfl : v2 = .int .i64 x2 := by simpa using e2
    obtain ⟨u3, n3, y3, eu3, t3⟩ := hf 3 _ rfl
    obtain ⟨x3, e3, _, f3⟩ := DataW.trod_int Try.underlying3 t3
    obtain rfl : v3 = u3 := by simpa using eu3
    obtain rfl : v3 = .int .i64 x3 := by simpa using e3
    obtain ⟨u4, n4, y4, eu4, t4⟩ := hf 4 _ rfl
    obtain ⟨x4, e4, _, f4⟩ := DataW.trod_int Try.underlying3 t4
    obtain rfl : v4 = u4 := by simpa using eu4
    obtain rfl : v4 = .int .i64 x4 := by simpa using e4
    exact ⟨⟨x0, x1, x2, x3, x4⟩, rfl, f0, f1, f2, f3, f4⟩
theorem open_one {r : Reach} {b0 : Nat} {v : Value} {d : DataW H} {p : List MemPlace} (hv : Value.okWide Try.prog w r b0 106 v) (h : DataW.Trod enc Try.prog w base spare held 106 v d p) :
    ∃ s : Rate, v = s.val ∧ s.fits := by
  obtain ⟨cs, n, x, rfl, ht⟩ := agg_any Try.underlying106 hv h
  obtain ⟨s, e, hs⟩ := read_one ht
  refine ⟨s, ?_, hs⟩
  obtain ⟨l⟩ := cs
  obtain rfl : l = s.cells := by simpa using e
  rfl
end
theorem open_field {H : Type} {enc : TypeId × Value → H} {W : World} {fuel : Nat} {u : Value} {y : DataW H × List MemPlace}
    (hf : DataW.trod enc Try.prog W 0 (fun _ => true) true fuel 35 [u] = some y) : ∃ (a : Option Addr) (len cap : Nat) (l : List Rate), u = .slice a len cap ∧ Came W a len cap l := by
  have ck : Try.prog.cellsOf 106 = 5 := by kernel_rfl
  rcases open_slice Try.underlying35 hf with ⟨hcs, _⟩ | ⟨x, ln, cp, m, n, D, Pl, hcs, hb, hl, hm, hmm, _, hi⟩
  · obtain rfl : u = .slice none 0 0 := by simpa using hcs
    exact ⟨none, 0, 0, [], rfl, Cells.nil_ _ _ _, by unfold maxLen; omega, by intro s hs; simp at hs⟩
  · obtain rfl : u = .slice (some x) ln cp := by simpa using hcs
    simp only [if_true] at hmm
    subst hmm
    rw [ck] at hi
    obtain ⟨l, hll, hp⟩ := list_of (fun k s => Rate.fits s ∧ ∀ j, j < 5 → W.cell? (x.add (k * 5 + j)) = s.cells[j]?) ln (fun k hk => by
      obtain ⟨cs', hc, ht⟩ := hi k (by omega)
      obtain ⟨s, rfl, hfit⟩ := read_one ht
      refine ⟨s, hfit, fun j hj => ?_⟩
      have := (World.cells?_some hc).2.2 j hj
      rw [Go.Deep.add_add] at this
      exact this)
    refine ⟨some x, ln, _, l, rfl, ⟨by rw [flat_len, hll], fun h0 => ⟨x, rfl, fun j u hu => ?_⟩⟩, by omega, fun s hs => ?_⟩
    · have hj : j < (flat l).length := (List.getElem?_eq_some_iff.1 hu).1
      rw [flat_len] at hj
      have hk : j / 5 < l.length := by omega
      have e := flat_at l (j / 5) l[j/5] (List.getElem?_eq_getElem hk) (j % 5) (by omega)
      rw [show j / 5 * 5 + j % 5 = j by omega, hu] at e
      have := (hp (j / 5) l[j/5] (List.getElem?_eq_getElem hk)).2 (j % 5) (by omega)
      rw [show j / 5 * 5 + j % 5 = j by omega, ← e] at this
      exact this
    · obtain ⟨k, hk⟩ := List.getElem?_of_mem hs
      exact (hp k s hk).1
theorem open_many {H : Type} {enc : TypeId × Value → H} {W : World} {a : Option Addr} {len cap : Nat} {d : DataW H} {p : List MemPlace}
    (h : DataW.Trod enc Try.prog W 0 (fun _ => true) true 35 (.slice a len cap) d p) : ∃ l : List Rate, Came W a len cap l := by
  obtain ⟨fuel, hf⟩ := h
  obtain ⟨a2, l2, c2, l, e, hl⟩ := open_field (u := .slice a len cap) hf
  simp only [Value.slice.injEq] at e
  obtain ⟨rfl, rfl, rfl⟩ := e
  exact ⟨l, hl⟩

/-- a record that was boxed -/
theorem box_ {w : World} {s : Rate} {g : Nat} (h : Cells w 5 (some ⟨g, 0, none⟩) 1 s.cells) : w.cell? ⟨g, 0, none⟩ = some (.int .i64 s.zone) ∧ w.cell? ⟨g, 1, none⟩ = some (.int .i64 s.grams) ∧ w.cell? ⟨g, 2, none⟩ = some (.int .i64 s.from_) ∧ w.cell? ⟨g, 3, none⟩ = some (.int .i64 s.until_) ∧ w.cell? ⟨g, 4, none⟩ = some (.int .i64 s.cents) := by
  obtain ⟨ad, e, hc⟩ := h.2 (by simp [Rate.cells])
  obtain rfl := Option.some.inj e
  have gg := fun j u hu => add_none g 0 j ▸ hc j u hu
  exact ⟨by simpa using gg 0 _ rfl, by simpa using gg 1 _ rfl, by simpa using gg 2 _ rfl, by simpa using gg 3 _ rfl, by simpa using gg 4 _ rfl⟩
theorem box_new (w : World) (s : Rate) (T : TypeId) : Cells (w.alloc (.cells #[.int .i64 s.zone, .int .i64 s.grams, .int .i64 s.from_, .int .i64 s.until_, .int .i64 s.cents] T)) 5 (some ⟨w.heap.size, 0, none⟩) 1 s.cells :=
  ⟨by simp [Rate.cells], fun _ => ⟨_, rfl, fun j u hu => by
    have hj : j < 5 := by have := (List.getElem?_eq_some_iff.1 hu).1; simpa [Rate.cells] using this
    rw [add_none, World.cell?_alloc_new]
    match j, hj with
    | 0, _ => simpa [Rate.cells] using hu
    | 1, _ => simpa [Rate.cells] using hu
    | 2, _ => simpa [Rate.cells] using hu
    | 3, _ => simpa [Rate.cells] using hu
    | 4, _ => simpa [Rate.cells] using hu
⟩⟩
end Go.Proofs.Ytlljmgphgmklcaa.ORate

/- loop.example/g01062/laws.toRate as a plain function, and the contract of the program's: where the plain one has an answer, the program has it. Conditions: slices read as lists. -/
namespace Go.Proofs.Ytlljmgphgmklcaa.GlToRate
set_option linter.unusedVariables false
set_option linter.unusedSimpArgs false
open Go.RowKit
open Go.Proofs.Ytlljmgphgmklcaa.Rowed Go.Proofs.Ytlljmgphgmklcaa.Turn Go.Proofs.Ytlljmgphgmklcaa.Aid Go.Proofs.Ytlljmgphgmklcaa.GoP Go.Proofs.Ytlljmgphgmklcaa.GoM

def P (a : Go.Proofs.Ytlljmgphgmklcaa.PRate.Rate) : Option (Go.Proofs.Ytlljmgphgmklcaa.PRate.Rate) :=
  unRate a fun (a_zone : Int) (a_grams : Int) (a_from_ : Int) (a_until_ : Int) (a_cents : Int) =>
  some (Go.Proofs.Ytlljmgphgmklcaa.PRate.Rate.mk a_zone a_grams a_from_ a_until_ a_cents)

set_option maxRecDepth 100000 in
set_option maxHeartbeats 2000000 in
theorem C (a : Go.Proofs.Ytlljmgphgmklcaa.PRate.Rate)   (w : World)   {r : Go.Proofs.Ytlljmgphgmklcaa.PRate.Rate} (H : Hid (P a = some r)) :
    Calls Try.prog 92 #[a.val] w (Gives ((Go.Proofs.Ytlljmgphgmklcaa.PRate.Rate.val r)) w) := by
  have HB := Lib.hid (Below.refl w.heap.size w)
  unfold P at H
  obtain ⟨a_zone, a_grams, a_from_, a_until_, a_cents⟩ := a
  replace H := unRate_hid H
  unfold Go.Proofs.Ytlljmgphgmklcaa.PRate.Rate.val
  go_enter Try.func92, Try.ntmps92
  obtain ⟨w_a_0, hw_a_0⟩ : ∃ x, w.alloc (.cells #[.int .i64 a_zone, .int .i64 a_grams, .int .i64 a_from_, .int .i64 a_until_, .int .i64 a_cents] 106) = x := ⟨_, rfl⟩
  have bw_a_0 : Below w.heap.size w w_a_0 := by rw [← hw_a_0]; exact (Below.refl _ _).alloc (Nat.le_refl _) _
  have HBw_a_0 := Lib.hid (Below.step HB.out bw_a_0)
  clear bw_a_0
  have ka_0_0 : w_a_0.cell? ⟨w.heap.size, 0, none⟩ = some (.int .i64 a_zone) := by rw [← hw_a_0]; exact box_new _ _ _ 0 _ rfl
  have ka_0_1 : w_a_0.cell? ⟨w.heap.size, 1, none⟩ = some (.int .i64 a_grams) := by rw [← hw_a_0]; exact box_new _ _ _ 1 _ rfl
  have ka_0_2 : w_a_0.cell? ⟨w.heap.size, 2, none⟩ = some (.int .i64 a_from_) := by rw [← hw_a_0]; exact box_new _ _ _ 2 _ rfl
  have ka_0_3 : w_a_0.cell? ⟨w.heap.size, 3, none⟩ = some (.int .i64 a_until_) := by rw [← hw_a_0]; exact box_new _ _ _ 3 _ rfl
  have ka_0_4 : w_a_0.cell? ⟨w.heap.size, 4, none⟩ = some (.int .i64 a_cents) := by rw [← hw_a_0]; exact box_new _ _ _ 4 _ rfl
  obtain ⟨w_t_1, hw_t_1⟩ : ∃ x, w_a_0.alloc (.cells #[.int .i64 0, .int .i64 0, .int .i64 0, .int .i64 0, .int .i64 0] 104) = x := ⟨_, rfl⟩
  have bw_t_1 : Below w_a_0.heap.size w_a_0 w_t_1 := by rw [← hw_t_1]; exact (Below.refl _ _).alloc (Nat.le_refl _) _
  have Dt_1_a_0 := Lib.hid (apart_box ka_0_0)
  have HBw_t_1 := Lib.hid (Below.step HBw_a_0.out bw_t_1)
  have ka_0_0__1 := cell_below bw_t_1 ka_0_0
  have ka_0_1__2 := cell_below bw_t_1 ka_0_1
  have ka_0_2__3 := cell_below bw_t_1 ka_0_2
  have ka_0_3__4 := cell_below bw_t_1 ka_0_3
  have ka_0_4__5 := cell_below bw_t_1 ka_0_4
  clear bw_t_1
  have kt_1_0 : w_t_1.cell? ⟨w_a_0.heap.size, 0, none⟩ = some (.int .i64 0) := by rw [← hw_t_1]; exact box_new _ _ _ 0 _ rfl
  have kt_1_1 : w_t_1.cell? ⟨w_a_0.heap.size, 1, none⟩ = some (.int .i64 0) := by rw [← hw_t_1]; exact box_new _ _ _ 1 _ rfl
  have kt_1_2 : w_t_1.cell? ⟨w_a_0.heap.size, 2, none⟩ = some (.int .i64 0) := by rw [← hw_t_1]; exact box_new _ _ _ 2 _ rfl
  have kt_1_3 : w_t_1.cell? ⟨w_a_0.heap.size, 3, none⟩ = some (.int .i64 0) := by rw [← hw_t_1]; exact box_new _ _ _ 3 _ rfl
  have kt_1_4 : w_t_1.cell? ⟨w_a_0.heap.size, 4, none⟩ = some (.int .i64 0) := by rw [← hw_t_1]; exact box_new _ _ _ 4 _ rfl
  have Ot_1 : Hid (w_t_1.ownsRow w.heap.size 104 5 (.slice (some ⟨w_a_0.heap.size, 0, none⟩) 1 1) 1 [.int .i64 0, .int .i64 0, .int .i64 0, .int .i64 0, .int .i64 0]) := Lib.hid (by rw [← hw_t_1]; exact own_laid (n := 1) HBw_a_0.out.size rfl rfl (by unfold maxLen; omega))
  obtain ⟨w_out_2, hw_out_2⟩ : ∃ x, w_t_1.alloc (.cells #[.int .i64 0, .int .i64 0, .int .i64 0, .int .i64 0, .int .i64 0] 104) = x := ⟨_, rfl⟩
  have bw_out_2 : Below w_t_1.heap.size w_t_1 w_out_2 := by rw [← hw_out_2]; exact (Below.refl _ _).alloc (Nat.le_refl _) _
  have Dout_2_a_0 := Lib.hid (apart_box ka_0_0__1)
  have Dout_2_t_1 := Lib.hid (apart_box kt_1_0)
  have HBw_out_2 := Lib.hid (Below.step HBw_t_1.out bw_out_2)
  have ka_0_0__6 := cell_below bw_out_2 ka_0_0__1
  have ka_0_1__7 := cell_below bw_out_2 ka_0_1__2
  have ka_0_2__8 := cell_below bw_out_2 ka_0_2__3
  have ka_0_3__9 := cell_below bw_out_2 ka_0_3__4
  have ka_0_4__10 := cell_below bw_out_2 ka_0_4__5
  have kt_1_0__11 := cell_below bw_out_2 kt_1_0
  have kt_1_1__12 := cell_below bw_out_2 kt_1_1
  have kt_1_2__13 := cell_below bw_out_2 kt_1_2
  have kt_1_3__14 := cell_below bw_out_2 kt_1_3
  have kt_1_4__15 := cell_below bw_out_2 kt_1_4
  replace Ot_1 := Lib.hid (own_below Ot_1.out bw_out_2)
  clear bw_out_2
  have kout_2_0 : w_out_2.cell? ⟨w_t_1.heap.size, 0, none⟩ = some (.int .i64 0) := by rw [← hw_out_2]; exact box_new _ _ _ 0 _ rfl
  have kout_2_1 : w_out_2.cell? ⟨w_t_1.heap.size, 1, none⟩ = some (.int .i64 0) := by rw [← hw_out_2]; exact box_new _ _ _ 1 _ rfl
  have kout_2_2 : w_out_2.cell? ⟨w_t_1.heap.size, 2, none⟩ = some (.int .i64 0) := by rw [← hw_out_2]; exact box_new _ _ _ 2 _ rfl
  have kout_2_3 : w_out_2.cell? ⟨w_t_1.heap.size, 3, none⟩ = some (.int .i64 0) := by rw [← hw_out_2]; exact box_new _ _ _ 3 _ rfl
  have kout_2_4 : w_out_2.cell? ⟨w_t_1.heap.size, 4, none⟩ = some (.int .i64 0) := by rw [← hw_out_2]; exact box_new _ _ _ 4 _ rfl
  have Oout_2 : Hid (w_out_2.ownsRow w.heap.size 104 5 (.slice (some ⟨w_t_1.heap.size, 0, none⟩) 1 1) 1 [.int .i64 0, .int .i64 0, .int .i64 0, .int .i64 0, .int .i64 0]) := Lib.hid (by rw [← hw_out_2]; exact own_laid (n := 1) HBw_t_1.out.size rfl rfl (by unfold maxLen; omega))
  obtain ⟨wb6_6, hwb6_6⟩ : ∃ x, (w_out_2).setCell ⟨w_t_1.heap.size, 0, none⟩ (.int .i64 a_zone) = x := ⟨_, rfl⟩
  have z0b6_6 := Oout_2.out.frozenAt 0
  have Sb6_6 := Lib.hid (own_stores [(0, .int .i64 a_zone)] Oout_2.out)
  have Pb6_6 : Hid (wb6_6.ownsRow w.heap.size 104 5 (.slice (some ⟨w_t_1.heap.size, 0, none⟩) 1 1) 1 [.int .i64 a_zone, .int .i64 0, .int .i64 0, .int .i64 0, .int .i64 0]) := Lib.hid (by rw [← hwb6_6]; exact Sb6_6.out.1)
  have Gb6_6 : Hid (w_out_2.grownBy wb6_6 (Value.slice (some ⟨w_t_1.heap.size, 0, none⟩) 1 1).ownBlock) := Lib.hid (by rw [← hwb6_6]; exact Sb6_6.out.2)
  have HBwb6_6 := Lib.hid (HBw_out_2.out.grown Gb6_6.out HBw_out_2.out.size (fun q hq => (Oout_2.out.lt q hq).1))
  clear Sb6_6
  have ka_0_0__16 := cell_other ka_0_0__6 Gb6_6.out Dout_2_a_0.out
  have ka_0_1__17 := cell_other ka_0_1__7 Gb6_6.out Dout_2_a_0.out
  have ka_0_2__18 := cell_other ka_0_2__8 Gb6_6.out Dout_2_a_0.out
  have ka_0_3__19 := cell_other ka_0_3__9 Gb6_6.out Dout_2_a_0.out
  have ka_0_4__20 := cell_other ka_0_4__10 Gb6_6.out Dout_2_a_0.out
  have kt_1_0__21 := cell_other kt_1_0__11 Gb6_6.out Dout_2_t_1.out
  have kt_1_1__22 := cell_other kt_1_1__12 Gb6_6.out Dout_2_t_1.out
  have kt_1_2__23 := cell_other kt_1_2__13 Gb6_6.out Dout_2_t_1.out
  have kt_1_3__24 := cell_other kt_1_3__14 Gb6_6.out Dout_2_t_1.out
  have kt_1_4__25 := cell_other kt_1_4__15 Gb6_6.out Dout_2_t_1.out
  replace Ot_1 := Lib.hid (own_other Ot_1.out Gb6_6.out Dout_2_t_1.out)
  clear Oout_2 Gb6_6
  have kout_2_0__26 : wb6_6.cell? ⟨w_t_1.heap.size, 0, none⟩ = some (.int .i64 a_zone) := Pb6_6.out.cells rfl 0 _ rfl
  have kout_2_1__27 : wb6_6.cell? ⟨w_t_1.heap.size, 1, none⟩ = some (.int .i64 0) := Pb6_6.out.cells rfl 1 _ rfl
  have kout_2_2__28 : wb6_6.cell? ⟨w_t_1.heap.size, 2, none⟩ = some (.int .i64 0) := Pb6_6.out.cells rfl 2 _ rfl
  have kout_2_3__29 : wb6_6.cell? ⟨w_t_1.heap.size, 3, none⟩ = some (.int .i64 0) := Pb6_6.out.cells rfl 3 _ rfl
  have kout_2_4__30 : wb6_6.cell? ⟨w_t_1.heap.size, 4, none⟩ = some (.int .i64 0) := Pb6_6.out.cells rfl 4 _ rfl
  obtain ⟨wb10_10, hwb10_10⟩ : ∃ x, (wb6_6).setCell ⟨w_t_1.heap.size, 1, none⟩ (.int .i64 a_grams) = x := ⟨_, rfl⟩
  have z0b10_10 := Pb6_6.out.frozenAt 1
  have Sb10_10 := Lib.hid (own_stores [(1, .int .i64 a_grams)] Pb6_6.out)
  have Pb10_10 : Hid (wb10_10.ownsRow w.heap.size 104 5 (.slice (some ⟨w_t_1.heap.size, 0, none⟩) 1 1) 1 [.int .i64 a_zone, .int .i64 a_grams, .int .i64 0, .int .i64 0, .int .i64 0]) := Lib.hid (by rw [← hwb10_10]; exact Sb10_10.out.1)
  have Gb10_10 : Hid (wb6_6.grownBy wb10_10 (Value.slice (some ⟨w_t_1.heap.size, 0, none⟩) 1 1).ownBlock) := Lib.hid (by rw [← hwb10_10]; exact Sb10_10.out.2)
  have HBwb10_10 := Lib.hid (HBwb6_6.out.grown Gb10_10.out HBwb6_6.out.size (fun q hq => (Pb6_6.out.lt q hq).1))
  clear Sb10_10
  have ka_0_0__31 := cell_other ka_0_0__16 Gb10_10.out Dout_2_a_0.out
  have ka_0_1__32 := cell_other ka_0_1__17 Gb10_10.out Dout_2_a_0.out
  have ka_0_2__33 := cell_other ka_0_2__18 Gb10_10.out Dout_2_a_0.out
  have ka_0_3__34 := cell_other ka_0_3__19 Gb10_10.out Dout_2_a_0.out
  have ka_0_4__35 := cell_other ka_0_4__20 Gb10_10.out Dout_2_a_0.out
  have kt_1_0__36 := cell_other kt_1_0__21 Gb10_10.out Dout_2_t_1.out
  have kt_1_1__37 := cell_other kt_1_1__22 Gb10_10.out Dout_2_t_1.out
  have kt_1_2__38 := cell_other kt_1_2__23 Gb10_10.out Dout_2_t_1.out
  have kt_1_3__39 := cell_other kt_1_3__24 Gb10_10.out Dout_2_t_1.out
  have kt_1_4__40 := cell_other kt_1_4__25 Gb10_10.out Dout_2_t_1.out
  replace Ot_1 := Lib.hid (own_other Ot_1.out Gb10_10.out Dout_2_t_1.out)
  clear Pb6_6 Gb10_10
  have kout_2_0__41 : wb10_10.cell? ⟨w_t_1.heap.size, 0, none⟩ = some (.int .i64 a_zone) := Pb10_10.out.cells rfl 0 _ rfl
  have kout_2_1__42 : wb10_10.cell? ⟨w_t_1.heap.size, 1, none⟩ = some (.int .i64 a_grams) := Pb10_10.out.cells rfl 1 _ rfl
  have kout_2_2__43 : wb10_10.cell? ⟨w_t_1.heap.size, 2, none⟩ = some (.int .i64 0) := Pb10_10.out.cells rfl 2 _ rfl
  have kout_2_3__44 : wb10_10.cell? ⟨w_t_1.heap.size, 3, none⟩ = some (.int .i64 0) := Pb10_10.out.cells rfl 3 _ rfl
  have kout_2_4__45 : wb10_10.cell? ⟨w_t_1.heap.size, 4, none⟩ = some (.int .i64 0) := Pb10_10.out.cells rfl 4 _ rfl
  obtain ⟨wb14_14, hwb14_14⟩ : ∃ x, (wb10_10).setCell ⟨w_t_1.heap.size, 2, none⟩ (.int .i64 a_from_) = x := ⟨_, rfl⟩
  have z0b14_14 := Pb10_10.out.frozenAt 2
  have Sb14_14 := Lib.hid (own_stores [(2, .int .i64 a_from_)] Pb10_10.out)
  have Pb14_14 : Hid (wb14_14.ownsRow w.heap.size 104 5 (.slice (some ⟨w_t_1.heap.size, 0, none⟩) 1 1) 1 [.int .i64 a_zone, .int .i64 a_grams, .int .i64 a_from_, .int .i64 0, .int .i64 0]) := Lib.hid (by rw [← hwb14_14]; exact Sb14_14.out.1)
  have Gb14_14 : Hid (wb10_10.grownBy wb14_14 (Value.slice (some ⟨w_t_1.heap.size, 0, none⟩) 1 1).ownBlock) := Lib.hid (by rw [← hwb14_14]; exact Sb14_14.out.2)
  have HBwb14_14 := Lib.hid (HBwb10_10.out.grown Gb14_14.out HBwb10_10.out.size (fun q hq => (Pb10_10.out.lt q hq).1))
  clear Sb14_14
  have ka_0_0__46 := cell_other ka_0_0__31 Gb14_14.out Dout_2_a_0.out
  have ka_0_1__47 := cell_other ka_0_1__32 Gb14_14.out Dout_2_a_0.out
  have ka_0_2__48 := cell_other ka_0_2__33 Gb14_14.out Dout_2_a_0.out
  have ka_0_3__49 := cell_other ka_0_3__34 Gb14_14.out Dout_2_a_0.out
  have ka_0_4__50 := cell_other ka_0_4__35 Gb14_14.out Dout_2_a_0.out
  have kt_1_0__51 := cell_other kt_1_0__36 Gb14_14.out Dout_2_t_1.out
  have kt_1_1__52 := cell_other kt_1_1__37 Gb14_14.out Dout_2_t_1.out
  have kt_1_2__53 := cell_other kt_1_2__38 Gb14_14.out Dout_2_t_1.out
  have kt_1_3__54 := cell_other kt_1_3__39 Gb14_14.out Dout_2_t_1.out
  have kt_1_4__55 := cell_other kt_1_4__40 Gb14_14.out Dout_2_t_1.out
  replace Ot_1 := Lib.hid (own_other Ot_1.out Gb14_14.out Dout_2_t_1.out)
  clear Pb10_10 Gb14_14
  have kout_2_0__56 : wb14_14.cell? ⟨w_t_1.heap.size, 0, none⟩ = some (.int .i64 a_zone) := Pb14_14.out.cells rfl 0 _ rfl
  have kout_2_1__57 : wb14_14.cell? ⟨w_t_1.heap.size, 1, none⟩ = some (.int .i64 a_grams) := Pb14_14.out.cells rfl 1 _ rfl
  have kout_2_2__58 : wb14_14.cell? ⟨w_t_1.heap.size, 2, none⟩ = some (.int .i64 a_from_) := Pb14_14.out.cells rfl 2 _ rfl
  have kout_2_3__59 : wb14_14.cell? ⟨w_t_1.heap.size, 3, none⟩ = some (.int .i64 0) := Pb14_14.out.cells rfl 3 _ rfl
  have kout_2_4__60 : wb14_14.cell? ⟨w_t_1.heap.size, 4, none⟩ = some (.int .i64 0) := Pb14_14.out.cells rfl 4 _ rfl
  obtain ⟨wb18_18, hwb18_18⟩ : ∃ x, (wb14_14).setCell ⟨w_t_1.heap.size, 3, none⟩ (.int .i64 a_until_) = x := ⟨_, rfl⟩
  have z0b18_18 := Pb14_14.out.frozenAt 3
  have Sb18_18 := Lib.hid (own_stores [(3, .int .i64 a_until_)] Pb14_14.out)
  have Pb18_18 : Hid (wb18_18.ownsRow w.heap.size 104 5 (.slice (some ⟨w_t_1.heap.size, 0, none⟩) 1 1) 1 [.int .i64 a_zone, .int .i64 a_grams, .int .i64 a_from_, .int .i64 a_until_, .int .i64 0]) := Lib.hid (by rw [← hwb18_18]; exact Sb18_18.out.1)
  have Gb18_18 : Hid (wb14_14.grownBy wb18_18 (Value.slice (some ⟨w_t_1.heap.size, 0, none⟩) 1 1).ownBlock) := Lib.hid (by rw [← hwb18_18]; exact Sb18_18.out.2)
  have HBwb18_18 := Lib.hid (HBwb14_14.out.grown Gb18_18.out HBwb14_14.out.size (fun q hq => (Pb14_14.out.lt q hq).1))
  clear Sb18_18
  have ka_0_0__61 := cell_other ka_0_0__46 Gb18_18.out Dout_2_a_0.out
  have ka_0_1__62 := cell_other ka_0_1__47 Gb18_18.out Dout_2_a_0.out
  have ka_0_2__63 := cell_other ka_0_2__48 Gb18_18.out Dout_2_a_0.out
  have ka_0_3__64 := cell_other ka_0_3__49 Gb18_18.out Dout_2_a_0.out
  have ka_0_4__65 := cell_other ka_0_4__50 Gb18_18.out Dout_2_a_0.out
  have kt_1_0__66 := cell_other kt_1_0__51 Gb18_18.out Dout_2_t_1.out
  have kt_1_1__67 := cell_other kt_1_1__52 Gb18_18.out Dout_2_t_1.out
  have kt_1_2__68 := cell_other kt_1_2__53 Gb18_18.out Dout_2_t_1.out
  have kt_1_3__69 := cell_other kt_1_3__54 Gb18_18.out Dout_2_t_1.out
  have kt_1_4__70 := cell_other kt_1_4__55 Gb18_18.out Dout_2_t_1.out
  replace Ot_1 := Lib.hid (own_other Ot_1.out Gb18_18.out Dout_2_t_1.out)
  clear Pb14_14 Gb18_18
  have kout_2_0__71 : wb18_18.cell? ⟨w_t_1.heap.size, 0, none⟩ = some (.int .i64 a_zone) := Pb18_18.out.cells rfl 0 _ rfl
  have kout_2_1__72 : wb18_18.cell? ⟨w_t_1.heap.size, 1, none⟩ = some (.int .i64 a_grams) := Pb18_18.out.cells rfl 1 _ rfl
  have kout_2_2__73 : wb18_18.cell? ⟨w_t_1.heap.size, 2, none⟩ = some (.int .i64 a_from_) := Pb18_18.out.cells rfl 2 _ rfl
  have kout_2_3__74 : wb18_18.cell? ⟨w_t_1.heap.size, 3, none⟩ = some (.int .i64 a_until_) := Pb18_18.out.cells rfl 3 _ rfl
  have kout_2_4__75 : wb18_18.cell? ⟨w_t_1.heap.size, 4, none⟩ = some (.int .i64 0) := Pb18_18.out.cells rfl 4 _ rfl
  obtain ⟨wb22_22, hwb22_22⟩ : ∃ x, (wb18_18).setCell ⟨w_t_1.heap.size, 4, none⟩ (.int .i64 a_cents) = x := ⟨_, rfl⟩
  have z0b22_22 := Pb18_18.out.frozenAt 4
  have Sb22_22 := Lib.hid (own_stores [(4, .int .i64 a_cents)] Pb18_18.out)
  have Pb22_22 : Hid (wb22_22.ownsRow w.heap.size 104 5 (.slice (some ⟨w_t_1.heap.size, 0, none⟩) 1 1) 1 [.int .i64 a_zone, .int .i64 a_grams, .int .i64 a_from_, .int .i64 a_until_, .int .i64 a_cents]) := Lib.hid (by rw [← hwb22_22]; exact Sb22_22.out.1)
  have Gb22_22 : Hid (wb18_18.grownBy wb22_22 (Value.slice (some ⟨w_t_1.heap.size, 0, none⟩) 1 1).ownBlock) := Lib.hid (by rw [← hwb22_22]; exact Sb22_22.out.2)
  have HBwb22_22 := Lib.hid (HBwb18_18.out.grown Gb22_22.out HBwb18_18.out.size (fun q hq => (Pb18_18.out.lt q hq).1))
  clear Sb22_22
  have ka_0_0__76 := cell_other ka_0_0__61 Gb22_22.out Dout_2_a_0.out
  have ka_0_1__77 := cell_other ka_0_1__62 Gb22_22.out Dout_2_a_0.out
  have ka_0_2__78 := cell_other ka_0_2__63 Gb22_22.out Dout_2_a_0.out
  have ka_0_3__79 := cell_other ka_0_3__64 Gb22_22.out Dout_2_a_0.out
  have ka_0_4__80 := cell_other ka_0_4__65 Gb22_22.out Dout_2_a_0.out
  have kt_1_0__81 := cell_other kt_1_0__66 Gb22_22.out Dout_2_t_1.out
  have kt_1_1__82 := cell_other kt_1_1__67 Gb22_22.out Dout_2_t_1.out
  have kt_1_2__83 := cell_other kt_1_2__68 Gb22_22.out Dout_2_t_1.out
  have kt_1_3__84 := cell_other kt_1_3__69 Gb22_22.out Dout_2_t_1.out
  have kt_1_4__85 := cell_other kt_1_4__70 Gb22_22.out Dout_2_t_1.out
  replace Ot_1 := Lib.hid (own_other Ot_1.out Gb22_22.out Dout_2_t_1.out)
  clear Pb18_18 Gb22_22
  have kout_2_0__86 : wb22_22.cell? ⟨w_t_1.heap.size, 0, none⟩ = some (.int .i64 a_zone) := Pb22_22.out.cells rfl 0 _ rfl
  have kout_2_1__87 : wb22_22.cell? ⟨w_t_1.heap.size, 1, none⟩ = some (.int .i64 a_grams) := Pb22_22.out.cells rfl 1 _ rfl
  have kout_2_2__88 : wb22_22.cell? ⟨w_t_1.heap.size, 2, none⟩ = some (.int .i64 a_from_) := Pb22_22.out.cells rfl 2 _ rfl
  have kout_2_3__89 : wb22_22.cell? ⟨w_t_1.heap.size, 3, none⟩ = some (.int .i64 a_until_) := Pb22_22.out.cells rfl 3 _ rfl
  have kout_2_4__90 : wb22_22.cell? ⟨w_t_1.heap.size, 4, none⟩ = some (.int .i64 a_cents) := Pb22_22.out.cells rfl 4 _ rfl
  obtain ⟨wb24_24, hwb24_24⟩ : ∃ x, (((((wb22_22).setCell ⟨w_a_0.heap.size, 0, none⟩ (.int .i64 a_zone)).setCell ⟨w_a_0.heap.size, 1, none⟩ (.int .i64 a_grams)).setCell ⟨w_a_0.heap.size, 2, none⟩ (.int .i64 a_from_)).setCell ⟨w_a_0.heap.size, 3, none⟩ (.int .i64 a_until_)).setCell ⟨w_a_0.heap.size, 4, none⟩ (.int .i64 a_cents) = x := ⟨_, rfl⟩
  have z0b24_24 := Ot_1.out.frozenAt 0
  have z1b24_24 := Ot_1.out.frozenAt 1
  have z2b24_24 := Ot_1.out.frozenAt 2
  have z3b24_24 := Ot_1.out.frozenAt 3
  have z4b24_24 := Ot_1.out.frozenAt 4
  have Sb24_24 := Lib.hid (own_stores [(0, .int .i64 a_zone), (1, .int .i64 a_grams), (2, .int .i64 a_from_), (3, .int .i64 a_until_), (4, .int .i64 a_cents)] Ot_1.out)
  have Pb24_24 : Hid (wb24_24.ownsRow w.heap.size 104 5 (.slice (some ⟨w_a_0.heap.size, 0, none⟩) 1 1) 1 [.int .i64 a_zone, .int .i64 a_grams, .int .i64 a_from_, .int .i64 a_until_, .int .i64 a_cents]) := Lib.hid (by rw [← hwb24_24]; exact Sb24_24.out.1)
  have Gb24_24 : Hid (wb22_22.grownBy wb24_24 (Value.slice (some ⟨w_a_0.heap.size, 0, none⟩) 1 1).ownBlock) := Lib.hid (by rw [← hwb24_24]; exact Sb24_24.out.2)
  have HBwb24_24 := Lib.hid (HBwb22_22.out.grown Gb24_24.out HBwb22_22.out.size (fun q hq => (Ot_1.out.lt q hq).1))
  clear Sb24_24
  have ka_0_0__91 := cell_other ka_0_0__76 Gb24_24.out Dt_1_a_0.out
  have ka_0_1__92 := cell_other ka_0_1__77 Gb24_24.out Dt_1_a_0.out
  have ka_0_2__93 := cell_other ka_0_2__78 Gb24_24.out Dt_1_a_0.out
  have ka_0_3__94 := cell_other ka_0_3__79 Gb24_24.out Dt_1_a_0.out
  have ka_0_4__95 := cell_other ka_0_4__80 Gb24_24.out Dt_1_a_0.out
  have kout_2_0__96 := cell_other kout_2_0__86 Gb24_24.out (Apart.symm Dout_2_t_1.out)
  have kout_2_1__97 := cell_other kout_2_1__87 Gb24_24.out (Apart.symm Dout_2_t_1.out)
  have kout_2_2__98 := cell_other kout_2_2__88 Gb24_24.out (Apart.symm Dout_2_t_1.out)
  have kout_2_3__99 := cell_other kout_2_3__89 Gb24_24.out (Apart.symm Dout_2_t_1.out)
  have kout_2_4__100 := cell_other kout_2_4__90 Gb24_24.out (Apart.symm Dout_2_t_1.out)
  replace Pb22_22 := Lib.hid (own_other Pb22_22.out Gb24_24.out (Apart.symm Dout_2_t_1.out))
  clear Ot_1 Gb24_24
  have kt_1_0__101 : wb24_24.cell? ⟨w_a_0.heap.size, 0, none⟩ = some (.int .i64 a_zone) := Pb24_24.out.cells rfl 0 _ rfl
  have kt_1_1__102 : wb24_24.cell? ⟨w_a_0.heap.size, 1, none⟩ = some (.int .i64 a_grams) := Pb24_24.out.cells rfl 1 _ rfl
  have kt_1_2__103 : wb24_24.cell? ⟨w_a_0.heap.size, 2, none⟩ = some (.int .i64 a_from_) := Pb24_24.out.cells rfl 2 _ rfl
  have kt_1_3__104 : wb24_24.cell? ⟨w_a_0.heap.size, 3, none⟩ = some (.int .i64 a_until_) := Pb24_24.out.cells rfl 3 _ rfl
  have kt_1_4__105 : wb24_24.cell? ⟨w_a_0.heap.size, 4, none⟩ = some (.int .i64 a_cents) := Pb24_24.out.cells rfl 4 _ rfl
  cases ret_hid H
  go_wp2_with fail
  (try simp only [Exit.inBlock, Exit.then])
  refine bodyPost_ret (v := .agg #[.int .i64 a_zone, .int .i64 a_grams, .int .i64 a_from_, .int .i64 a_until_, .int .i64 a_cents]) ?hr_ ?hd_ ?_
  case hd_ => rfl
  case hr_ => simp [results, Try.results92, kt_1_0__101, kt_1_1__102, kt_1_2__103, kt_1_3__104, kt_1_4__105, go_sem]
  exact ⟨rfl, HBwb24_24.out⟩
end Go.Proofs.Ytlljmgphgmklcaa.GlToRate

/- loop.example/g01062/laws.toRateS as a plain function, and the contract of the program's: where the plain one has an answer, the program has it. Conditions: slices read as lists. -/
namespace Go.Proofs.Ytlljmgphgmklcaa.GlToRateS
set_option linter.unusedVariables false
set_option linter.unusedSimpArgs false
open Go.RowKit
open Go.Proofs.Ytlljmgphgmklcaa.Rowed Go.Proofs.Ytlljmgphgmklcaa.Turn Go.Proofs.Ytlljmgphgmklcaa.Aid Go.Proofs.Ytlljmgphgmklcaa.GoP Go.Proofs.Ytlljmgphgmklcaa.GoM

def l0 (a : (List Go.Proofs.Ytlljmgphgmklcaa.PRate.Rate)) (k0 : Nat) (s : (List Go.Proofs.Ytlljmgphgmklcaa.PRate.Rate)) (nx0 bk0 : (List Go.Proofs.Ytlljmgphgmklcaa.PRate.Rate) → Option ((List Go.Proofs.Ytlljmgphgmklcaa.PRate.Rate))) : Option ((List Go.Proofs.Ytlljmgphgmklcaa.PRate.Rate)) :=
  letK s fun out_3l0 =>
  Option.bind (idx a (k0 : Int)) fun (yt_14 : Go.Proofs.Ytlljmgphgmklcaa.PRate.Rate) =>
  unRate yt_14 fun (t_14_zone : Int) (t_14_grams : Int) (t_14_from_ : Int) (t_14_until_ : Int) (t_14_cents : Int) =>
  Option.bind (Go.Proofs.Ytlljmgphgmklcaa.GlToRate.P (Go.Proofs.Ytlljmgphgmklcaa.PRate.Rate.mk t_14_zone t_14_grams t_14_from_ t_14_until_ t_14_cents)) fun (t_16 : Go.Proofs.Ytlljmgphgmklcaa.PRate.Rate) =>
  unRate t_16 fun (t_16_zone : Int) (t_16_grams : Int) (t_16_from_ : Int) (t_16_until_ : Int) (t_16_cents : Int) =>
  Option.bind (idx out_3l0 (k0 : Int)) fun (yt_17 : Go.Proofs.Ytlljmgphgmklcaa.PRate.Rate) =>
  unRate yt_17 fun (t_17_zone : Int) (t_17_grams : Int) (t_17_from_ : Int) (t_17_until_ : Int) (t_17_cents : Int) =>
  letK (out_3l0.set k0 (Go.Proofs.Ytlljmgphgmklcaa.PRate.Rate.mk t_16_zone t_16_grams t_16_from_ t_16_until_ t_16_cents)) fun (l18_18 : (List Go.Proofs.Ytlljmgphgmklcaa.PRate.Rate)) =>
  appK nx0 (l18_18)

def e0  (s : (List Go.Proofs.Ytlljmgphgmklcaa.PRate.Rate)) : Option ((List Go.Proofs.Ytlljmgphgmklcaa.PRate.Rate)) :=
  letK s fun out_3l0 =>
  some out_3l0

def P (a : (List Go.Proofs.Ytlljmgphgmklcaa.PRate.Rate)) : Option ((List Go.Proofs.Ytlljmgphgmklcaa.PRate.Rate)) :=
  guardK (0 ≤ (a.length : Int) ∧ (a.length : Int) ≤ 1099511627776) <|
  letK (List.replicate a.length (Go.Proofs.Ytlljmgphgmklcaa.PRate.Rate.mk 0 0 0 0 0)) fun (t_3 : (List Go.Proofs.Ytlljmgphgmklcaa.PRate.Rate)) =>
  cntK (l0 a) (a.length) 0 (t_3) (e0 )

set_option maxRecDepth 100000 in
set_option maxHeartbeats 2000000 in
theorem C (a : (List Go.Proofs.Ytlljmgphgmklcaa.PRate.Rate)) (A0 : Option Addr) (c0 : Nat)  (w : World) (M0 : Hid (Cells w 5 A0 a.length (Go.Proofs.Ytlljmgphgmklcaa.PRate.flat a))) (N0 : Hid (a.length ≤ 9223372036854775807))  {r : (List Go.Proofs.Ytlljmgphgmklcaa.PRate.Rate)} (H : Hid (P a = some r)) :
    Calls Try.prog 27 #[.slice A0 a.length c0] w (fun e w' => ∃ A_r c_r, e = .returned (.slice A_r r.length c_r) ∧ w'.ownsRow w.heap.size 104 5 (.slice A_r r.length c_r) r.length (Go.Proofs.Ytlljmgphgmklcaa.PRate.flat r) ∧ Below w.heap.size w w') := by
  have HB := Lib.hid (Below.refl w.heap.size w)
  unfold P at H
  have N0o := N0.out
  obtain ⟨i0_104, hi_104, hz0_104, hz1_104, hz2_104⟩ := Aid.info_parts (P := Try.prog) (T := 104) (z := .agg #[.int .i64 0, .int .i64 0, .int .i64 0, .int .i64 0, .int .i64 0]) (s := 5) (b := 40) (by kernel_rfl)
  go_enter Try.func27, Try.ntmps27
  replace H := guard_hid H
  obtain ⟨hnt_3, H⟩ := H
  replace H := let_hid H
  obtain ⟨t_3, ht_3, H⟩ := H
  have hst_3 := HB.out.size
  have hlt_3 : t_3.length = a.length := by rw [← ht_3]; simp
  have hht_3 := Lib.hid ht_3
  clear ht_3
  go_wp2_with (at_make; refine wpList_make_full _ rfl _ _ 41 rfl w.heap.size 104 i0_104 (.agg #[.int .i64 0, .int .i64 0, .int .i64 0, .int .i64 0, .int .i64 0]) 5 Try.underlying41 hi_104 hz0_104 hz1_104 .i64 .i64 _ _ a.length rfl rfl (by omega) (by omega) (by rw [hz2_104]; omega) (by unfold maxLen; omega) hst_3 ?_; intro wt_3 ot_3 gt_3; have Qt_3 := Lib.hid ot_3; have Gt_3 := Lib.hid gt_3; clear ot_3 gt_3; refine stop_in ?_)
  refine stop_out ?_
  have hv_ : (Value.slice (some ⟨w.heap.size, 0, none⟩) a.length a.length : Value) = Value.slice (some ⟨w.heap.size, 0, none⟩) t_3.length a.length := by rw [hlt_3]
  rw [hv_]
  clear hv_
  have Et_3 : (Go.Proofs.Ytlljmgphgmklcaa.PRate.flat t_3) = (madeCells (.agg #[.int .i64 0, .int .i64 0, .int .i64 0, .int .i64 0, .int .i64 0] : Value).cells (a.length * 5)).toList := by
    rw [made_flat Go.Proofs.Ytlljmgphgmklcaa.PRate.Rate.cells (Go.Proofs.Ytlljmgphgmklcaa.PRate.Rate.mk 0 0 0 0 0) _ 5 _ rfl rfl (by decide), ← hht_3.out]
    rfl
  have Pt_3 : Hid (wt_3.ownsRow w.heap.size 104 5 (.slice (some ⟨w.heap.size, 0, none⟩) a.length a.length) a.length (Go.Proofs.Ytlljmgphgmklcaa.PRate.flat t_3)) := Lib.hid (by rw [Et_3]; exact Qt_3.out)
  clear Et_3
  replace hlt_3 := Lib.hid hlt_3
  clear Qt_3 hst_3
  have bt_3 : Below w.heap.size w wt_3 := (Below.refl _ _).grown Gt_3.out (Nat.le_refl _) (by simp)
  clear Gt_3
  have HBwt_3 := Lib.hid (Below.step HB.out bt_3)
  clear bt_3
  replace Pt_3 := Lib.hid (own_len hlt_3.out Pt_3.out)
  go_wp2_with fail
  go_wp2_with fail
  go_loopg [4] (a.length) (fun m_ v4_ wr => ∃ (k0 : Nat) (out_3l0 : (List Go.Proofs.Ytlljmgphgmklcaa.PRate.Rate)), k0 + m_ = a.length ∧ v4_ = .int .i64 (k0 : Int) ∧ Hid (cntK (l0 a) m_ k0 (out_3l0) (e0 ) = some r) ∧ Hid (Below w.heap.size w wr) ∧ Hid (wr.ownsRow w.heap.size 104 5 (.slice (some ⟨w.heap.size, 0, none⟩) t_3.length a.length) t_3.length (Go.Proofs.Ytlljmgphgmklcaa.PRate.flat out_3l0)) ∧ Hid (out_3l0.length = t_3.length))
  case atStart => exact ⟨0, _, by omega, rfl, H, HBwt_3, Pt_3, Lib.hid (rfl)⟩
  case round =>
    obtain ⟨k0, out_3l0, hkm0, rfl, H, HBwr0, Oout_3l0, hnout_3l0⟩ := hrel
    rename World => wr0
    cases gk with
    | zero =>
      obtain rfl : k0 = a.length := by omega
      have hc0 : decide (((a.length : Nat) : Int) < ((a.length : Nat) : Int)) = false := by simp
      replace H := cnt_zero H
      unfold e0 at H
      replace H := let_hid H
      obtain ⟨_, rfl, H⟩ := H
      obtain rfl := ret_hid H
      go_wp2_with fail
      go_ret
      have hr_0 := hnout_3l0.out
      replace Oout_3l0 := Lib.hid (own_len hr_0 Oout_3l0.out)
      exact ⟨(some ⟨w.heap.size, 0, none⟩), a.length, (by first | (rw [hr_0]; done) | (rw [hr_0]; rfl)), Oout_3l0.out, HBwr0.out⟩
    | succ m0 =>
      have hlt0 : k0 < a.length := by omega
      have hc0 : decide ((k0 : Int) < ((a.length : Nat) : Int)) = true := by simp; omega
      replace H := cnt_succ H
      unfold l0 at H
      replace H := let_hid H
      obtain ⟨_, rfl, H⟩ := H
      replace H := idx_hid H
      obtain ⟨nt_14, yt_14, et_14, lt_14, gt_14, H⟩ := H
      obtain rfl : k0 = nt_14 := by omega
      clear et_14
      obtain ⟨t_14_zone, t_14_grams, t_14_from_, t_14_until_, t_14_cents⟩ := yt_14
      replace H := unRate_hid H
      obtain ⟨ab_t_14, ao_t_14, zt_14, At_14, z_t_14, ct_14_0, ct_14_1, ct_14_2, ct_14_3, ct_14_4⟩ := Go.Proofs.Ytlljmgphgmklcaa.ORate.at_ M0.out lt_14
      obtain rfl := Option.some.inj (gt_14.out.symm.trans z_t_14)
      subst At_14
      have ltt_14 := cell_lt ct_14_0
      replace ct_14_0 := cell_below HBwr0.out ct_14_0
      replace ct_14_1 := cell_below HBwr0.out ct_14_1
      replace ct_14_2 := cell_below HBwr0.out ct_14_2
      replace ct_14_3 := cell_below HBwr0.out ct_14_3
      replace ct_14_4 := cell_below HBwr0.out ct_14_4
      clear z_t_14
      have b0t_14 : (0 : Int) ≤ (k0 : Int) := by omega
      have b1t_14 : (k0 : Int) < ((a.length : Nat) : Int) := by omega
      have b2t_14 : ((k0 : Int)).toNat = k0 := by omega
      replace H := bind_hid H
      obtain ⟨t_16, qt_16, H⟩ := H
      obtain ⟨t_16_zone, t_16_grams, t_16_from_, t_16_until_, t_16_cents⟩ := t_16
      replace H := unRate_hid H
      go_wp2_with fail
      go_at_call 92
      refine (Go.Proofs.Ytlljmgphgmklcaa.GlToRate.C ((Go.Proofs.Ytlljmgphgmklcaa.PRate.Rate.mk t_14_zone t_14_grams t_14_from_ t_14_until_ t_14_cents))  _    qt_16).mono ?_
      rintro e_t_16 wt_16 ⟨rfl, bt_16⟩
      unfold Go.Proofs.Ytlljmgphgmklcaa.PRate.Rate.val
      have HBwt_16 := Lib.hid (Below.step HBwr0.out bt_16)
      replace ct_14_0 := cell_below bt_16 ct_14_0
      replace ct_14_1 := cell_below bt_16 ct_14_1
      replace ct_14_2 := cell_below bt_16 ct_14_2
      replace ct_14_3 := cell_below bt_16 ct_14_3
      replace ct_14_4 := cell_below bt_16 ct_14_4
      replace Oout_3l0 := Lib.hid (own_below Oout_3l0.out bt_16)
      clear bt_16
      replace H := idx_hid H
      obtain ⟨nt_17, yt_17, et_17, lt_17, gt_17, H⟩ := H
      obtain rfl : k0 = nt_17 := by omega
      clear et_17
      obtain ⟨t_17_zone, t_17_grams, t_17_from_, t_17_until_, t_17_cents⟩ := yt_17
      replace H := unRate_hid H
      have hqt_17 := hnout_3l0.out
      obtain ⟨ab_t_17, ao_t_17, zt_17, At_17, z_t_17, ct_17_0, ct_17_1, ct_17_2, ct_17_3, ct_17_4⟩ := Go.Proofs.Ytlljmgphgmklcaa.ORate.at_ (own_cells Oout_3l0.out) (k := k0) (by omega)
      obtain rfl := Option.some.inj (gt_17.out.symm.trans z_t_17)
      simp only [Option.some.injEq, Addr.mk.injEq] at At_17
      obtain ⟨rfl, rfl, _⟩ := At_17
      clear z_t_17
      simp only [Nat.zero_add] at ct_17_0 ct_17_1 ct_17_2 ct_17_3 ct_17_4
      have b0t_17 : (0 : Int) ≤ (k0 : Int) := by omega
      have b1t_17 : (k0 : Int) < ((t_3.length : Nat) : Int) := by omega
      have b2t_17 : ((k0 : Int)).toNat = k0 := by omega
      clear hqt_17
      replace H := let_hid H
      obtain ⟨l18_18, hl18_18, H⟩ := H
      try simp only [Int.toNat_natCast] at hl18_18
      obtain ⟨wl18_18, hwl18_18⟩ : ∃ x, (((((wt_16).setCell ⟨w.heap.size, k0 * 5, none⟩ (.int .i64 t_16_zone)).setCell ⟨w.heap.size, k0 * 5 + 1, none⟩ (.int .i64 t_16_grams)).setCell ⟨w.heap.size, k0 * 5 + 2, none⟩ (.int .i64 t_16_from_)).setCell ⟨w.heap.size, k0 * 5 + 3, none⟩ (.int .i64 t_16_until_)).setCell ⟨w.heap.size, k0 * 5 + 4, none⟩ (.int .i64 t_16_cents) = x := ⟨_, rfl⟩
      have z0l18_18 := Oout_3l0.out.frozenAt (k0 * 5)
      have z1l18_18 := Oout_3l0.out.frozenAt (k0 * 5 + 1)
      have z2l18_18 := Oout_3l0.out.frozenAt (k0 * 5 + 2)
      have z3l18_18 := Oout_3l0.out.frozenAt (k0 * 5 + 3)
      have z4l18_18 := Oout_3l0.out.frozenAt (k0 * 5 + 4)
      have Sl18_18 := Lib.hid (own_stores [(k0 * 5, .int .i64 t_16_zone), (k0 * 5 + 1, .int .i64 t_16_grams), (k0 * 5 + 2, .int .i64 t_16_from_), (k0 * 5 + 3, .int .i64 t_16_until_), (k0 * 5 + 4, .int .i64 t_16_cents)] Oout_3l0.out)
      have nl18_18 : Hid (l18_18.length = t_3.length) := Lib.hid (by rw [← hl18_18, List.length_set]; exact hnout_3l0.out)
      have Pl18_18 : Hid (wl18_18.ownsRow w.heap.size 104 5 (.slice (some ⟨w.heap.size, 0, none⟩) t_3.length a.length) t_3.length (Go.Proofs.Ytlljmgphgmklcaa.PRate.flat l18_18)) := Lib.hid (by have es_ := set_self gt_17.out; have e0_ := flat_set Go.Proofs.Ytlljmgphgmklcaa.PRate.Rate.cells 5 (fun _ => rfl) out_3l0 (k0) 0 (Go.Proofs.Ytlljmgphgmklcaa.PRate.Rate.mk t_17_zone t_17_grams t_17_from_ t_17_until_ t_17_cents) (Go.Proofs.Ytlljmgphgmklcaa.PRate.Rate.mk t_16_zone t_17_grams t_17_from_ t_17_until_ t_17_cents) (.int .i64 t_16_zone) lt_17 (by decide) rfl; have e1_ := flat_set Go.Proofs.Ytlljmgphgmklcaa.PRate.Rate.cells 5 (fun _ => rfl) out_3l0 (k0) 1 (Go.Proofs.Ytlljmgphgmklcaa.PRate.Rate.mk t_16_zone t_17_grams t_17_from_ t_17_until_ t_17_cents) (Go.Proofs.Ytlljmgphgmklcaa.PRate.Rate.mk t_16_zone t_16_grams t_17_from_ t_17_until_ t_17_cents) (.int .i64 t_16_grams) lt_17 (by decide) rfl; have e2_ := flat_set Go.Proofs.Ytlljmgphgmklcaa.PRate.Rate.cells 5 (fun _ => rfl) out_3l0 (k0) 2 (Go.Proofs.Ytlljmgphgmklcaa.PRate.Rate.mk t_16_zone t_16_grams t_17_from_ t_17_until_ t_17_cents) (Go.Proofs.Ytlljmgphgmklcaa.PRate.Rate.mk t_16_zone t_16_grams t_16_from_ t_17_until_ t_17_cents) (.int .i64 t_16_from_) lt_17 (by decide) rfl; have e3_ := flat_set Go.Proofs.Ytlljmgphgmklcaa.PRate.Rate.cells 5 (fun _ => rfl) out_3l0 (k0) 3 (Go.Proofs.Ytlljmgphgmklcaa.PRate.Rate.mk t_16_zone t_16_grams t_16_from_ t_17_until_ t_17_cents) (Go.Proofs.Ytlljmgphgmklcaa.PRate.Rate.mk t_16_zone t_16_grams t_16_from_ t_16_until_ t_17_cents) (.int .i64 t_16_until_) lt_17 (by decide) rfl; have e4_ := flat_set Go.Proofs.Ytlljmgphgmklcaa.PRate.Rate.cells 5 (fun _ => rfl) out_3l0 (k0) 4 (Go.Proofs.Ytlljmgphgmklcaa.PRate.Rate.mk t_16_zone t_16_grams t_16_from_ t_16_until_ t_17_cents) (Go.Proofs.Ytlljmgphgmklcaa.PRate.Rate.mk t_16_zone t_16_grams t_16_from_ t_16_until_ t_16_cents) (.int .i64 t_16_cents) lt_17 (by decide) rfl; rw [es_] at e0_; have e_ : ([(k0 * 5, .int .i64 t_16_zone), (k0 * 5 + 1, .int .i64 t_16_grams), (k0 * 5 + 2, .int .i64 t_16_from_), (k0 * 5 + 3, .int .i64 t_16_until_), (k0 * 5 + 4, .int .i64 t_16_cents)] : List (Nat × Value)).foldl (fun xs p => xs.set p.1 p.2) (Go.Proofs.Ytlljmgphgmklcaa.PRate.flat out_3l0) = (Go.Proofs.Ytlljmgphgmklcaa.PRate.flat l18_18) := (by rw [← hl18_18]; show _ = List.flatMap Go.Proofs.Ytlljmgphgmklcaa.PRate.Rate.cells _; first | (rw [← e4_, ← e3_, ← e2_, ← e1_, ← e0_]; first | done | rfl) | (rw [← e4_, ← e3_, ← e2_, ← e1_, es_, ← e0_]; first | done | rfl)); rw [← hwl18_18, ← e_]; exact Sl18_18.out.1)
      have Gl18_18 : Hid (wt_16.grownBy wl18_18 (Value.slice (some ⟨w.heap.size, 0, none⟩) t_3.length a.length).ownBlock) := Lib.hid (by rw [← hwl18_18]; exact Sl18_18.out.2)
      have HBwl18_18 := Lib.hid (HBwt_16.out.grown Gl18_18.out HBwt_16.out.size (fun q hq => (Oout_3l0.out.lt q hq).1))
      have hhl18_18 := Lib.hid hl18_18
      clear hl18_18 Sl18_18
      have ct_14_0__106 := cell_other ct_14_0 Gl18_18.out (apart_old Oout_3l0.out ltt_14)
      have ct_14_1__107 := cell_other ct_14_1 Gl18_18.out (apart_old Oout_3l0.out ltt_14)
      have ct_14_2__108 := cell_other ct_14_2 Gl18_18.out (apart_old Oout_3l0.out ltt_14)
      have ct_14_3__109 := cell_other ct_14_3 Gl18_18.out (apart_old Oout_3l0.out ltt_14)
      have ct_14_4__110 := cell_other ct_14_4 Gl18_18.out (apart_old Oout_3l0.out ltt_14)
      clear Oout_3l0 Gl18_18
      replace H := app_hid H
      go_wp2_with fail
      clear z0l18_18 z1l18_18 z2l18_18 z3l18_18 z4l18_18 ct_14_0 ct_14_1 ct_14_2 ct_14_3 ct_14_4 ct_17_0 ct_17_1 ct_17_2 ct_17_3 ct_17_4
      go_roundg m0
      case measure => omega
      case rel => exact ⟨k0 + 1, _, by omega, by go_num, H, HBwl18_18, Pl18_18, Lib.hid (nl18_18.out)⟩
end Go.Proofs.Ytlljmgphgmklcaa.GlToRateS

/- The record Mail as data that comes in, and a slice of it. No condition. -/
namespace Go.Proofs.Ytlljmgphgmklcaa.OMail
set_option linter.unusedVariables false
set_option maxRecDepth 100000
open Go.Joins Go.ChangeShapes Go.WideShapes Go.RowKit Go.Deep
open Go.Proofs.Ytlljmgphgmklcaa.Rowed Go.Proofs.Ytlljmgphgmklcaa.OpenAny Go.Proofs.Ytlljmgphgmklcaa.PMail

/-- the slice 'A, n' reads as the records l -/
abbrev Mails (w : World) (A : Option Addr) (n : Nat) (l : List Mail) : Prop := Cells w 4 A n (flat l)
theorem at_ {w : World} {A : Option Addr} {n k : Nat} {l : List Mail} (h : Mails w A n l) (hk : k < n) :
    ∃ (b o : Nat) (s : Mail), A = some ⟨b, o, none⟩ ∧ l[k]? = some s ∧ w.cell? ⟨b, o + k * 4, none⟩ = some (.int .i64 s.leave) ∧ w.cell? ⟨b, o + k * 4 + 1, none⟩ = some (.int .i64 s.from_) ∧ w.cell? ⟨b, o + k * 4 + 2, none⟩ = some (.int .i64 s.to_) ∧ w.cell? ⟨b, o + k * 4 + 3, none⟩ = some (.int .i64 s.arrive) := by
  have hl : k < l.length := by have := h.1; rw [flat_len] at this; omega
  obtain ⟨⟨b, o, sp⟩, e, hc⟩ := h.2 (by rw [flat_len]; omega)
  have h0 := hc 0 _ (flat_at l 0 l[0] (List.getElem?_eq_getElem (by omega)) 0 (by omega))
  obtain rfl : sp = none := cell_spot (b := b) (o := o) h0
  have hs := List.getElem?_eq_getElem hl
  have f := flat_at l k _ hs
  have g := fun j u hu => add_none b o j ▸ hc j u hu
  exact ⟨b, o, l[k], e, hs, g _ _ (f 0 (by omega)), g _ _ (f 1 (by omega)), g _ _ (f 2 (by omega)), g _ _ (f 3 (by omega))⟩
theorem len_of {w : World} {A : Option Addr} {n : Nat} {l : List Mail} (h : Mails w A n l) : l.length = n := by
  have := h.1
  rw [flat_len] at this; omega

/-- a slice of records that came in: the list that it reads as -/
structure Came (w : World) (A : Option Addr) (len cap : Nat) (l : List Mail) : Prop where
  cells : Mails w A len l
  small : len ≤ maxLen
  fits : ∀ s ∈ l, s.fits
theorem Came.len {w : World} {A : Option Addr} {len cap : Nat} {l : List Mail} (h : Came w A len cap l) : l.length = len := len_of h.cells

section
variable {H : Type} {enc : TypeId × Value → H} {w : World} {base : Nat} {spare : Nat → Bool} {held : Bool}
theorem read_one {n : Nat} {cs : List Value} {x : DataW H × List MemPlace} (h : DataW.trod enc Try.prog w base spare held n 110 cs = some x) : ∃ s : Mail, cs = s.cells ∧ s.fits := by
  have hc : Try.prog.cellsOf 110 = 4 := by kernel_rfl
  obtain ⟨hl, hf⟩ := read_fields Try.underlying110 (by kernel_rfl) hc h
  rw [hc] at hl
  match cs, hl with
  | [v0, v1, v2, v3], _ =>
    obtain ⟨u0, n0, y0, eu0, t0⟩ := hf 0 _ rfl
    obtain ⟨x0, e0, _, f0⟩ := DataW.trod_int Try.underlying3 t0
    obtain rfl : v0 = u0 := by simpa using eu0
    obtain rfl : v0 = .int .i64 x0 := by simpa using e0
    obtain ⟨u1, n1, y1, eu1, t1⟩ := hf 1 _ rfl
    obtain ⟨x1, e1, _, f1⟩ := DataW.trod_int Try.underlying3 t1
    obtain rfl : v1 = u1 := by simpa using eu1
    obtain rfl : v1 = .int .i64 x1 := by simpa using e1
    obtain ⟨u2, n2, y2, eu2, t2⟩ := hf 2 _ rfl
    obtain ⟨x2, e2, _, f2⟩ := DataW.trod_int Try.underlying3 t2
    obtain rfl : v2 = u2 := by simpa using eu2
    obtain rfl : v2 = .int .i64 x2 := by simpa using e2
    obtain ⟨u3, n3, y3, eu3, t3⟩ := hf 3 _ rfl
    obtain ⟨x3, e3, _, f3⟩ := DataW.trod_int Try.underlying3 t3
    obtain rfl : v3 = u3 := by simpa using eu3
    obtain rfl : v3 = .int .i64 x3 := by simpa using e3
    exact ⟨⟨x0, x1, x2, x3⟩, rfl, f0, f1, f2, f3⟩
theorem open_one {r : Reach} {b0 : Nat} {v : Value} {d : DataW H} {p : List MemPlace} (hv : Value.okWide Try.prog w r b0 110 v) (h : DataW.Trod enc Try.prog w base spare held 110 v d p) :
    ∃ s : Mail, v = s.val ∧ s.fits := by
  obtain ⟨cs, n, x, rfl, ht⟩ := agg_any Try.underlying110 hv h
  obtain ⟨s, e, hs⟩ := read_one ht
  refine ⟨s, ?_, hs⟩
  obtain ⟨l⟩ := cs
  obtain rfl : l = s.cells := by simpa using e
  rfl
end
theorem open_field {H : Type} {enc : TypeId × Value → H} {W : World} {fuel : Nat} {u : Value} {y : DataW H × List MemPlace}
    (hf : DataW.trod enc Try.prog W 0 (fun _ => true) true fuel 36 [u] = some y) : ∃ (a : Option Addr) (len cap : Nat) (l : List Mail), u = .slice a len cap ∧ Came W a len cap l := by
  have ck : Try.prog.cellsOf 110 = 4 := by kernel_rfl
  rcases open_slice Try.underlying36 hf with ⟨hcs, _⟩ | ⟨x, ln, cp, m, n, D, Pl, hcs, hb, hl, hm, hmm, _, hi⟩
  · obtain rfl : u = .slice none 0 0 := by simpa using hcs
    exact ⟨none, 0, 0, [], rfl, Cells.nil_ _ _ _, by unfold maxLen; omega, by intro s hs; simp at hs⟩
  · obtain rfl : u = .slice (some x) ln cp := by simpa using hcs
    simp only [if_true] at hmm
    subst hmm
    rw [ck] at hi
    obtain ⟨l, hll, hp⟩ := list_of (fun k s => Mail.fits s ∧ ∀ j, j < 4 → W.cell? (x.add (k * 4 + j)) = s.cells[j]?) ln (fun k hk => by
      obtain ⟨cs', hc, ht⟩ := hi k (by omega)
      obtain ⟨s, rfl, hfit⟩ := read_one ht
      refine ⟨s, hfit, fun j hj => ?_⟩
      have := (World.cells?_some hc).2.2 j hj
      rw [Go.Deep.add_add] at this
      exact this)
    refine ⟨some x, ln, _, l, rfl, ⟨by rw [flat_len, hll], fun h0 => ⟨x, rfl, fun j u hu => ?_⟩⟩, by omega, fun s hs => ?_⟩
    · have hj : j < (flat l).length := (List.getElem?_eq_some_iff.1 hu).1
      rw [flat_len] at hj
      have hk : j / 4 < l.length := by omega
      have e := flat_at l (j / 4) l[j/4] (List.getElem?_eq_getElem hk) (j % 4) (by omega)
      rw [show j / 4 * 4 + j % 4 = j by omega, hu] at e
      have := (hp (j / 4) l[j/4] (List.getElem?_eq_getElem hk)).2 (j % 4) (by omega)
      rw [show j / 4 * 4 + j % 4 = j by omega, ← e] at this
      exact this
    · obtain ⟨k, hk⟩ := List.getElem?_of_mem hs
      exact (hp k s hk).1
theorem open_many {H : Type} {enc : TypeId × Value → H} {W : World} {a : Option Addr} {len cap : Nat} {d : DataW H} {p : List MemPlace}
    (h : DataW.Trod enc Try.prog W 0 (fun _ => true) true 36 (.slice a len cap) d p) : ∃ l : List Mail, Came W a len cap l := by
  obtain ⟨fuel, hf⟩ := h
  obtain ⟨a2, l2, c2, l, e, hl⟩ := open_field (u := .slice a len cap) hf
  simp only [Value.slice.injEq] at e
  obtain ⟨rfl, rfl, rfl⟩ := e
  exact ⟨l, hl⟩

/-- a record that was boxed -/
theorem box_ {w : World} {s : Mail} {g : Nat} (h : Cells w 4 (some ⟨g, 0, none⟩) 1 s.cells) : w.cell? ⟨g, 0, none⟩ = some (.int .i64 s.leave) ∧ w.cell? ⟨g, 1, none⟩ = some (.int .i64 s.from_) ∧ w.cell? ⟨g, 2, none⟩ = some (.int .i64 s.to_) ∧ w.cell? ⟨g, 3, none⟩ = some (.int .i64 s.arrive) := by
  obtain ⟨ad, e, hc⟩ := h.2 (by simp [Mail.cells])
  obtain rfl := Option.some.inj e
  have gg := fun j u hu => add_none g 0 j ▸ hc j u hu
  exact ⟨by simpa using gg 0 _ rfl, by simpa using gg 1 _ rfl, by simpa using gg 2 _ rfl, by simpa using gg 3 _ rfl⟩
theorem box_new (w : World) (s : Mail) (T : TypeId) : Cells (w.alloc (.cells #[.int .i64 s.leave, .int .i64 s.from_, .int .i64 s.to_, .int .i64 s.arrive] T)) 4 (some ⟨w.heap.size, 0, none⟩) 1 s.cells :=
  ⟨by simp [Mail.cells], fun _ => ⟨_, rfl, fun j u hu => by
    have hj : j < 4 := by have := (List.getElem?_eq_some_iff.1 hu).1; simpa [Mail.cells] using this
    rw [add_none, World.cell?_alloc_new]
    match j, hj with
    | 0, _ => simpa [Mail.cells] using hu
    | 1, _ => simpa [Mail.cells] using hu
    | 2, _ => simpa [Mail.cells] using hu
    | 3, _ => simpa [Mail.cells] using hu
⟩⟩
end Go.Proofs.Ytlljmgphgmklcaa.OMail

/- loop.example/g01062/laws.toMail as a plain function, and the contract of the program's: where the plain one has an answer, the program has it. Conditions: slices read as lists. -/
namespace Go.Proofs.Ytlljmgphgmklcaa.GlToMail
set_option linter.unusedVariables false
set_option linter.unusedSimpArgs false
open Go.RowKit
open Go.Proofs.Ytlljmgphgmklcaa.Rowed Go.Proofs.Ytlljmgphgmklcaa.Turn Go.Proofs.Ytlljmgphgmklcaa.Aid Go.Proofs.Ytlljmgphgmklcaa.GoP Go.Proofs.Ytlljmgphgmklcaa.GoM

def P (a : Go.Proofs.Ytlljmgphgmklcaa.PMail.Mail) : Option (Go.Proofs.Ytlljmgphgmklcaa.PMail.Mail) :=
  unMail a fun (a_leave : Int) (a_from_ : Int) (a_to_ : Int) (a_arrive : Int) =>
  some (Go.Proofs.Ytlljmgphgmklcaa.PMail.Mail.mk a_leave a_from_ a_to_ a_arrive)

set_option maxRecDepth 100000 in
set_option maxHeartbeats 2000000 in
theorem C (a : Go.Proofs.Ytlljmgphgmklcaa.PMail.Mail)   (w : World)   {r : Go.Proofs.Ytlljmgphgmklcaa.PMail.Mail} (H : Hid (P a = some r)) :
    Calls Try.prog 93 #[a.val] w (Gives ((Go.Proofs.Ytlljmgphgmklcaa.PMail.Mail.val r)) w) := by
  have HB := Lib.hid (Below.refl w.heap.size w)
  unfold P at H
  obtain ⟨a_leave, a_from_, a_to_, a_arrive⟩ := a
  replace H := unMail_hid H
  unfold Go.Proofs.Ytlljmgphgmklcaa.PMail.Mail.val
  go_enter Try.func93, Try.ntmps93
  obtain ⟨w_a_0, hw_a_0⟩ : ∃ x, w.alloc (.cells #[.int .i64 a_leave, .int .i64 a_from_, .int .i64 a_to_, .int .i64 a_arrive] 110) = x := ⟨_, rfl⟩
  have bw_a_0 : Below w.heap.size w w_a_0 := by rw [← hw_a_0]; exact (Below.refl _ _).alloc (Nat.le_refl _) _
  have HBw_a_0 := Lib.hid (Below.step HB.out bw_a_0)
  clear bw_a_0
  have ka_0_0 : w_a_0.cell? ⟨w.heap.size, 0, none⟩ = some (.int .i64 a_leave) := by rw [← hw_a_0]; exact box_new _ _ _ 0 _ rfl
  have ka_0_1 : w_a_0.cell? ⟨w.heap.size, 1, none⟩ = some (.int .i64 a_from_) := by rw [← hw_a_0]; exact box_new _ _ _ 1 _ rfl
  have ka_0_2 : w_a_0.cell? ⟨w.heap.size, 2, none⟩ = some (.int .i64 a_to_) := by rw [← hw_a_0]; exact box_new _ _ _ 2 _ rfl
  have ka_0_3 : w_a_0.cell? ⟨w.heap.size, 3, none⟩ = some (.int .i64 a_arrive) := by rw [← hw_a_0]; exact box_new _ _ _ 3 _ rfl
  obtain ⟨w_t_1, hw_t_1⟩ : ∃ x, w_a_0.alloc (.cells #[.int .i64 0, .int .i64 0, .int .i64 0, .int .i64 0] 108) = x := ⟨_, rfl⟩
  have bw_t_1 : Below w_a_0.heap.size w_a_0 w_t_1 := by rw [← hw_t_1]; exact (Below.refl _ _).alloc (Nat.le_refl _) _
  have Dt_1_a_0 := Lib.hid (apart_box ka_0_0)
  have HBw_t_1 := Lib.hid (Below.step HBw_a_0.out bw_t_1)
  have ka_0_0__1 := cell_below bw_t_1 ka_0_0
  have ka_0_1__2 := cell_below bw_t_1 ka_0_1
  have ka_0_2__3 := cell_below bw_t_1 ka_0_2
  have ka_0_3__4 := cell_below bw_t_1 ka_0_3
  clear bw_t_1
  have kt_1_0 : w_t_1.cell? ⟨w_a_0.heap.size, 0, none⟩ = some (.int .i64 0) := by rw [← hw_t_1]; exact box_new _ _ _ 0 _ rfl
  have kt_1_1 : w_t_1.cell? ⟨w_a_0.heap.size, 1, none⟩ = some (.int .i64 0) := by rw [← hw_t_1]; exact box_new _ _ _ 1 _ rfl
  have kt_1_2 : w_t_1.cell? ⟨w_a_0.heap.size, 2, none⟩ = some (.int .i64 0) := by rw [← hw_t_1]; exact box_new _ _ _ 2 _ rfl
  have kt_1_3 : w_t_1.cell? ⟨w_a_0.heap.size, 3, none⟩ = some (.int .i64 0) := by rw [← hw_t_1]; exact box_new _ _ _ 3 _ rfl
  have Ot_1 : Hid (w_t_1.ownsRow w.heap.size 108 4 (.slice (some ⟨w_a_0.heap.size, 0, none⟩) 1 1) 1 [.int .i64 0, .int .i64 0, .int .i64 0, .int .i64 0]) := Lib.hid (by rw [← hw_t_1]; exact own_laid (n := 1) HBw_a_0.out.size rfl rfl (by unfold maxLen; omega))
  obtain ⟨w_out_2, hw_out_2⟩ : ∃ x, w_t_1.alloc (.cells #[.int .i64 0, .int .i64 0, .int .i64 0, .int .i64 0] 108) = x := ⟨_, rfl⟩
  have bw_out_2 : Below w_t_1.heap.size w_t_1 w_out_2 := by rw [← hw_out_2]; exact (Below.refl _ _).alloc (Nat.le_refl _) _
  have Dout_2_a_0 := Lib.hid (apart_box ka_0_0__1)
  have Dout_2_t_1 := Lib.hid (apart_box kt_1_0)
  have HBw_out_2 := Lib.hid (Below.step HBw_t_1.out bw_out_2)
  have ka_0_0__5 := cell_below bw_out_2 ka_0_0__1
  have ka_0_1__6 := cell_below bw_out_2 ka_0_1__2
  have ka_0_2__7 := cell_below bw_out_2 ka_0_2__3
  have ka_0_3__8 := cell_below bw_out_2 ka_0_3__4
  have kt_1_0__9 := cell_below bw_out_2 kt_1_0
  have kt_1_1__10 := cell_below bw_out_2 kt_1_1
  have kt_1_2__11 := cell_below bw_out_2 kt_1_2
  have kt_1_3__12 := cell_below bw_out_2 kt_1_3
  replace Ot_1 := Lib.hid (own_below Ot_1.out bw_out_2)
  clear bw_out_2
  have kout_2_0 : w_out_2.cell? ⟨w_t_1.heap.size, 0, none⟩ = some (.int .i64 0) := by rw [← hw_out_2]; exact box_new _ _ _ 0 _ rfl
  have kout_2_1 : w_out_2.cell? ⟨w_t_1.heap.size, 1, none⟩ = some (.int .i64 0) := by rw [← hw_out_2]; exact box_new _ _ _ 1 _ rfl
  have kout_2_2 : w_out_2.cell? ⟨w_t_1.heap.size, 2, none⟩ = some (.int .i64 0) := by rw [← hw_out_2]; exact box_new _ _ _ 2 _ rfl
  have kout_2_3 : w_out_2.cell? ⟨w_t_1.heap.size, 3, none⟩ = some (.int .i64 0) := by rw [← hw_out_2]; exact box_new _ _ _ 3 _ rfl
  have Oout_2 : Hid (w_out_2.ownsRow w.heap.size 108 4 (.slice (some ⟨w_t_1.heap.size, 0, none⟩) 1 1) 1 [.int .i64 0, .int .i64 0, .int .i64 0, .int .i64 0]) := Lib.hid (by rw [← hw_out_2]; exact own_laid (n := 1) HBw_t_1.out.size rfl rfl (by unfold maxLen; omega))
  obtain ⟨wb6_6, hwb6_6⟩ : ∃ x, (w_out_2).setCell ⟨w_t_1.heap.size, 0, none⟩ (.int .i64 a_leave) = x := ⟨_, rfl⟩
  have z0b6_6 := Oout_2.out.frozenAt 0
  have Sb6_6 := Lib.hid (own_stores [(0, .int .i64 a_leave)] Oout_2.out)
  have Pb6_6 : Hid (wb6_6.ownsRow w.heap.size 108 4 (.slice (some ⟨w_t_1.heap.size, 0, none⟩) 1 1) 1 [.int .i64 a_leave, .int .i64 0, .int .i64 0, .int .i64 0]) := Lib.hid (by rw [← hwb6_6]; exact Sb6_6.out.1)
  have Gb6_6 : Hid (w_out_2.grownBy wb6_6 (Value.slice (some ⟨w_t_1.heap.size, 0, none⟩) 1 1).ownBlock) := Lib.hid (by rw [← hwb6_6]; exact Sb6_6.out.2)
  have HBwb6_6 := Lib.hid (HBw_out_2.out.grown Gb6_6.out HBw_out_2.out.size (fun q hq => (Oout_2.out.lt q hq).1))
  clear Sb6_6
  have ka_0_0__13 := cell_other ka_0_0__5 Gb6_6.out Dout_2_a_0.out
  have ka_0_1__14 := cell_other ka_0_1__6 Gb6_6.out Dout_2_a_0.out
  have ka_0_2__15 := cell_other ka_0_2__7 Gb6_6.out Dout_2_a_0.out
  have ka_0_3__16 := cell_other ka_0_3__8 Gb6_6.out Dout_2_a_0.out
  have kt_1_0__17 := cell_other kt_1_0__9 Gb6_6.out Dout_2_t_1.out
  have kt_1_1__18 := cell_other kt_1_1__10 Gb6_6.out Dout_2_t_1.out
  have kt_1_2__19 := cell_other kt_1_2__11 Gb6_6.out Dout_2_t_1.out
  have kt_1_3__20 := cell_other kt_1_3__12 Gb6_6.out Dout_2_t_1.out
  replace Ot_1 := Lib.hid (own_other Ot_1.out Gb6_6.out Dout_2_t_1.out)
  clear Oout_2 Gb6_6
  have kout_2_0__21 : wb6_6.cell? ⟨w_t_1.heap.size, 0, none⟩ = some (.int .i64 a_leave) := Pb6_6.out.cells rfl 0 _ rfl
  have kout_2_1__22 : wb6_6.cell? ⟨w_t_1.heap.size, 1, none⟩ = some (.int .i64 0) := Pb6_6.out.cells rfl 1 _ rfl
  have kout_2_2__23 : wb6_6.cell? ⟨w_t_1.heap.size, 2, none⟩ = some (.int .i64 0) := Pb6_6.out.cells rfl 2 _ rfl
  have kout_2_3__24 : wb6_6.cell? ⟨w_t_1.heap.size, 3, none⟩ = some (.int .i64 0) := Pb6_6.out.cells rfl 3 _ rfl
  obtain ⟨wb10_10, hwb10_10⟩ : ∃ x, (wb6_6).setCell ⟨w_t_1.heap.size, 1, none⟩ (.int .i64 a_from_) = x := ⟨_, rfl⟩
  have z0b10_10 := Pb6_6.out.frozenAt 1
  have Sb10_10 := Lib.hid (own_stores [(1, .int .i64 a_from_)] Pb6_6.out)
  have Pb10_10 : Hid (wb10_10.ownsRow w.heap.size 108 4 (.slice (some ⟨w_t_1.heap.size, 0, none⟩) 1 1) 1 [.int .i64 a_leave, .int .i64 a_from_, .int .i64 0, .int .i64 0]) := Lib.hid (by rw [← hwb10_10]; exact Sb10_10.out.1)
  have Gb10_10 : Hid (wb6_6.grownBy wb10_10 (Value.slice (some ⟨w_t_1.heap.size, 0, none⟩) 1 1).ownBlock) := Lib.hid (by rw [← hwb10_10]; exact Sb10_10.out.2)
  have HBwb10_10 := Lib.hid (HBwb6_6.out.grown Gb10_10.out HBwb6_6.out.size (fun q hq => (Pb6_6.out.lt q hq).1))
  clear Sb10_10
  have ka_0_0__25 := cell_other ka_0_0__13 Gb10_10.out Dout_2_a_0.out
  have ka_0_1__26 := cell_other ka_0_1__14 Gb10_10.out Dout_2_a_0.out
  have ka_0_2__27 := cell_other ka_0_2__15 Gb10_10.out Dout_2_a_0.out
  have ka_0_3__28 := cell_other ka_0_3__16 Gb10_10.out Dout_2_a_0.out
  have kt_1_0__29 := cell_other kt_1_0__17 Gb10_10.out Dout_2_t_1.out
  have kt_1_1__30 := cell_other kt_1_1__18 Gb10_10.out Dout_2_t_1.out
  have kt_1_2__31 := cell_other kt_1_2__19 Gb10_10.out Dout_2_t_1.out
  have kt_1_3__32 := cell_other kt_1_3__20 Gb10_10.out Dout_2_t_1.out
  replace Ot_1 := Lib.hid (own_other Ot_1.out Gb10_10.out Dout_2_t_1.out)
  clear Pb6_6 Gb10_10
  have kout_2_0__33 : wb10_10.cell? ⟨w_t_1.heap.size, 0, none⟩ = some (.int .i64 a_leave) := Pb10_10.out.cells rfl 0 _ rfl
  have kout_2_1__34 : wb10_10.cell? ⟨w_t_1.heap.size, 1, none⟩ = some (.int .i64 a_from_) := Pb10_10.out.cells rfl 1 _ rfl
  have kout_2_2__35 : wb10_10.cell? ⟨w_t_1.heap.size, 2, none⟩ = some (.int .i64 0) := Pb10_10.out.cells rfl 2 _ rfl
  have kout_2_3__36 : wb10_10.cell? ⟨w_t_1.heap.size, 3, none⟩ = some (.int .i64 0) := Pb10_10.out.cells rfl 3 _ rfl
  obtain ⟨wb14_14, hwb14_14⟩ : ∃ x, (wb10_10).setCell ⟨w_t_1.heap.size, 2, none⟩ (.int .i64 a_to_) = x := ⟨_, rfl⟩
  have z0b14_14 := Pb10_10.out.frozenAt 2
  have Sb14_14 := Lib.hid (own_stores [(2, .int .i64 a_to_)] Pb10_10.out)
  have Pb14_14 : Hid (wb14_14.ownsRow w.heap.size 108 4 (.slice (some ⟨w_t_1.heap.size, 0, none⟩) 1 1) 1 [.int .i64 a_leave, .int .i64 a_from_, .int .i64 a_to_, .int .i64 0]) := Lib.hid (by rw [← hwb14_14]; exact Sb14_14.out.1)
  have Gb14_14 : Hid (wb10_10.grownBy wb14_14 (Value.slice (some ⟨w_t_1.heap.size, 0, none⟩) 1 1).ownBlock) := Lib.hid (by rw [← hwb14_14]; exact Sb14_14.out.2)
  have HBwb14_14 := Lib.hid (HBwb10_10.out.grown Gb14_14.out HBwb10_10.out.size (fun q hq => (Pb10_10.out.lt q hq).1))
  clear Sb14_14
  have ka_0_0__37 := cell_other ka_0_0__25 Gb14_14.out Dout_2_a_0.out
  have ka_0_1__38 := cell_other ka_0_1__26 Gb14_14.out Dout_2_a_0.out
  have ka_0_2__39 := cell_other ka_0_2__27 Gb14_14.out Dout_2_a_0.out
  have ka_0_3__40 := cell_other ka_0_3__28 Gb14_14.out Dout_2_a_0.out
  have kt_1_0__41 := cell_other kt_1_0__29 Gb14_14.out Dout_2_t_1.out
  have kt_1_1__42 := cell_other kt_1_1__30 Gb14_14.out Dout_2_t_1.out
  have kt_1_2__43 := cell_other kt_1_2__31 Gb14_14.out Dout_2_t_1.out
  have kt_1_3__44 := cell_other kt_1_3__32 Gb14_14.out Dout_2_t_1.out
  replace Ot_1 := Lib.hid (own_other Ot_1.out Gb14_14.out Dout_2_t_1.out)
  clear Pb10_10 Gb14_14
  have kout_2_0__45 : wb14_14.cell? ⟨w_t_1.heap.size, 0, none⟩ = some (.int .i64 a_leave) := Pb14_14.out.cells rfl 0 _ rfl
  have kout_2_1__46 : wb14_14.cell? ⟨w_t_1.heap.size, 1, none⟩ = some (.int .i64 a_from_) := Pb14_14.out.cells rfl 1 _ rfl
  have kout_2_2__47 : wb14_14.cell? ⟨w_t_1.heap.size, 2, none⟩ = some (.int .i64 a_to_) := Pb14_14.out.cells rfl 2 _ rfl
  have kout_2_3__48 : wb14_14.cell? ⟨w_t_1.heap.size, 3, none⟩ = some (.int .i64 0) := Pb14_14.out.cells rfl 3 _ rfl
  obtain ⟨wb18_18, hwb18_18⟩ : ∃ x, (wb14_14).setCell ⟨w_t_1.heap.size, 3, none⟩ (.int .i64 a_arrive) = x := ⟨_, rfl⟩
  have z0b18_18 := Pb14_14.out.frozenAt 3
  have Sb18_18 := Lib.hid (own_stores [(3, .int .i64 a_arrive)] Pb14_14.out)
  have Pb18_18 : Hid (wb18_18.ownsRow w.heap.size 108 4 (.slice (some ⟨w_t_1.heap.size, 0, none⟩) 1 1) 1 [.int .i64 a_leave, .int .i64 a_from_, .int .i64 a_to_, .int .i64 a_arrive]) := Lib.hid (by rw [← hwb18_18]; exact Sb18_18.out.1)
  have Gb18_18 : Hid (wb14_14.grownBy wb18_18 (Value.slice (some ⟨w_t_1.heap.size, 0, none⟩) 1 1).ownBlock) := Lib.hid (by rw [← hwb18_18]; exact Sb18_18.out.2)
  have HBwb18_18 := Lib.hid (HBwb14_14.out.grown Gb18_18.out HBwb14_14.out.size (fun q hq => (Pb14_14.out.lt q hq).1))
  clear Sb18_18
  have ka_0_0__49 := cell_other ka_0_0__37 Gb18_18.out Dout_2_a_0.out
  have ka_0_1__50 := cell_other ka_0_1__38 Gb18_18.out Dout_2_a_0.out
  have ka_0_2__51 := cell_other ka_0_2__39 Gb18_18.out Dout_2_a_0.out
  have ka_0_3__52 := cell_other ka_0_3__40 Gb18_18.out Dout_2_a_0.out
  have kt_1_0__53 := cell_other kt_1_0__41 Gb18_18.out Dout_2_t_1.out
  have kt_1_1__54 := cell_other kt_1_1__42 Gb18_18.out Dout_2_t_1.out
  have kt_1_2__55 := cell_other kt_1_2__43 Gb18_18.out Dout_2_t_1.out
  have kt_1_3__56 := cell_other kt_1_3__44 Gb18_18.out Dout_2_t_1.out
  replace Ot_1 := Lib.hid (own_other Ot_1.out Gb18_18.out Dout_2_t_1.out)
  clear Pb14_14 Gb18_18
  have kout_2_0__57 : wb18_18.cell? ⟨w_t_1.heap.size, 0, none⟩ = some (.int .i64 a_leave) := Pb18_18.out.cells rfl 0 _ rfl
  have kout_2_1__58 : wb18_18.cell? ⟨w_t_1.heap.size, 1, none⟩ = some (.int .i64 a_from_) := Pb18_18.out.cells rfl 1 _ rfl
  have kout_2_2__59 : wb18_18.cell? ⟨w_t_1.heap.size, 2, none⟩ = some (.int .i64 a_to_) := Pb18_18.out.cells rfl 2 _ rfl
  have kout_2_3__60 : wb18_18.cell? ⟨w_t_1.heap.size, 3, none⟩ = some (.int .i64 a_arrive) := Pb18_18.out.cells rfl 3 _ rfl
  obtain ⟨wb20_20, hwb20_20⟩ : ∃ x, ((((wb18_18).setCell ⟨w_a_0.heap.size, 0, none⟩ (.int .i64 a_leave)).setCell ⟨w_a_0.heap.size, 1, none⟩ (.int .i64 a_from_)).setCell ⟨w_a_0.heap.size, 2, none⟩ (.int .i64 a_to_)).setCell ⟨w_a_0.heap.size, 3, none⟩ (.int .i64 a_arrive) = x := ⟨_, rfl⟩
  have z0b20_20 := Ot_1.out.frozenAt 0
  have z1b20_20 := Ot_1.out.frozenAt 1
  have z2b20_20 := Ot_1.out.frozenAt 2
  have z3b20_20 := Ot_1.out.frozenAt 3
  have Sb20_20 := Lib.hid (own_stores [(0, .int .i64 a_leave), (1, .int .i64 a_from_), (2, .int .i64 a_to_), (3, .int .i64 a_arrive)] Ot_1.out)
  have Pb20_20 : Hid (wb20_20.ownsRow w.heap.size 108 4 (.slice (some ⟨w_a_0.heap.size, 0, none⟩) 1 1) 1 [.int .i64 a_leave, .int .i64 a_from_, .int .i64 a_to_, .int .i64 a_arrive]) := Lib.hid (by rw [← hwb20_20]; exact Sb20_20.out.1)
  have Gb20_20 : Hid (wb18_18.grownBy wb20_20 (Value.slice (some ⟨w_a_0.heap.size, 0, none⟩) 1 1).ownBlock) := Lib.hid (by rw [← hwb20_20]; exact Sb20_20.out.2)
  have HBwb20_20 := Lib.hid (HBwb18_18.out.grown Gb20_20.out HBwb18_18.out.size (fun q hq => (Ot_1.out.lt q hq).1))
  clear Sb20_20
  have ka_0_0__61 := cell_other ka_0_0__49 Gb20_20.out Dt_1_a_0.out
  have ka_0_1__62 := cell_other ka_0_1__50 Gb20_20.out Dt_1_a_0.out
  have ka_0_2__63 := cell_other ka_0_2__51 Gb20_20.out Dt_1_a_0.out
  have ka_0_3__64 := cell_other ka_0_3__52 Gb20_20.out Dt_1_a_0.out
  have kout_2_0__65 := cell_other kout_2_0__57 Gb20_20.out (Apart.symm Dout_2_t_1.out)
  have kout_2_1__66 := cell_other kout_2_1__58 Gb20_20.out (Apart.symm Dout_2_t_1.out)
  have kout_2_2__67 := cell_other kout_2_2__59 Gb20_20.out (Apart.symm Dout_2_t_1.out)
  have kout_2_3__68 := cell_other kout_2_3__60 Gb20_20.out (Apart.symm Dout_2_t_1.out)
  replace Pb18_18 := Lib.hid (own_other Pb18_18.out Gb20_20.out (Apart.symm Dout_2_t_1.out))
  clear Ot_1 Gb20_20
  have kt_1_0__69 : wb20_20.cell? ⟨w_a_0.heap.size, 0, none⟩ = some (.int .i64 a_leave) := Pb20_20.out.cells rfl 0 _ rfl
  have kt_1_1__70 : wb20_20.cell? ⟨w_a_0.heap.size, 1, none⟩ = some (.int .i64 a_from_) := Pb20_20.out.cells rfl 1 _ rfl
  have kt_1_2__71 : wb20_20.cell? ⟨w_a_0.heap.size, 2, none⟩ = some (.int .i64 a_to_) := Pb20_20.out.cells rfl 2 _ rfl
  have kt_1_3__72 : wb20_20.cell? ⟨w_a_0.heap.size, 3, none⟩ = some (.int .i64 a_arrive) := Pb20_20.out.cells rfl 3 _ rfl
  cases ret_hid H
  go_wp2_with fail
  (try simp only [Exit.inBlock, Exit.then])
  refine bodyPost_ret (v := .agg #[.int .i64 a_leave, .int .i64 a_from_, .int .i64 a_to_, .int .i64 a_arrive]) ?hr_ ?hd_ ?_
  case hd_ => rfl
  case hr_ => simp [results, Try.results93, kt_1_0__69, kt_1_1__70, kt_1_2__71, kt_1_3__72, go_sem]
  exact ⟨rfl, HBwb20_20.out⟩
end Go.Proofs.Ytlljmgphgmklcaa.GlToMail

