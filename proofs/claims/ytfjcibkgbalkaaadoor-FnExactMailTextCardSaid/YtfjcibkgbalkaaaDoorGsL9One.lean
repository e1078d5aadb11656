/- loop.example/g01062/spec.l9One as a plain function, and the contract of the program's: where the plain one has an answer, the program has it. Conditions: slices read as lists. -/
import Derived.Test.YtfjcibkgbalkaaaDoorChecked
import Derived.Test.YtfjcibkgbalkaaaDoorGoM
import Derived.Test.YtfjcibkgbalkaaaDoorGoRMail
import Derived.Test.YtfjcibkgbalkaaaDoorGsL9Office
import Derived.Test.YtfjcibkgbalkaaaDoorGsL9Minute
import Derived.Test.YtfjcibkgbalkaaaDoorGsL1In
import Derived.WalkKit
import Derived.WalkSpells
import Derived.WalkLawsBesides
import Derived.BigQuiet
import Derived.OwnWalk
import Derived.Deep.LoopGhost
import Derived.Deep.QuietTactic
import Derived.IntWalk
import Derived.Lib.QuietBelow
namespace Go.Proofs.YtfjcibkgbalkaaaDoor.GsL9One
set_option linter.unusedVariables false
set_option linter.unusedSimpArgs false
open Go.RowKit
open Go.Proofs.YtfjcibkgbalkaaaDoor.Rowed Go.Proofs.YtfjcibkgbalkaaaDoor.Turn Go.Proofs.YtfjcibkgbalkaaaDoor.Aid Go.Proofs.YtfjcibkgbalkaaaDoor.GoP Go.Proofs.YtfjcibkgbalkaaaDoor.GoM

def P (x : Go.Proofs.YtfjcibkgbalkaaaDoor.PMail.Mail) : Option (Bool) :=
  unMail x fun (x_leave : Int) (x_from_ : Int) (x_to_ : Int) (x_arrive : Int) =>
  Option.bind (Go.Proofs.YtfjcibkgbalkaaaDoor.GsL9Office.P x_from_) fun (t_4 : Bool) =>
  joinK (fun (t_9 : Bool) =>
  joinK (fun (t_16 : Bool) =>
  joinK (fun (t_21 : Bool) =>
  joinK (fun (t_29 : Bool) =>
  some t_29) fun jt_29 => iteK t_21 (letK (IntKind.i64.wrap (x_arrive - 1)) fun (t_27 : Int) =>
  Option.bind (Go.Proofs.YtfjcibkgbalkaaaDoor.GsL1In.P x_leave 0 t_27) fun (t_28 : Bool) =>
  appK jt_29 t_28) (appK jt_29 false)) fun jt_21 => iteK t_16 (Option.bind (Go.Proofs.YtfjcibkgbalkaaaDoor.GsL9Minute.P x_arrive) fun (t_20 : Bool) =>
  appK jt_21 t_20) (appK jt_21 false)) fun jt_16 => iteK t_9 (letK (x_from_ != x_to_) fun (t_15 : Bool) =>
  appK jt_16 t_15) (appK jt_16 false)) fun jt_9 => iteK t_4 (Option.bind (Go.Proofs.YtfjcibkgbalkaaaDoor.GsL9Office.P x_to_) fun (t_8 : Bool) =>
  appK jt_9 t_8) (appK jt_9 false)

set_option maxRecDepth 100000 in
set_option maxHeartbeats 2000000 in
theorem C (x : Go.Proofs.YtfjcibkgbalkaaaDoor.PMail.Mail)   (w : World)   {r : Bool} (H : Hid (P x = some r)) :
    Calls Tryd.prog 74 #[x.val] w (Gives (.bool r) w) := by
  have HB := Lib.hid (Below.refl w.heap.size w)
  unfold P at H
  obtain ⟨x_leave, x_from_, x_to_, x_arrive⟩ := x
  replace H := unMail_hid H
  unfold Go.Proofs.YtfjcibkgbalkaaaDoor.PMail.Mail.val
  go_enter Tryd.func74, Tryd.ntmps74
  obtain ⟨w_x_0, hw_x_0⟩ : ∃ x, w.alloc (.cells #[.int .i64 x_leave, .int .i64 x_from_, .int .i64 x_to_, .int .i64 x_arrive] 54) = x := ⟨_, rfl⟩
  have bw_x_0 : Below w.heap.size w w_x_0 := by rw [← hw_x_0]; exact (Below.refl _ _).alloc (Nat.le_refl _) _
  have HBw_x_0 := Lib.hid (Below.step HB.out bw_x_0)
  clear bw_x_0
  have kx_0_0 : w_x_0.cell? ⟨w.heap.size, 0, none⟩ = some (.int .i64 x_leave) := by rw [← hw_x_0]; exact box_new _ _ _ 0 _ rfl
  have kx_0_1 : w_x_0.cell? ⟨w.heap.size, 1, none⟩ = some (.int .i64 x_from_) := by rw [← hw_x_0]; exact box_new _ _ _ 1 _ rfl
  have kx_0_2 : w_x_0.cell? ⟨w.heap.size, 2, none⟩ = some (.int .i64 x_to_) := by rw [← hw_x_0]; exact box_new _ _ _ 2 _ rfl
  have kx_0_3 : w_x_0.cell? ⟨w.heap.size, 3, none⟩ = some (.int .i64 x_arrive) := by rw [← hw_x_0]; exact box_new _ _ _ 3 _ rfl
  replace H := bind_hid H
  obtain ⟨t_4, qt_4, H⟩ := H
  go_wp2_with fail
  go_at_call 67
  refine (Go.Proofs.YtfjcibkgbalkaaaDoor.GsL9Office.C (x_from_)  _    qt_4).mono ?_
  rintro e_t_4 wt_4 ⟨rfl, bt_4⟩
  have HBwt_4 := Lib.hid (Below.step HBw_x_0.out bt_4)
  replace kx_0_0 := cell_below bt_4 kx_0_0
  replace kx_0_1 := cell_below bt_4 kx_0_1
  replace kx_0_2 := cell_below bt_4 kx_0_2
  replace kx_0_3 := cell_below bt_4 kx_0_3
  clear bt_4
  replace H := join_hid H
  cases t_4 with
  | false =>
    replace H := ite_f H
    replace H := app_hid H
    replace H := join_hid H
    replace H := ite_f H
    replace H := app_hid H
    replace H := join_hid H
    replace H := ite_f H
    replace H := app_hid H
    replace H := join_hid H
    replace H := ite_f H
    replace H := app_hid H
    obtain rfl := ret_hid H
    go_wp2_with fail
    go_ret
    exact ⟨rfl, HBwt_4.out⟩
  | true =>
    replace H := ite_t H
    replace H := bind_hid H
    obtain ⟨t_8, qt_8, H⟩ := H
    go_wp2_with fail
    go_at_call 67
    refine (Go.Proofs.YtfjcibkgbalkaaaDoor.GsL9Office.C (x_to_)  _    qt_8).mono ?_
    rintro e_t_8 wt_8 ⟨rfl, bt_8⟩
    have HBwt_8 := Lib.hid (Below.step HBwt_4.out bt_8)
    replace kx_0_0 := cell_below bt_8 kx_0_0
    replace kx_0_1 := cell_below bt_8 kx_0_1
    replace kx_0_2 := cell_below bt_8 kx_0_2
    replace kx_0_3 := cell_below bt_8 kx_0_3
    clear bt_8
    replace H := app_hid H
    replace H := join_hid H
    cases t_8 with
    | false =>
      replace H := ite_f H
      replace H := app_hid H
      replace H := join_hid H
      replace H := ite_f H
      replace H := app_hid H
      replace H := join_hid H
      replace H := ite_f H
      replace H := app_hid H
      obtain rfl := ret_hid H
      go_wp2_with fail
      go_ret
      exact ⟨rfl, HBwt_8.out⟩
    | true =>
      replace H := ite_t H
      replace H := let_hid H
      obtain ⟨t_15, ht_15, H⟩ := H
      replace H := app_hid H
      replace H := join_hid H
      cases t_15 with
      | false =>
        replace H := ite_f H
        replace H := app_hid H
        replace H := join_hid H
        replace H := ite_f H
        replace H := app_hid H
        obtain rfl := ret_hid H
        go_wp2_with fail
        go_ret
        exact ⟨rfl, HBwt_8.out⟩
      | true =>
        replace H := ite_t H
        replace H := bind_hid H
        obtain ⟨t_20, qt_20, H⟩ := H
        go_wp2_with fail
        go_at_call 89
        refine (Go.Proofs.YtfjcibkgbalkaaaDoor.GsL9Minute.C (x_arrive)  _    qt_20).mono ?_
        rintro e_t_20 wt_20 ⟨rfl, bt_20⟩
        have HBwt_20 := Lib.hid (Below.step HBwt_8.out bt_20)
        replace kx_0_0 := cell_below bt_20 kx_0_0
        replace kx_0_1 := cell_below bt_20 kx_0_1
        replace kx_0_2 := cell_below bt_20 kx_0_2
        replace kx_0_3 := cell_below bt_20 kx_0_3
        clear bt_20
        replace H := app_hid H
        replace H := join_hid H
        cases t_20 with
        | false =>
          replace H := ite_f H
          replace H := app_hid H
          obtain rfl := ret_hid H
          go_wp2_with fail
          go_ret
          exact ⟨rfl, HBwt_20.out⟩
        | true =>
          replace H := ite_t H
          replace H := let_hid H
          obtain ⟨t_27, ht_27, H⟩ := H
          replace H := bind_hid H
          obtain ⟨t_28, qt_28, H⟩ := H
          go_wp2_with fail
          go_at_call 71
          refine (Go.Proofs.YtfjcibkgbalkaaaDoor.GsL1In.C (x_leave) (0) (t_27)  _    qt_28).mono ?_
          rintro e_t_28 wt_28 ⟨rfl, bt_28⟩
          have HBwt_28 := Lib.hid (Below.step HBwt_20.out bt_28)
          replace kx_0_0 := cell_below bt_28 kx_0_0
          replace kx_0_1 := cell_below bt_28 kx_0_1
          replace kx_0_2 := cell_below bt_28 kx_0_2
          replace kx_0_3 := cell_below bt_28 kx_0_3
          clear bt_28
          replace H := app_hid H
          obtain rfl := ret_hid H
          go_wp2_with fail
          go_ret
          exact ⟨rfl, HBwt_28.out⟩
end Go.Proofs.YtfjcibkgbalkaaaDoor.GsL9One
