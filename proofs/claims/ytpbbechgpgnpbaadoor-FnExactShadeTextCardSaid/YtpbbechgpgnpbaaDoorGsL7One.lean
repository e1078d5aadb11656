/- loop.example/g01062/spec.l7One as a plain function, and the contract of the program's: where the plain one has an answer, the program has it. Conditions: slices read as lists. -/
import Derived.Test.YtpbbechgpgnpbaaDoorChecked
import Derived.Test.YtpbbechgpgnpbaaDoorGoM
import Derived.Test.YtpbbechgpgnpbaaDoorGoRShade
import Derived.Test.YtpbbechgpgnpbaaDoorGsL2Word
import Derived.Test.YtpbbechgpgnpbaaDoorGsL7Hue
import Derived.Test.YtpbbechgpgnpbaaDoorGsL1In
import Derived.WalkKit
import Derived.WalkSpells
import Derived.WalkLawsBesides
import Derived.BigQuiet
import Derived.OwnWalk
import Derived.Deep.LoopGhost
import Derived.Deep.QuietTactic
import Derived.IntWalk
import Derived.Lib.QuietBelow
namespace Go.Proofs.YtpbbechgpgnpbaaDoor.GsL7One
set_option linter.unusedVariables false
set_option linter.unusedSimpArgs false
open Go.RowKit
open Go.Proofs.YtpbbechgpgnpbaaDoor.Rowed Go.Proofs.YtpbbechgpgnpbaaDoor.Turn Go.Proofs.YtpbbechgpgnpbaaDoor.Aid Go.Proofs.YtpbbechgpgnpbaaDoor.GoP Go.Proofs.YtpbbechgpgnpbaaDoor.GoM

def P (x : Go.Proofs.YtpbbechgpgnpbaaDoor.PShade.Shade) : Option (Bool) :=
  unShade x fun (x_name : ByteArray) (x_hue : Int) (x_width : Int) (x_dark : Int) (x_light : Int) =>
  Option.bind (Go.Proofs.YtpbbechgpgnpbaaDoor.GsL2Word.P x_name) fun (t_4 : Bool) =>
  joinK (fun (t_9 : Bool) =>
  joinK (fun (t_14 : Bool) =>
  joinK (fun (t_19 : Bool) =>
  joinK (fun (t_26 : Bool) =>
  some t_26) fun jt_26 => iteK t_19 (Option.bind (Go.Proofs.YtpbbechgpgnpbaaDoor.GsL1In.P x_dark 0 x_light) fun (t_25 : Bool) =>
  appK jt_26 t_25) (appK jt_26 false)) fun jt_19 => iteK t_14 (Option.bind (Go.Proofs.YtpbbechgpgnpbaaDoor.GsL1In.P x_light 0 100) fun (t_18 : Bool) =>
  appK jt_19 t_18) (appK jt_19 false)) fun jt_14 => iteK t_9 (Option.bind (Go.Proofs.YtpbbechgpgnpbaaDoor.GsL1In.P x_width 0 179) fun (t_13 : Bool) =>
  appK jt_14 t_13) (appK jt_14 false)) fun jt_9 => iteK t_4 (Option.bind (Go.Proofs.YtpbbechgpgnpbaaDoor.GsL7Hue.P x_hue) fun (t_8 : Bool) =>
  appK jt_9 t_8) (appK jt_9 false)

set_option maxRecDepth 100000 in
set_option maxHeartbeats 2000000 in
theorem C (x : Go.Proofs.YtpbbechgpgnpbaaDoor.PShade.Shade)   (w : World)   {r : Bool} (H : Hid (P x = some r)) :
    Calls Tryd.prog 24 #[x.val] w (Gives (.bool r) w) := by
  have HB := Lib.hid (Below.refl w.heap.size w)
  unfold P at H
  obtain ⟨x_name, x_hue, x_width, x_dark, x_light⟩ := x
  replace H := unShade_hid H
  unfold Go.Proofs.YtpbbechgpgnpbaaDoor.PShade.Shade.val
  go_enter Tryd.func24, Tryd.ntmps24
  obtain ⟨w_x_0, hw_x_0⟩ : ∃ x, w.alloc (.cells #[.string x_name, .int .i64 x_hue, .int .i64 x_width, .int .i64 x_dark, .int .i64 x_light] 27) = x := ⟨_, rfl⟩
  have bw_x_0 : Below w.heap.size w w_x_0 := by rw [← hw_x_0]; exact (Below.refl _ _).alloc (Nat.le_refl _) _
  have HBw_x_0 := Lib.hid (Below.step HB.out bw_x_0)
  clear bw_x_0
  have kx_0_0 : w_x_0.cell? ⟨w.heap.size, 0, none⟩ = some (.string x_name) := by rw [← hw_x_0]; exact box_new _ _ _ 0 _ rfl
  have kx_0_1 : w_x_0.cell? ⟨w.heap.size, 1, none⟩ = some (.int .i64 x_hue) := by rw [← hw_x_0]; exact box_new _ _ _ 1 _ rfl
  have kx_0_2 : w_x_0.cell? ⟨w.heap.size, 2, none⟩ = some (.int .i64 x_width) := by rw [← hw_x_0]; exact box_new _ _ _ 2 _ rfl
  have kx_0_3 : w_x_0.cell? ⟨w.heap.size, 3, none⟩ = some (.int .i64 x_dark) := by rw [← hw_x_0]; exact box_new _ _ _ 3 _ rfl
  have kx_0_4 : w_x_0.cell? ⟨w.heap.size, 4, none⟩ = some (.int .i64 x_light) := by rw [← hw_x_0]; exact box_new _ _ _ 4 _ rfl
  replace H := bind_hid H
  obtain ⟨t_4, qt_4, H⟩ := H
  go_wp2_with fail
  go_at_call 56
  refine (Go.Proofs.YtpbbechgpgnpbaaDoor.GsL2Word.C (x_name)  _    qt_4).mono ?_
  rintro e_t_4 wt_4 ⟨rfl, bt_4⟩
  have HBwt_4 := Lib.hid (Below.step HBw_x_0.out bt_4)
  replace kx_0_0 := cell_below bt_4 kx_0_0
  replace kx_0_1 := cell_below bt_4 kx_0_1
  replace kx_0_2 := cell_below bt_4 kx_0_2
  replace kx_0_3 := cell_below bt_4 kx_0_3
  replace kx_0_4 := cell_below bt_4 kx_0_4
  clear bt_4
  replace H := join_hid H
  cases t_4 with
  | false =>
    replace H := ite_f H
    replace H := app_hid H
    replace H := join_hid H
    replace H := ite_f H
    replace H := app_hid H
    replace H := join_hid H
    replace H := ite_f H
    replace H := app_hid H
    replace H := join_hid H
    replace H := ite_f H
    replace H := app_hid H
    obtain rfl := ret_hid H
    go_wp2_with fail
    go_ret
    exact ⟨rfl, HBwt_4.out⟩
  | true =>
    replace H := ite_t H
    replace H := bind_hid H
    obtain ⟨t_8, qt_8, H⟩ := H
    go_wp2_with fail
    go_at_call 31
    refine (Go.Proofs.YtpbbechgpgnpbaaDoor.GsL7Hue.C (x_hue)  _    qt_8).mono ?_
    rintro e_t_8 wt_8 ⟨rfl, bt_8⟩
    have HBwt_8 := Lib.hid (Below.step HBwt_4.out bt_8)
    replace kx_0_0 := cell_below bt_8 kx_0_0
    replace kx_0_1 := cell_below bt_8 kx_0_1
    replace kx_0_2 := cell_below bt_8 kx_0_2
    replace kx_0_3 := cell_below bt_8 kx_0_3
    replace kx_0_4 := cell_below bt_8 kx_0_4
    clear bt_8
    replace H := app_hid H
    replace H := join_hid H
    cases t_8 with
    | false =>
      replace H := ite_f H
      replace H := app_hid H
      replace H := join_hid H
      replace H := ite_f H
      replace H := app_hid H
      replace H := join_hid H
      replace H := ite_f H
      replace H := app_hid H
      obtain rfl := ret_hid H
      go_wp2_with fail
      go_ret
      exact ⟨rfl, HBwt_8.out⟩
    | true =>
      replace H := ite_t H
      replace H := bind_hid H
      obtain ⟨t_13, qt_13, H⟩ := H
      go_wp2_with fail
      go_at_call 51
      refine (Go.Proofs.YtpbbechgpgnpbaaDoor.GsL1In.C (x_width) (0) (179)  _    qt_13).mono ?_
      rintro e_t_13 wt_13 ⟨rfl, bt_13⟩
      have HBwt_13 := Lib.hid (Below.step HBwt_8.out bt_13)
      replace kx_0_0 := cell_below bt_13 kx_0_0
      replace kx_0_1 := cell_below bt_13 kx_0_1
      replace kx_0_2 := cell_below bt_13 kx_0_2
      replace kx_0_3 := cell_below bt_13 kx_0_3
      replace kx_0_4 := cell_below bt_13 kx_0_4
      clear bt_13
      replace H := app_hid H
      replace H := join_hid H
      cases t_13 with
      | false =>
        replace H := ite_f H
        replace H := app_hid H
        replace H := join_hid H
        replace H := ite_f H
        replace H := app_hid H
        obtain rfl := ret_hid H
        go_wp2_with fail
        go_ret
        exact ⟨rfl, HBwt_13.out⟩
      | true =>
        replace H := ite_t H
        replace H := bind_hid H
        obtain ⟨t_18, qt_18, H⟩ := H
        go_wp2_with fail
        go_at_call 51
        refine (Go.Proofs.YtpbbechgpgnpbaaDoor.GsL1In.C (x_light) (0) (100)  _    qt_18).mono ?_
        rintro e_t_18 wt_18 ⟨rfl, bt_18⟩
        have HBwt_18 := Lib.hid (Below.step HBwt_13.out bt_18)
        replace kx_0_0 := cell_below bt_18 kx_0_0
        replace kx_0_1 := cell_below bt_18 kx_0_1
        replace kx_0_2 := cell_below bt_18 kx_0_2
        replace kx_0_3 := cell_below bt_18 kx_0_3
        replace kx_0_4 := cell_below bt_18 kx_0_4
        clear bt_18
        replace H := app_hid H
        replace H := join_hid H
        cases t_18 with
        | false =>
          replace H := ite_f H
          replace H := app_hid H
          obtain rfl := ret_hid H
          go_wp2_with fail
          go_ret
          exact ⟨rfl, HBwt_18.out⟩
        | true =>
          replace H := ite_t H
          replace H := bind_hid H
          obtain ⟨t_25, qt_25, H⟩ := H
          go_wp2_with fail
          go_at_call 51
          refine (Go.Proofs.YtpbbechgpgnpbaaDoor.GsL1In.C (x_dark) (0) (x_light)  _    qt_25).mono ?_
          rintro e_t_25 wt_25 ⟨rfl, bt_25⟩
          have HBwt_25 := Lib.hid (Below.step HBwt_18.out bt_25)
          replace kx_0_0 := cell_below bt_25 kx_0_0
          replace kx_0_1 := cell_below bt_25 kx_0_1
          replace kx_0_2 := cell_below bt_25 kx_0_2
          replace kx_0_3 := cell_below bt_25 kx_0_3
          replace kx_0_4 := cell_below bt_25 kx_0_4
          clear bt_25
          replace H := app_hid H
          obtain rfl := ret_hid H
          go_wp2_with fail
          go_ret
          exact ⟨rfl, HBwt_25.out⟩
end Go.Proofs.YtpbbechgpgnpbaaDoor.GsL7One
