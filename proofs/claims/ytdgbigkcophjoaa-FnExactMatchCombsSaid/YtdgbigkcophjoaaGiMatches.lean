/- loop.example/g01062/impl.matches as a plain function, and the contract of the program's: where the plain one has an answer, the program has it. Conditions: slices read as lists. -/
import Derived.Test.YtdgbigkcophjoaaChecked
import Derived.Test.YtdgbigkcophjoaaGoM
import Derived.Test.YtdgbigkcophjoaaGoRComb
import Derived.Test.YtdgbigkcophjoaaGiIsNear
import Derived.WalkKit
import Derived.WalkSpells
import Derived.WalkLawsBesides
import Derived.BigQuiet
import Derived.OwnWalk
import Derived.Deep.LoopGhost
import Derived.Deep.QuietTactic
import Derived.IntWalk
import Derived.Lib.QuietBelow
namespace Go.Proofs.Ytdgbigkcophjoaa.GiMatches
set_option linter.unusedVariables false
set_option linter.unusedSimpArgs false
open Go.RowKit
open Go.Proofs.Ytdgbigkcophjoaa.Rowed Go.Proofs.Ytdgbigkcophjoaa.Turn Go.Proofs.Ytdgbigkcophjoaa.Aid Go.Proofs.Ytdgbigkcophjoaa.GoP Go.Proofs.Ytdgbigkcophjoaa.GoM

def P (x : Go.Proofs.Ytdgbigkcophjoaa.PComb.Comb) (wide : Int) (high : Int) (off : Int) : Option (Bool) :=
  unComb x fun (x_id : Int) (x_wide : Int) (x_high : Int) (x_line : Bool) =>
  Option.bind (Go.Proofs.Ytdgbigkcophjoaa.GiIsNear.P x_wide wide off) fun (t_6 : Bool) =>
  joinK (fun (t_13 : Bool) =>
  some t_13) fun jt_13 => iteK t_6 (Option.bind (Go.Proofs.Ytdgbigkcophjoaa.GiIsNear.P x_high high off) fun (t_12 : Bool) =>
  appK jt_13 t_12) (appK jt_13 false)

set_option maxRecDepth 100000 in
set_option maxHeartbeats 2000000 in
theorem C (x : Go.Proofs.Ytdgbigkcophjoaa.PComb.Comb) (wide : Int) (high : Int) (off : Int)   (w : World)   {r : Bool} (H : Hid (P x wide high off = some r)) :
    Calls Try.prog 101 #[x.val, .int .i64 wide, .int .i64 high, .int .i64 off] w (Gives (.bool r) w) := by
  have HB := Lib.hid (Below.refl w.heap.size w)
  unfold P at H
  obtain ⟨x_id, x_wide, x_high, x_line⟩ := x
  replace H := unComb_hid H
  unfold Go.Proofs.Ytdgbigkcophjoaa.PComb.Comb.val
  go_enter Try.func101, Try.ntmps101
  obtain ⟨w_x_0, hw_x_0⟩ : ∃ x, w.alloc (.cells #[.int .i64 x_id, .int .i64 x_wide, .int .i64 x_high, .bool x_line] 101) = x := ⟨_, rfl⟩
  have bw_x_0 : Below w.heap.size w w_x_0 := by rw [← hw_x_0]; exact (Below.refl _ _).alloc (Nat.le_refl _) _
  have HBw_x_0 := Lib.hid (Below.step HB.out bw_x_0)
  clear bw_x_0
  have kx_0_0 : w_x_0.cell? ⟨w.heap.size, 0, none⟩ = some (.int .i64 x_id) := by rw [← hw_x_0]; exact box_new _ _ _ 0 _ rfl
  have kx_0_1 : w_x_0.cell? ⟨w.heap.size, 1, none⟩ = some (.int .i64 x_wide) := by rw [← hw_x_0]; exact box_new _ _ _ 1 _ rfl
  have kx_0_2 : w_x_0.cell? ⟨w.heap.size, 2, none⟩ = some (.int .i64 x_high) := by rw [← hw_x_0]; exact box_new _ _ _ 2 _ rfl
  have kx_0_3 : w_x_0.cell? ⟨w.heap.size, 3, none⟩ = some (.bool x_line) := by rw [← hw_x_0]; exact box_new _ _ _ 3 _ rfl
  replace H := bind_hid H
  obtain ⟨t_6, qt_6, H⟩ := H
  go_wp2_with fail
  go_at_call 116
  refine (Go.Proofs.Ytdgbigkcophjoaa.GiIsNear.C (x_wide) (wide) (off)  _    qt_6).mono ?_
  rintro e_t_6 wt_6 ⟨rfl, bt_6⟩
  have HBwt_6 := Lib.hid (Below.step HBw_x_0.out bt_6)
  replace kx_0_0 := cell_below bt_6 kx_0_0
  replace kx_0_1 := cell_below bt_6 kx_0_1
  replace kx_0_2 := cell_below bt_6 kx_0_2
  replace kx_0_3 := cell_below bt_6 kx_0_3
  clear bt_6
  replace H := join_hid H
  cases t_6 with
  | false =>
    replace H := ite_f H
    replace H := app_hid H
    obtain rfl := ret_hid H
    go_wp2_with fail
    go_ret
    exact ⟨rfl, HBwt_6.out⟩
  | true =>
    replace H := ite_t H
    replace H := bind_hid H
    obtain ⟨t_12, qt_12, H⟩ := H
    go_wp2_with fail
    go_at_call 116
    refine (Go.Proofs.Ytdgbigkcophjoaa.GiIsNear.C (x_high) (high) (off)  _    qt_12).mono ?_
    rintro e_t_12 wt_12 ⟨rfl, bt_12⟩
    have HBwt_12 := Lib.hid (Below.step HBwt_6.out bt_12)
    replace kx_0_0 := cell_below bt_12 kx_0_0
    replace kx_0_1 := cell_below bt_12 kx_0_1
    replace kx_0_2 := cell_below bt_12 kx_0_2
    replace kx_0_3 := cell_below bt_12 kx_0_3
    clear bt_12
    replace H := app_hid H
    obtain rfl := ret_hid H
    go_wp2_with fail
    go_ret
    exact ⟨rfl, HBwt_12.out⟩
end Go.Proofs.Ytdgbigkcophjoaa.GiMatches
