/- loop.example/g01062/impl.SameGauges$1 as a plain function, and the contract of the program's: where the plain one has an answer, the program has it. Conditions: slices read as lists. -/
import Derived.Test.YtdgbigkcophjoaaChecked
import Derived.Test.YtdgbigkcophjoaaGoM
import Derived.Test.YtdgbigkcophjoaaGoRComb
import Derived.WalkKit
import Derived.WalkSpells
import Derived.WalkLawsBesides
import Derived.BigQuiet
import Derived.OwnWalk
import Derived.Deep.LoopGhost
import Derived.Deep.QuietTactic
import Derived.IntWalk
import Derived.Lib.QuietBelow
namespace Go.Proofs.Ytdgbigkcophjoaa.GiSameGauges1
set_option linter.unusedVariables false
set_option linter.unusedSimpArgs false
open Go.RowKit
open Go.Proofs.Ytdgbigkcophjoaa.Rowed Go.Proofs.Ytdgbigkcophjoaa.Turn Go.Proofs.Ytdgbigkcophjoaa.Aid Go.Proofs.Ytdgbigkcophjoaa.GoP Go.Proofs.Ytdgbigkcophjoaa.GoM

def P (y : Go.Proofs.Ytdgbigkcophjoaa.PComb.Comb) (hq0_id : Int) (hq0_wide : Int) (hq0_high : Int) (hq0_line : Bool) : Option (Bool) :=
  unComb y fun (y_id : Int) (y_wide : Int) (y_high : Int) (y_line : Bool) =>
  letK (y_wide == hq0_wide) fun (t_6 : Bool) =>
  joinK (fun (t_13 : Bool) =>
  some t_13) fun jt_13 => iteK t_6 (letK (y_high == hq0_high) fun (t_12 : Bool) =>
  appK jt_13 t_12) (appK jt_13 false)

set_option maxRecDepth 100000 in
set_option maxHeartbeats 2000000 in
theorem C (y : Go.Proofs.Ytdgbigkcophjoaa.PComb.Comb) (hq0_id : Int) (hq0_wide : Int) (hq0_high : Int) (hq0_line : Bool)  (gq0 : Nat) (w : World)  (Fq0_0h : Hid (w.cell? ⟨gq0, 0, none⟩ = some (.int .i64 hq0_id))) (Fq0_1h : Hid (w.cell? ⟨gq0, 1, none⟩ = some (.int .i64 hq0_wide))) (Fq0_2h : Hid (w.cell? ⟨gq0, 2, none⟩ = some (.int .i64 hq0_high))) (Fq0_3h : Hid (w.cell? ⟨gq0, 3, none⟩ = some (.bool hq0_line))) {r : Bool} (H : Hid (P y hq0_id hq0_wide hq0_high hq0_line = some r)) :
    Calls Try.prog 103 #[y.val, .pointer (some ⟨gq0, 0, none⟩)] w (Gives (.bool r) w) := by
  have HB := Lib.hid (Below.refl w.heap.size w)
  unfold P at H
  obtain ⟨y_id, y_wide, y_high, y_line⟩ := y
  replace H := unComb_hid H
  unfold Go.Proofs.Ytdgbigkcophjoaa.PComb.Comb.val
  have Fq0_0 := Fq0_0h.out
  have Fq0_1 := Fq0_1h.out
  have Fq0_2 := Fq0_2h.out
  have Fq0_3 := Fq0_3h.out
  go_enter Try.func103, Try.ntmps103
  obtain ⟨w_y_0, hw_y_0⟩ : ∃ x, w.alloc (.cells #[.int .i64 y_id, .int .i64 y_wide, .int .i64 y_high, .bool y_line] 101) = x := ⟨_, rfl⟩
  have bw_y_0 : Below w.heap.size w w_y_0 := by rw [← hw_y_0]; exact (Below.refl _ _).alloc (Nat.le_refl _) _
  have HBw_y_0 := Lib.hid (Below.step HB.out bw_y_0)
  have Fq0_0__544 := cell_below bw_y_0 Fq0_0
  have Fq0_1__545 := cell_below bw_y_0 Fq0_1
  have Fq0_2__546 := cell_below bw_y_0 Fq0_2
  have Fq0_3__547 := cell_below bw_y_0 Fq0_3
  clear bw_y_0
  have ky_0_0 : w_y_0.cell? ⟨w.heap.size, 0, none⟩ = some (.int .i64 y_id) := by rw [← hw_y_0]; exact box_new _ _ _ 0 _ rfl
  have ky_0_1 : w_y_0.cell? ⟨w.heap.size, 1, none⟩ = some (.int .i64 y_wide) := by rw [← hw_y_0]; exact box_new _ _ _ 1 _ rfl
  have ky_0_2 : w_y_0.cell? ⟨w.heap.size, 2, none⟩ = some (.int .i64 y_high) := by rw [← hw_y_0]; exact box_new _ _ _ 2 _ rfl
  have ky_0_3 : w_y_0.cell? ⟨w.heap.size, 3, none⟩ = some (.bool y_line) := by rw [← hw_y_0]; exact box_new _ _ _ 3 _ rfl
  replace H := let_hid H
  obtain ⟨t_6, ht_6, H⟩ := H
  replace H := join_hid H
  cases t_6 with
  | false =>
    replace H := ite_f H
    replace H := app_hid H
    obtain rfl := ret_hid H
    go_wp2_with fail
    go_ret
    exact ⟨rfl, HBw_y_0.out⟩
  | true =>
    replace H := ite_t H
    replace H := let_hid H
    obtain ⟨t_12, ht_12, H⟩ := H
    replace H := app_hid H
    obtain rfl := ret_hid H
    go_wp2_with fail
    go_ret
    exact ⟨rfl, HBw_y_0.out⟩
end Go.Proofs.Ytdgbigkcophjoaa.GiSameGauges1
