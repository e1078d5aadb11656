/- loop.example/g01062/spec.l6Code as a plain function, and the contract of the program's: where the plain one has an answer, the program has it. Conditions: slices read as lists. -/
import Derived.Test.YtekacbjnpeglhaaChecked
import Derived.Test.YtekacbjnpeglhaaGoM
import Derived.Test.YtekacbjnpeglhaaGoRBan
import Derived.WalkKit
import Derived.WalkSpells
import Derived.WalkLawsBesides
import Derived.BigQuiet
import Derived.OwnWalk
import Derived.Deep.LoopGhost
import Derived.Deep.QuietTactic
import Derived.IntWalk
import Derived.Lib.QuietBelow
namespace Go.Proofs.Ytekacbjnpeglhaa.GsL6Code
set_option linter.unusedVariables false
set_option linter.unusedSimpArgs false
open Go.RowKit
open Go.Proofs.Ytekacbjnpeglhaa.Rowed Go.Proofs.Ytekacbjnpeglhaa.Turn Go.Proofs.Ytekacbjnpeglhaa.Aid Go.Proofs.Ytekacbjnpeglhaa.GoP Go.Proofs.Ytekacbjnpeglhaa.GoM

def P (b : Go.Proofs.Ytekacbjnpeglhaa.PBan.Ban) : Option (Int) :=
  unBan b fun (b_a : Int) (b_x : Int) (b_b : Int) (b_y : Int) =>
  letK (IntKind.i64.wrap (1000 * b_a)) fun (t_4 : Int) =>
  letK (IntKind.i64.wrap (100 * b_x)) fun (t_7 : Int) =>
  letK (IntKind.i64.wrap (t_4 + t_7)) fun (t_8 : Int) =>
  letK (IntKind.i64.wrap (10 * b_b)) fun (t_11 : Int) =>
  letK (IntKind.i64.wrap (t_8 + t_11)) fun (t_12 : Int) =>
  letK (IntKind.i64.wrap (t_12 + b_y)) fun (t_15 : Int) =>
  some t_15

set_option maxRecDepth 100000 in
set_option maxHeartbeats 2000000 in
theorem C (b : Go.Proofs.Ytekacbjnpeglhaa.PBan.Ban)   (w : World)   {r : Int} (H : Hid (P b = some r)) :
    Calls Try.prog 77 #[b.val] w (Gives (.int .i64 r) w) := by
  have HB := Lib.hid (Below.refl w.heap.size w)
  unfold P at H
  obtain ⟨b_a, b_x, b_b, b_y⟩ := b
  replace H := unBan_hid H
  unfold Go.Proofs.Ytekacbjnpeglhaa.PBan.Ban.val
  go_enter Try.func77, Try.ntmps77
  obtain ⟨w_b_0, hw_b_0⟩ : ∃ x, w.alloc (.cells #[.int .i64 b_a, .int .i64 b_x, .int .i64 b_b, .int .i64 b_y] 57) = x := ⟨_, rfl⟩
  have bw_b_0 : Below w.heap.size w w_b_0 := by rw [← hw_b_0]; exact (Below.refl _ _).alloc (Nat.le_refl _) _
  have HBw_b_0 := Lib.hid (Below.step HB.out bw_b_0)
  clear bw_b_0
  have kb_0_0 : w_b_0.cell? ⟨w.heap.size, 0, none⟩ = some (.int .i64 b_a) := by rw [← hw_b_0]; exact box_new _ _ _ 0 _ rfl
  have kb_0_1 : w_b_0.cell? ⟨w.heap.size, 1, none⟩ = some (.int .i64 b_x) := by rw [← hw_b_0]; exact box_new _ _ _ 1 _ rfl
  have kb_0_2 : w_b_0.cell? ⟨w.heap.size, 2, none⟩ = some (.int .i64 b_b) := by rw [← hw_b_0]; exact box_new _ _ _ 2 _ rfl
  have kb_0_3 : w_b_0.cell? ⟨w.heap.size, 3, none⟩ = some (.int .i64 b_y) := by rw [← hw_b_0]; exact box_new _ _ _ 3 _ rfl
  replace H := let_hid H
  obtain ⟨t_4, ht_4, H⟩ := H
  replace H := let_hid H
  obtain ⟨t_7, ht_7, H⟩ := H
  replace H := let_hid H
  obtain ⟨t_8, ht_8, H⟩ := H
  replace H := let_hid H
  obtain ⟨t_11, ht_11, H⟩ := H
  replace H := let_hid H
  obtain ⟨t_12, ht_12, H⟩ := H
  replace H := let_hid H
  obtain ⟨t_15, ht_15, H⟩ := H
  obtain rfl := ret_hid H
  go_wp2_with fail
  go_ret
  exact ⟨rfl, HBw_b_0.out⟩
end Go.Proofs.Ytekacbjnpeglhaa.GsL6Code
