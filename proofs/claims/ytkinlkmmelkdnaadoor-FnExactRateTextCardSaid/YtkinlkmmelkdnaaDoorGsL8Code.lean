/- loop.example/g01062/spec.l8Code as a plain function, and the contract of the program's: where the plain one has an answer, the program has it. Conditions: slices read as lists. -/
import Derived.Test.YtkinlkmmelkdnaaDoorChecked
import Derived.Test.YtkinlkmmelkdnaaDoorGoM
import Derived.Test.YtkinlkmmelkdnaaDoorGoRRate
import Derived.WalkKit
import Derived.WalkSpells
import Derived.WalkLawsBesides
import Derived.BigQuiet
import Derived.OwnWalk
import Derived.Deep.LoopGhost
import Derived.Deep.QuietTactic
import Derived.IntWalk
import Derived.Lib.QuietBelow
namespace Go.Proofs.YtkinlkmmelkdnaaDoor.GsL8Code
set_option linter.unusedVariables false
set_option linter.unusedSimpArgs false
open Go.RowKit
open Go.Proofs.YtkinlkmmelkdnaaDoor.Rowed Go.Proofs.YtkinlkmmelkdnaaDoor.Turn Go.Proofs.YtkinlkmmelkdnaaDoor.Aid Go.Proofs.YtkinlkmmelkdnaaDoor.GoP Go.Proofs.YtkinlkmmelkdnaaDoor.GoM

def P (r_0 : Go.Proofs.YtkinlkmmelkdnaaDoor.PRate.Rate) : Option (Int) :=
  unRate r_0 fun (r_0_zone : Int) (r_0_grams : Int) (r_0_from_ : Int) (r_0_until_ : Int) (r_0_cents : Int) =>
  letK (IntKind.i64.wrap (10000 * r_0_zone)) fun (t_4 : Int) =>
  letK (IntKind.i64.wrap (t_4 + r_0_grams)) fun (t_7 : Int) =>
  letK (IntKind.i64.wrap (t_7 * 10000)) fun (t_8 : Int) =>
  letK (IntKind.i64.wrap (t_8 + r_0_from_)) fun (t_11 : Int) =>
  some t_11

set_option maxRecDepth 100000 in
set_option maxHeartbeats 2000000 in
theorem C (r_0 : Go.Proofs.YtkinlkmmelkdnaaDoor.PRate.Rate)   (w : World)   {r : Int} (H : Hid (P r_0 = some r)) :
    Calls Tryd.prog 97 #[r_0.val] w (Gives (.int .i64 r) w) := by
  have HB := Lib.hid (Below.refl w.heap.size w)
  unfold P at H
  obtain ⟨r_0_zone, r_0_grams, r_0_from_, r_0_until_, r_0_cents⟩ := r_0
  replace H := unRate_hid H
  unfold Go.Proofs.YtkinlkmmelkdnaaDoor.PRate.Rate.val
  go_enter Tryd.func97, Tryd.ntmps97
  obtain ⟨w_r_0, hw_r_0⟩ : ∃ x, w.alloc (.cells #[.int .i64 r_0_zone, .int .i64 r_0_grams, .int .i64 r_0_from_, .int .i64 r_0_until_, .int .i64 r_0_cents] 26) = x := ⟨_, rfl⟩
  have bw_r_0 : Below w.heap.size w w_r_0 := by rw [← hw_r_0]; exact (Below.refl _ _).alloc (Nat.le_refl _) _
  have HBw_r_0 := Lib.hid (Below.step HB.out bw_r_0)
  clear bw_r_0
  have kr_0_0 : w_r_0.cell? ⟨w.heap.size, 0, none⟩ = some (.int .i64 r_0_zone) := by rw [← hw_r_0]; exact box_new _ _ _ 0 _ rfl
  have kr_0_1 : w_r_0.cell? ⟨w.heap.size, 1, none⟩ = some (.int .i64 r_0_grams) := by rw [← hw_r_0]; exact box_new _ _ _ 1 _ rfl
  have kr_0_2 : w_r_0.cell? ⟨w.heap.size, 2, none⟩ = some (.int .i64 r_0_from_) := by rw [← hw_r_0]; exact box_new _ _ _ 2 _ rfl
  have kr_0_3 : w_r_0.cell? ⟨w.heap.size, 3, none⟩ = some (.int .i64 r_0_until_) := by rw [← hw_r_0]; exact box_new _ _ _ 3 _ rfl
  have kr_0_4 : w_r_0.cell? ⟨w.heap.size, 4, none⟩ = some (.int .i64 r_0_cents) := by rw [← hw_r_0]; exact box_new _ _ _ 4 _ rfl
  replace H := let_hid H
  obtain ⟨t_4, ht_4, H⟩ := H
  replace H := let_hid H
  obtain ⟨t_7, ht_7, H⟩ := H
  replace H := let_hid H
  obtain ⟨t_8, ht_8, H⟩ := H
  replace H := let_hid H
  obtain ⟨t_11, ht_11, H⟩ := H
  obtain rfl := ret_hid H
  go_wp2_with fail
  go_ret
  exact ⟨rfl, HBw_r_0.out⟩
end Go.Proofs.YtkinlkmmelkdnaaDoor.GsL8Code
