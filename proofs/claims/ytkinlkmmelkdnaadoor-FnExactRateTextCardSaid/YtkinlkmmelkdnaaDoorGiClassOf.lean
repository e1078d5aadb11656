/- loop.example/g01062/impl.classOf as a plain function, and the contract of the program's: where the plain one has an answer, the program has it. Conditions: slices read as lists. -/
import Derived.Test.YtkinlkmmelkdnaaDoorChecked
import Derived.Test.YtkinlkmmelkdnaaDoorGoM
import Derived.Test.YtkinlkmmelkdnaaDoorGoRRate
import Derived.Test.YtkinlkmmelkdnaaDoorGoRrateClass
import Derived.Test.YtkinlkmmelkdnaaDoorPrateClass
import Derived.WalkKit
import Derived.WalkSpells
import Derived.WalkLawsBesides
import Derived.BigQuiet
import Derived.OwnWalk
import Derived.Deep.LoopGhost
import Derived.Deep.QuietTactic
import Derived.IntWalk
import Derived.Lib.QuietBelow
namespace Go.Proofs.YtkinlkmmelkdnaaDoor.GiClassOf
set_option linter.unusedVariables false
set_option linter.unusedSimpArgs false
open Go.RowKit
open Go.Proofs.YtkinlkmmelkdnaaDoor.Rowed Go.Proofs.YtkinlkmmelkdnaaDoor.Turn Go.Proofs.YtkinlkmmelkdnaaDoor.Aid Go.Proofs.YtkinlkmmelkdnaaDoor.GoP Go.Proofs.YtkinlkmmelkdnaaDoor.GoM

def P (r_0 : Go.Proofs.YtkinlkmmelkdnaaDoor.PRate.Rate) : Option (Go.Proofs.YtkinlkmmelkdnaaDoor.PrateClass.rateClass) :=
  unRate r_0 fun (r_0_zone : Int) (r_0_grams : Int) (r_0_from_ : Int) (r_0_until_ : Int) (r_0_cents : Int) =>
  some (Go.Proofs.YtkinlkmmelkdnaaDoor.PrateClass.rateClass.mk r_0_zone r_0_grams)

set_option maxRecDepth 100000 in
set_option maxHeartbeats 2000000 in
theorem C (r_0 : Go.Proofs.YtkinlkmmelkdnaaDoor.PRate.Rate)   (w : World)   {r : Go.Proofs.YtkinlkmmelkdnaaDoor.PrateClass.rateClass} (H : Hid (P r_0 = some r)) :
    Calls Tryd.prog 98 #[r_0.val] w (Gives ((Go.Proofs.YtkinlkmmelkdnaaDoor.PrateClass.rateClass.val r)) w) := by
  have HB := Lib.hid (Below.refl w.heap.size w)
  unfold P at H
  obtain ⟨r_0_zone, r_0_grams, r_0_from_, r_0_until_, r_0_cents⟩ := r_0
  replace H := unRate_hid H
  unfold Go.Proofs.YtkinlkmmelkdnaaDoor.PRate.Rate.val
  go_enter Tryd.func98, Tryd.ntmps98
  obtain ⟨w_r_0, hw_r_0⟩ : ∃ x, w.alloc (.cells #[.int .i64 r_0_zone, .int .i64 r_0_grams, .int .i64 r_0_from_, .int .i64 r_0_until_, .int .i64 r_0_cents] 26) = x := ⟨_, rfl⟩
  have bw_r_0 : Below w.heap.size w w_r_0 := by rw [← hw_r_0]; exact (Below.refl _ _).alloc (Nat.le_refl _) _
  have HBw_r_0 := Lib.hid (Below.step HB.out bw_r_0)
  clear bw_r_0
  have kr_0_0 : w_r_0.cell? ⟨w.heap.size, 0, none⟩ = some (.int .i64 r_0_zone) := by rw [← hw_r_0]; exact box_new _ _ _ 0 _ rfl
  have kr_0_1 : w_r_0.cell? ⟨w.heap.size, 1, none⟩ = some (.int .i64 r_0_grams) := by rw [← hw_r_0]; exact box_new _ _ _ 1 _ rfl
  have kr_0_2 : w_r_0.cell? ⟨w.heap.size, 2, none⟩ = some (.int .i64 r_0_from_) := by rw [← hw_r_0]; exact box_new _ _ _ 2 _ rfl
  have kr_0_3 : w_r_0.cell? ⟨w.heap.size, 3, none⟩ = some (.int .i64 r_0_until_) := by rw [← hw_r_0]; exact box_new _ _ _ 3 _ rfl
  have kr_0_4 : w_r_0.cell? ⟨w.heap.size, 4, none⟩ = some (.int .i64 r_0_cents) := by rw [← hw_r_0]; exact box_new _ _ _ 4 _ rfl
  obtain ⟨w_t_1, hw_t_1⟩ : ∃ x, w_r_0.alloc (.cells #[.int .i64 0, .int .i64 0] 94) = x := ⟨_, rfl⟩
  have bw_t_1 : Below w_r_0.heap.size w_r_0 w_t_1 := by rw [← hw_t_1]; exact (Below.refl _ _).alloc (Nat.le_refl _) _
  have Dt_1_r_0 := Lib.hid (apart_box kr_0_0)
  have HBw_t_1 := Lib.hid (Below.step HBw_r_0.out bw_t_1)
  have kr_0_0__298 := cell_below bw_t_1 kr_0_0
  have kr_0_1__299 := cell_below bw_t_1 kr_0_1
  have kr_0_2__300 := cell_below bw_t_1 kr_0_2
  have kr_0_3__301 := cell_below bw_t_1 kr_0_3
  have kr_0_4__302 := cell_below bw_t_1 kr_0_4
  clear bw_t_1
  have kt_1_0 : w_t_1.cell? ⟨w_r_0.heap.size, 0, none⟩ = some (.int .i64 0) := by rw [← hw_t_1]; exact box_new _ _ _ 0 _ rfl
  have kt_1_1 : w_t_1.cell? ⟨w_r_0.heap.size, 1, none⟩ = some (.int .i64 0) := by rw [← hw_t_1]; exact box_new _ _ _ 1 _ rfl
  have Ot_1 : Hid (w_t_1.ownsRow w.heap.size 94 2 (.slice (some ⟨w_r_0.heap.size, 0, none⟩) 1 1) 1 [.int .i64 0, .int .i64 0]) := Lib.hid (by rw [← hw_t_1]; exact own_laid (n := 1) HBw_r_0.out.size rfl rfl (by unfold maxLen; omega))
  obtain ⟨wb7_7, hwb7_7⟩ : ∃ x, ((w_t_1).setCell ⟨w_r_0.heap.size, 0, none⟩ (.int .i64 r_0_zone)).setCell ⟨w_r_0.heap.size, 1, none⟩ (.int .i64 r_0_grams) = x := ⟨_, rfl⟩
  have z0b7_7 := Ot_1.out.frozenAt 0
  have z1b7_7 := Ot_1.out.frozenAt 1
  have Sb7_7 := Lib.hid (own_stores [(0, .int .i64 r_0_zone), (1, .int .i64 r_0_grams)] Ot_1.out)
  have Pb7_7 : Hid (wb7_7.ownsRow w.heap.size 94 2 (.slice (some ⟨w_r_0.heap.size, 0, none⟩) 1 1) 1 [.int .i64 r_0_zone, .int .i64 r_0_grams]) := Lib.hid (by rw [← hwb7_7]; exact Sb7_7.out.1)
  have Gb7_7 : Hid (w_t_1.grownBy wb7_7 (Value.slice (some ⟨w_r_0.heap.size, 0, none⟩) 1 1).ownBlock) := Lib.hid (by rw [← hwb7_7]; exact Sb7_7.out.2)
  have HBwb7_7 := Lib.hid (HBw_t_1.out.grown Gb7_7.out HBw_t_1.out.size (fun q hq => (Ot_1.out.lt q hq).1))
  clear Sb7_7
  have kr_0_0__303 := cell_other kr_0_0__298 Gb7_7.out Dt_1_r_0.out
  have kr_0_1__304 := cell_other kr_0_1__299 Gb7_7.out Dt_1_r_0.out
  have kr_0_2__305 := cell_other kr_0_2__300 Gb7_7.out Dt_1_r_0.out
  have kr_0_3__306 := cell_other kr_0_3__301 Gb7_7.out Dt_1_r_0.out
  have kr_0_4__307 := cell_other kr_0_4__302 Gb7_7.out Dt_1_r_0.out
  clear Ot_1 Gb7_7
  have kt_1_0__308 : wb7_7.cell? ⟨w_r_0.heap.size, 0, none⟩ = some (.int .i64 r_0_zone) := Pb7_7.out.cells rfl 0 _ rfl
  have kt_1_1__309 : wb7_7.cell? ⟨w_r_0.heap.size, 1, none⟩ = some (.int .i64 r_0_grams) := Pb7_7.out.cells rfl 1 _ rfl
  cases ret_hid H
  go_wp2_with fail
  (try simp only [Exit.inBlock, Exit.then])
  refine bodyPost_ret (v := .agg #[.int .i64 r_0_zone, .int .i64 r_0_grams]) ?hr_ ?hd_ ?_
  case hd_ => rfl
  case hr_ => simp [results, Tryd.results98, kt_1_0__308, kt_1_1__309, go_sem]
  exact ⟨rfl, HBwb7_7.out⟩
end Go.Proofs.YtkinlkmmelkdnaaDoor.GiClassOf
