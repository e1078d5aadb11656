/- loop.example/g01062/laws.toComb as a plain function, and the contract of the program's: where the plain one has an answer, the program has it. Conditions: slices read as lists. -/
import Derived.Test.YtdgbigkcophjoaaChecked
import Derived.Test.YtdgbigkcophjoaaGoM
import Derived.Test.YtdgbigkcophjoaaGoRComb
import Derived.WalkKit
import Derived.WalkSpells
import Derived.WalkLawsBesides
import Derived.BigQuiet
import Derived.OwnWalk
import Derived.Deep.LoopGhost
import Derived.Deep.QuietTactic
import Derived.IntWalk
import Derived.Lib.QuietBelow
namespace Go.Proofs.Ytdgbigkcophjoaa.GlToComb
set_option linter.unusedVariables false
set_option linter.unusedSimpArgs false
open Go.RowKit
open Go.Proofs.Ytdgbigkcophjoaa.Rowed Go.Proofs.Ytdgbigkcophjoaa.Turn Go.Proofs.Ytdgbigkcophjoaa.Aid Go.Proofs.Ytdgbigkcophjoaa.GoP Go.Proofs.Ytdgbigkcophjoaa.GoM

def P (a : Go.Proofs.Ytdgbigkcophjoaa.PComb.Comb) : Option (Go.Proofs.Ytdgbigkcophjoaa.PComb.Comb) :=
  unComb a fun (a_id : Int) (a_wide : Int) (a_high : Int) (a_line : Bool) =>
  some (Go.Proofs.Ytdgbigkcophjoaa.PComb.Comb.mk a_id a_wide a_high a_line)

set_option maxRecDepth 100000 in
set_option maxHeartbeats 2000000 in
theorem C (a : Go.Proofs.Ytdgbigkcophjoaa.PComb.Comb)   (w : World)   {r : Go.Proofs.Ytdgbigkcophjoaa.PComb.Comb} (H : Hid (P a = some r)) :
    Calls Try.prog 91 #[a.val] w (Gives ((Go.Proofs.Ytdgbigkcophjoaa.PComb.Comb.val r)) w) := by
  have HB := Lib.hid (Below.refl w.heap.size w)
  unfold P at H
  obtain ⟨a_id, a_wide, a_high, a_line⟩ := a
  replace H := unComb_hid H
  unfold Go.Proofs.Ytdgbigkcophjoaa.PComb.Comb.val
  go_enter Try.func91, Try.ntmps91
  obtain ⟨w_a_0, hw_a_0⟩ : ∃ x, w.alloc (.cells #[.int .i64 a_id, .int .i64 a_wide, .int .i64 a_high, .bool a_line] 103) = x := ⟨_, rfl⟩
  have bw_a_0 : Below w.heap.size w w_a_0 := by rw [← hw_a_0]; exact (Below.refl _ _).alloc (Nat.le_refl _) _
  have HBw_a_0 := Lib.hid (Below.step HB.out bw_a_0)
  clear bw_a_0
  have ka_0_0 : w_a_0.cell? ⟨w.heap.size, 0, none⟩ = some (.int .i64 a_id) := by rw [← hw_a_0]; exact box_new _ _ _ 0 _ rfl
  have ka_0_1 : w_a_0.cell? ⟨w.heap.size, 1, none⟩ = some (.int .i64 a_wide) := by rw [← hw_a_0]; exact box_new _ _ _ 1 _ rfl
  have ka_0_2 : w_a_0.cell? ⟨w.heap.size, 2, none⟩ = some (.int .i64 a_high) := by rw [← hw_a_0]; exact box_new _ _ _ 2 _ rfl
  have ka_0_3 : w_a_0.cell? ⟨w.heap.size, 3, none⟩ = some (.bool a_line) := by rw [← hw_a_0]; exact box_new _ _ _ 3 _ rfl
  obtain ⟨w_t_1, hw_t_1⟩ : ∃ x, w_a_0.alloc (.cells #[.int .i64 0, .int .i64 0, .int .i64 0, .bool false] 101) = x := ⟨_, rfl⟩
  have bw_t_1 : Below w_a_0.heap.size w_a_0 w_t_1 := by rw [← hw_t_1]; exact (Below.refl _ _).alloc (Nat.le_refl _) _
  have Dt_1_a_0 := Lib.hid (apart_box ka_0_0)
  have HBw_t_1 := Lib.hid (Below.step HBw_a_0.out bw_t_1)
  have ka_0_0__384 := cell_below bw_t_1 ka_0_0
  have ka_0_1__385 := cell_below bw_t_1 ka_0_1
  have ka_0_2__386 := cell_below bw_t_1 ka_0_2
  have ka_0_3__387 := cell_below bw_t_1 ka_0_3
  clear bw_t_1
  have kt_1_0 : w_t_1.cell? ⟨w_a_0.heap.size, 0, none⟩ = some (.int .i64 0) := by rw [← hw_t_1]; exact box_new _ _ _ 0 _ rfl
  have kt_1_1 : w_t_1.cell? ⟨w_a_0.heap.size, 1, none⟩ = some (.int .i64 0) := by rw [← hw_t_1]; exact box_new _ _ _ 1 _ rfl
  have kt_1_2 : w_t_1.cell? ⟨w_a_0.heap.size, 2, none⟩ = some (.int .i64 0) := by rw [← hw_t_1]; exact box_new _ _ _ 2 _ rfl
  have kt_1_3 : w_t_1.cell? ⟨w_a_0.heap.size, 3, none⟩ = some (.bool false) := by rw [← hw_t_1]; exact box_new _ _ _ 3 _ rfl
  have Ot_1 : Hid (w_t_1.ownsRow w.heap.size 101 4 (.slice (some ⟨w_a_0.heap.size, 0, none⟩) 1 1) 1 [.int .i64 0, .int .i64 0, .int .i64 0, .bool false]) := Lib.hid (by rw [← hw_t_1]; exact own_laid (n := 1) HBw_a_0.out.size rfl rfl (by unfold maxLen; omega))
  obtain ⟨w_out_2, hw_out_2⟩ : ∃ x, w_t_1.alloc (.cells #[.int .i64 0, .int .i64 0, .int .i64 0, .bool false] 101) = x := ⟨_, rfl⟩
  have bw_out_2 : Below w_t_1.heap.size w_t_1 w_out_2 := by rw [← hw_out_2]; exact (Below.refl _ _).alloc (Nat.le_refl _) _
  have Dout_2_a_0 := Lib.hid (apart_box ka_0_0__384)
  have Dout_2_t_1 := Lib.hid (apart_box kt_1_0)
  have HBw_out_2 := Lib.hid (Below.step HBw_t_1.out bw_out_2)
  have ka_0_0__388 := cell_below bw_out_2 ka_0_0__384
  have ka_0_1__389 := cell_below bw_out_2 ka_0_1__385
  have ka_0_2__390 := cell_below bw_out_2 ka_0_2__386
  have ka_0_3__391 := cell_below bw_out_2 ka_0_3__387
  have kt_1_0__392 := cell_below bw_out_2 kt_1_0
  have kt_1_1__393 := cell_below bw_out_2 kt_1_1
  have kt_1_2__394 := cell_below bw_out_2 kt_1_2
  have kt_1_3__395 := cell_below bw_out_2 kt_1_3
  replace Ot_1 := Lib.hid (own_below Ot_1.out bw_out_2)
  clear bw_out_2
  have kout_2_0 : w_out_2.cell? ⟨w_t_1.heap.size, 0, none⟩ = some (.int .i64 0) := by rw [← hw_out_2]; exact box_new _ _ _ 0 _ rfl
  have kout_2_1 : w_out_2.cell? ⟨w_t_1.heap.size, 1, none⟩ = some (.int .i64 0) := by rw [← hw_out_2]; exact box_new _ _ _ 1 _ rfl
  have kout_2_2 : w_out_2.cell? ⟨w_t_1.heap.size, 2, none⟩ = some (.int .i64 0) := by rw [← hw_out_2]; exact box_new _ _ _ 2 _ rfl
  have kout_2_3 : w_out_2.cell? ⟨w_t_1.heap.size, 3, none⟩ = some (.bool false) := by rw [← hw_out_2]; exact box_new _ _ _ 3 _ rfl
  have Oout_2 : Hid (w_out_2.ownsRow w.heap.size 101 4 (.slice (some ⟨w_t_1.heap.size, 0, none⟩) 1 1) 1 [.int .i64 0, .int .i64 0, .int .i64 0, .bool false]) := Lib.hid (by rw [← hw_out_2]; exact own_laid (n := 1) HBw_t_1.out.size rfl rfl (by unfold maxLen; omega))
  obtain ⟨wb6_6, hwb6_6⟩ : ∃ x, (w_out_2).setCell ⟨w_t_1.heap.size, 0, none⟩ (.int .i64 a_id) = x := ⟨_, rfl⟩
  have z0b6_6 := Oout_2.out.frozenAt 0
  have Sb6_6 := Lib.hid (own_stores [(0, .int .i64 a_id)] Oout_2.out)
  have Pb6_6 : Hid (wb6_6.ownsRow w.heap.size 101 4 (.slice (some ⟨w_t_1.heap.size, 0, none⟩) 1 1) 1 [.int .i64 a_id, .int .i64 0, .int .i64 0, .bool false]) := Lib.hid (by rw [← hwb6_6]; exact Sb6_6.out.1)
  have Gb6_6 : Hid (w_out_2.grownBy wb6_6 (Value.slice (some ⟨w_t_1.heap.size, 0, none⟩) 1 1).ownBlock) := Lib.hid (by rw [← hwb6_6]; exact Sb6_6.out.2)
  have HBwb6_6 := Lib.hid (HBw_out_2.out.grown Gb6_6.out HBw_out_2.out.size (fun q hq => (Oout_2.out.lt q hq).1))
  clear Sb6_6
  have ka_0_0__396 := cell_other ka_0_0__388 Gb6_6.out Dout_2_a_0.out
  have ka_0_1__397 := cell_other ka_0_1__389 Gb6_6.out Dout_2_a_0.out
  have ka_0_2__398 := cell_other ka_0_2__390 Gb6_6.out Dout_2_a_0.out
  have ka_0_3__399 := cell_other ka_0_3__391 Gb6_6.out Dout_2_a_0.out
  have kt_1_0__400 := cell_other kt_1_0__392 Gb6_6.out Dout_2_t_1.out
  have kt_1_1__401 := cell_other kt_1_1__393 Gb6_6.out Dout_2_t_1.out
  have kt_1_2__402 := cell_other kt_1_2__394 Gb6_6.out Dout_2_t_1.out
  have kt_1_3__403 := cell_other kt_1_3__395 Gb6_6.out Dout_2_t_1.out
  replace Ot_1 := Lib.hid (own_other Ot_1.out Gb6_6.out Dout_2_t_1.out)
  clear Oout_2 Gb6_6
  have kout_2_0__404 : wb6_6.cell? ⟨w_t_1.heap.size, 0, none⟩ = some (.int .i64 a_id) := Pb6_6.out.cells rfl 0 _ rfl
  have kout_2_1__405 : wb6_6.cell? ⟨w_t_1.heap.size, 1, none⟩ = some (.int .i64 0) := Pb6_6.out.cells rfl 1 _ rfl
  have kout_2_2__406 : wb6_6.cell? ⟨w_t_1.heap.size, 2, none⟩ = some (.int .i64 0) := Pb6_6.out.cells rfl 2 _ rfl
  have kout_2_3__407 : wb6_6.cell? ⟨w_t_1.heap.size, 3, none⟩ = some (.bool false) := Pb6_6.out.cells rfl 3 _ rfl
  obtain ⟨wb10_10, hwb10_10⟩ : ∃ x, (wb6_6).setCell ⟨w_t_1.heap.size, 1, none⟩ (.int .i64 a_wide) = x := ⟨_, rfl⟩
  have z0b10_10 := Pb6_6.out.frozenAt 1
  have Sb10_10 := Lib.hid (own_stores [(1, .int .i64 a_wide)] Pb6_6.out)
  have Pb10_10 : Hid (wb10_10.ownsRow w.heap.size 101 4 (.slice (some ⟨w_t_1.heap.size, 0, none⟩) 1 1) 1 [.int .i64 a_id, .int .i64 a_wide, .int .i64 0, .bool false]) := Lib.hid (by rw [← hwb10_10]; exact Sb10_10.out.1)
  have Gb10_10 : Hid (wb6_6.grownBy wb10_10 (Value.slice (some ⟨w_t_1.heap.size, 0, none⟩) 1 1).ownBlock) := Lib.hid (by rw [← hwb10_10]; exact Sb10_10.out.2)
  have HBwb10_10 := Lib.hid (HBwb6_6.out.grown Gb10_10.out HBwb6_6.out.size (fun q hq => (Pb6_6.out.lt q hq).1))
  clear Sb10_10
  have ka_0_0__408 := cell_other ka_0_0__396 Gb10_10.out Dout_2_a_0.out
  have ka_0_1__409 := cell_other ka_0_1__397 Gb10_10.out Dout_2_a_0.out
  have ka_0_2__410 := cell_other ka_0_2__398 Gb10_10.out Dout_2_a_0.out
  have ka_0_3__411 := cell_other ka_0_3__399 Gb10_10.out Dout_2_a_0.out
  have kt_1_0__412 := cell_other kt_1_0__400 Gb10_10.out Dout_2_t_1.out
  have kt_1_1__413 := cell_other kt_1_1__401 Gb10_10.out Dout_2_t_1.out
  have kt_1_2__414 := cell_other kt_1_2__402 Gb10_10.out Dout_2_t_1.out
  have kt_1_3__415 := cell_other kt_1_3__403 Gb10_10.out Dout_2_t_1.out
  replace Ot_1 := Lib.hid (own_other Ot_1.out Gb10_10.out Dout_2_t_1.out)
  clear Pb6_6 Gb10_10
  have kout_2_0__416 : wb10_10.cell? ⟨w_t_1.heap.size, 0, none⟩ = some (.int .i64 a_id) := Pb10_10.out.cells rfl 0 _ rfl
  have kout_2_1__417 : wb10_10.cell? ⟨w_t_1.heap.size, 1, none⟩ = some (.int .i64 a_wide) := Pb10_10.out.cells rfl 1 _ rfl
  have kout_2_2__418 : wb10_10.cell? ⟨w_t_1.heap.size, 2, none⟩ = some (.int .i64 0) := Pb10_10.out.cells rfl 2 _ rfl
  have kout_2_3__419 : wb10_10.cell? ⟨w_t_1.heap.size, 3, none⟩ = some (.bool false) := Pb10_10.out.cells rfl 3 _ rfl
  obtain ⟨wb14_14, hwb14_14⟩ : ∃ x, (wb10_10).setCell ⟨w_t_1.heap.size, 2, none⟩ (.int .i64 a_high) = x := ⟨_, rfl⟩
  have z0b14_14 := Pb10_10.out.frozenAt 2
  have Sb14_14 := Lib.hid (own_stores [(2, .int .i64 a_high)] Pb10_10.out)
  have Pb14_14 : Hid (wb14_14.ownsRow w.heap.size 101 4 (.slice (some ⟨w_t_1.heap.size, 0, none⟩) 1 1) 1 [.int .i64 a_id, .int .i64 a_wide, .int .i64 a_high, .bool false]) := Lib.hid (by rw [← hwb14_14]; exact Sb14_14.out.1)
  have Gb14_14 : Hid (wb10_10.grownBy wb14_14 (Value.slice (some ⟨w_t_1.heap.size, 0, none⟩) 1 1).ownBlock) := Lib.hid (by rw [← hwb14_14]; exact Sb14_14.out.2)
  have HBwb14_14 := Lib.hid (HBwb10_10.out.grown Gb14_14.out HBwb10_10.out.size (fun q hq => (Pb10_10.out.lt q hq).1))
  clear Sb14_14
  have ka_0_0__420 := cell_other ka_0_0__408 Gb14_14.out Dout_2_a_0.out
  have ka_0_1__421 := cell_other ka_0_1__409 Gb14_14.out Dout_2_a_0.out
  have ka_0_2__422 := cell_other ka_0_2__410 Gb14_14.out Dout_2_a_0.out
  have ka_0_3__423 := cell_other ka_0_3__411 Gb14_14.out Dout_2_a_0.out
  have kt_1_0__424 := cell_other kt_1_0__412 Gb14_14.out Dout_2_t_1.out
  have kt_1_1__425 := cell_other kt_1_1__413 Gb14_14.out Dout_2_t_1.out
  have kt_1_2__426 := cell_other kt_1_2__414 Gb14_14.out Dout_2_t_1.out
  have kt_1_3__427 := cell_other kt_1_3__415 Gb14_14.out Dout_2_t_1.out
  replace Ot_1 := Lib.hid (own_other Ot_1.out Gb14_14.out Dout_2_t_1.out)
  clear Pb10_10 Gb14_14
  have kout_2_0__428 : wb14_14.cell? ⟨w_t_1.heap.size, 0, none⟩ = some (.int .i64 a_id) := Pb14_14.out.cells rfl 0 _ rfl
  have kout_2_1__429 : wb14_14.cell? ⟨w_t_1.heap.size, 1, none⟩ = some (.int .i64 a_wide) := Pb14_14.out.cells rfl 1 _ rfl
  have kout_2_2__430 : wb14_14.cell? ⟨w_t_1.heap.size, 2, none⟩ = some (.int .i64 a_high) := Pb14_14.out.cells rfl 2 _ rfl
  have kout_2_3__431 : wb14_14.cell? ⟨w_t_1.heap.size, 3, none⟩ = some (.bool false) := Pb14_14.out.cells rfl 3 _ rfl
  obtain ⟨wb18_18, hwb18_18⟩ : ∃ x, (wb14_14).setCell ⟨w_t_1.heap.size, 3, none⟩ (.bool a_line) = x := ⟨_, rfl⟩
  have z0b18_18 := Pb14_14.out.frozenAt 3
  have Sb18_18 := Lib.hid (own_stores [(3, .bool a_line)] Pb14_14.out)
  have Pb18_18 : Hid (wb18_18.ownsRow w.heap.size 101 4 (.slice (some ⟨w_t_1.heap.size, 0, none⟩) 1 1) 1 [.int .i64 a_id, .int .i64 a_wide, .int .i64 a_high, .bool a_line]) := Lib.hid (by rw [← hwb18_18]; exact Sb18_18.out.1)
  have Gb18_18 : Hid (wb14_14.grownBy wb18_18 (Value.slice (some ⟨w_t_1.heap.size, 0, none⟩) 1 1).ownBlock) := Lib.hid (by rw [← hwb18_18]; exact Sb18_18.out.2)
  have HBwb18_18 := Lib.hid (HBwb14_14.out.grown Gb18_18.out HBwb14_14.out.size (fun q hq => (Pb14_14.out.lt q hq).1))
  clear Sb18_18
  have ka_0_0__432 := cell_other ka_0_0__420 Gb18_18.out Dout_2_a_0.out
  have ka_0_1__433 := cell_other ka_0_1__421 Gb18_18.out Dout_2_a_0.out
  have ka_0_2__434 := cell_other ka_0_2__422 Gb18_18.out Dout_2_a_0.out
  have ka_0_3__435 := cell_other ka_0_3__423 Gb18_18.out Dout_2_a_0.out
  have kt_1_0__436 := cell_other kt_1_0__424 Gb18_18.out Dout_2_t_1.out
  have kt_1_1__437 := cell_other kt_1_1__425 Gb18_18.out Dout_2_t_1.out
  have kt_1_2__438 := cell_other kt_1_2__426 Gb18_18.out Dout_2_t_1.out
  have kt_1_3__439 := cell_other kt_1_3__427 Gb18_18.out Dout_2_t_1.out
  replace Ot_1 := Lib.hid (own_other Ot_1.out Gb18_18.out Dout_2_t_1.out)
  clear Pb14_14 Gb18_18
  have kout_2_0__440 : wb18_18.cell? ⟨w_t_1.heap.size, 0, none⟩ = some (.int .i64 a_id) := Pb18_18.out.cells rfl 0 _ rfl
  have kout_2_1__441 : wb18_18.cell? ⟨w_t_1.heap.size, 1, none⟩ = some (.int .i64 a_wide) := Pb18_18.out.cells rfl 1 _ rfl
  have kout_2_2__442 : wb18_18.cell? ⟨w_t_1.heap.size, 2, none⟩ = some (.int .i64 a_high) := Pb18_18.out.cells rfl 2 _ rfl
  have kout_2_3__443 : wb18_18.cell? ⟨w_t_1.heap.size, 3, none⟩ = some (.bool a_line) := Pb18_18.out.cells rfl 3 _ rfl
  obtain ⟨wb20_20, hwb20_20⟩ : ∃ x, ((((wb18_18).setCell ⟨w_a_0.heap.size, 0, none⟩ (.int .i64 a_id)).setCell ⟨w_a_0.heap.size, 1, none⟩ (.int .i64 a_wide)).setCell ⟨w_a_0.heap.size, 2, none⟩ (.int .i64 a_high)).setCell ⟨w_a_0.heap.size, 3, none⟩ (.bool a_line) = x := ⟨_, rfl⟩
  have z0b20_20 := Ot_1.out.frozenAt 0
  have z1b20_20 := Ot_1.out.frozenAt 1
  have z2b20_20 := Ot_1.out.frozenAt 2
  have z3b20_20 := Ot_1.out.frozenAt 3
  have Sb20_20 := Lib.hid (own_stores [(0, .int .i64 a_id), (1, .int .i64 a_wide), (2, .int .i64 a_high), (3, .bool a_line)] Ot_1.out)
  have Pb20_20 : Hid (wb20_20.ownsRow w.heap.size 101 4 (.slice (some ⟨w_a_0.heap.size, 0, none⟩) 1 1) 1 [.int .i64 a_id, .int .i64 a_wide, .int .i64 a_high, .bool a_line]) := Lib.hid (by rw [← hwb20_20]; exact Sb20_20.out.1)
  have Gb20_20 : Hid (wb18_18.grownBy wb20_20 (Value.slice (some ⟨w_a_0.heap.size, 0, none⟩) 1 1).ownBlock) := Lib.hid (by rw [← hwb20_20]; exact Sb20_20.out.2)
  have HBwb20_20 := Lib.hid (HBwb18_18.out.grown Gb20_20.out HBwb18_18.out.size (fun q hq => (Ot_1.out.lt q hq).1))
  clear Sb20_20
  have ka_0_0__444 := cell_other ka_0_0__432 Gb20_20.out Dt_1_a_0.out
  have ka_0_1__445 := cell_other ka_0_1__433 Gb20_20.out Dt_1_a_0.out
  have ka_0_2__446 := cell_other ka_0_2__434 Gb20_20.out Dt_1_a_0.out
  have ka_0_3__447 := cell_other ka_0_3__435 Gb20_20.out Dt_1_a_0.out
  have kout_2_0__448 := cell_other kout_2_0__440 Gb20_20.out (Apart.symm Dout_2_t_1.out)
  have kout_2_1__449 := cell_other kout_2_1__441 Gb20_20.out (Apart.symm Dout_2_t_1.out)
  have kout_2_2__450 := cell_other kout_2_2__442 Gb20_20.out (Apart.symm Dout_2_t_1.out)
  have kout_2_3__451 := cell_other kout_2_3__443 Gb20_20.out (Apart.symm Dout_2_t_1.out)
  replace Pb18_18 := Lib.hid (own_other Pb18_18.out Gb20_20.out (Apart.symm Dout_2_t_1.out))
  clear Ot_1 Gb20_20
  have kt_1_0__452 : wb20_20.cell? ⟨w_a_0.heap.size, 0, none⟩ = some (.int .i64 a_id) := Pb20_20.out.cells rfl 0 _ rfl
  have kt_1_1__453 : wb20_20.cell? ⟨w_a_0.heap.size, 1, none⟩ = some (.int .i64 a_wide) := Pb20_20.out.cells rfl 1 _ rfl
  have kt_1_2__454 : wb20_20.cell? ⟨w_a_0.heap.size, 2, none⟩ = some (.int .i64 a_high) := Pb20_20.out.cells rfl 2 _ rfl
  have kt_1_3__455 : wb20_20.cell? ⟨w_a_0.heap.size, 3, none⟩ = some (.bool a_line) := Pb20_20.out.cells rfl 3 _ rfl
  cases ret_hid H
  go_wp2_with fail
  (try simp only [Exit.inBlock, Exit.then])
  refine bodyPost_ret (v := .agg #[.int .i64 a_id, .int .i64 a_wide, .int .i64 a_high, .bool a_line]) ?hr_ ?hd_ ?_
  case hd_ => rfl
  case hr_ => simp [results, Try.results91, kt_1_0__452, kt_1_1__453, kt_1_2__454, kt_1_3__455, go_sem]
  exact ⟨rfl, HBwb20_20.out⟩
end Go.Proofs.Ytdgbigkcophjoaa.GlToComb
