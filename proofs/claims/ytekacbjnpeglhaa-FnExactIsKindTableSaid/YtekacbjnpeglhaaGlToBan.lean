/- loop.example/g01062/laws.toBan as a plain function, and the contract of the program's: where the plain one has an answer, the program has it. Conditions: slices read as lists. -/
import Derived.Test.YtekacbjnpeglhaaChecked
import Derived.Test.YtekacbjnpeglhaaGoM
import Derived.Test.YtekacbjnpeglhaaGoRBan
import Derived.WalkKit
import Derived.WalkSpells
import Derived.WalkLawsBesides
import Derived.BigQuiet
import Derived.OwnWalk
import Derived.Deep.LoopGhost
import Derived.Deep.QuietTactic
import Derived.IntWalk
import Derived.Lib.QuietBelow
namespace Go.Proofs.Ytekacbjnpeglhaa.GlToBan
set_option linter.unusedVariables false
set_option linter.unusedSimpArgs false
open Go.RowKit
open Go.Proofs.Ytekacbjnpeglhaa.Rowed Go.Proofs.Ytekacbjnpeglhaa.Turn Go.Proofs.Ytekacbjnpeglhaa.Aid Go.Proofs.Ytekacbjnpeglhaa.GoP Go.Proofs.Ytekacbjnpeglhaa.GoM

def P (a : Go.Proofs.Ytekacbjnpeglhaa.PBan.Ban) : Option (Go.Proofs.Ytekacbjnpeglhaa.PBan.Ban) :=
  unBan a fun (a_a : Int) (a_x : Int) (a_b : Int) (a_y : Int) =>
  some (Go.Proofs.Ytekacbjnpeglhaa.PBan.Ban.mk a_a a_x a_b a_y)

set_option maxRecDepth 100000 in
set_option maxHeartbeats 2000000 in
theorem C (a : Go.Proofs.Ytekacbjnpeglhaa.PBan.Ban)   (w : World)   {r : Go.Proofs.Ytekacbjnpeglhaa.PBan.Ban} (H : Hid (P a = some r)) :
    Calls Try.prog 39 #[a.val] w (Gives ((Go.Proofs.Ytekacbjnpeglhaa.PBan.Ban.val r)) w) := by
  have HB := Lib.hid (Below.refl w.heap.size w)
  unfold P at H
  obtain ⟨a_a, a_x, a_b, a_y⟩ := a
  replace H := unBan_hid H
  unfold Go.Proofs.Ytekacbjnpeglhaa.PBan.Ban.val
  go_enter Try.func39, Try.ntmps39
  obtain ⟨w_a_0, hw_a_0⟩ : ∃ x, w.alloc (.cells #[.int .i64 a_a, .int .i64 a_x, .int .i64 a_b, .int .i64 a_y] 54) = x := ⟨_, rfl⟩
  have bw_a_0 : Below w.heap.size w w_a_0 := by rw [← hw_a_0]; exact (Below.refl _ _).alloc (Nat.le_refl _) _
  have HBw_a_0 := Lib.hid (Below.step HB.out bw_a_0)
  clear bw_a_0
  have ka_0_0 : w_a_0.cell? ⟨w.heap.size, 0, none⟩ = some (.int .i64 a_a) := by rw [← hw_a_0]; exact box_new _ _ _ 0 _ rfl
  have ka_0_1 : w_a_0.cell? ⟨w.heap.size, 1, none⟩ = some (.int .i64 a_x) := by rw [← hw_a_0]; exact box_new _ _ _ 1 _ rfl
  have ka_0_2 : w_a_0.cell? ⟨w.heap.size, 2, none⟩ = some (.int .i64 a_b) := by rw [← hw_a_0]; exact box_new _ _ _ 2 _ rfl
  have ka_0_3 : w_a_0.cell? ⟨w.heap.size, 3, none⟩ = some (.int .i64 a_y) := by rw [← hw_a_0]; exact box_new _ _ _ 3 _ rfl
  obtain ⟨w_t_1, hw_t_1⟩ : ∃ x, w_a_0.alloc (.cells #[.int .i64 0, .int .i64 0, .int .i64 0, .int .i64 0] 57) = x := ⟨_, rfl⟩
  have bw_t_1 : Below w_a_0.heap.size w_a_0 w_t_1 := by rw [← hw_t_1]; exact (Below.refl _ _).alloc (Nat.le_refl _) _
  have Dt_1_a_0 := Lib.hid (apart_box ka_0_0)
  have HBw_t_1 := Lib.hid (Below.step HBw_a_0.out bw_t_1)
  have ka_0_0__2 := cell_below bw_t_1 ka_0_0
  have ka_0_1__3 := cell_below bw_t_1 ka_0_1
  have ka_0_2__4 := cell_below bw_t_1 ka_0_2
  have ka_0_3__5 := cell_below bw_t_1 ka_0_3
  clear bw_t_1
  have kt_1_0 : w_t_1.cell? ⟨w_a_0.heap.size, 0, none⟩ = some (.int .i64 0) := by rw [← hw_t_1]; exact box_new _ _ _ 0 _ rfl
  have kt_1_1 : w_t_1.cell? ⟨w_a_0.heap.size, 1, none⟩ = some (.int .i64 0) := by rw [← hw_t_1]; exact box_new _ _ _ 1 _ rfl
  have kt_1_2 : w_t_1.cell? ⟨w_a_0.heap.size, 2, none⟩ = some (.int .i64 0) := by rw [← hw_t_1]; exact box_new _ _ _ 2 _ rfl
  have kt_1_3 : w_t_1.cell? ⟨w_a_0.heap.size, 3, none⟩ = some (.int .i64 0) := by rw [← hw_t_1]; exact box_new _ _ _ 3 _ rfl
  have Ot_1 : Hid (w_t_1.ownsRow w.heap.size 57 4 (.slice (some ⟨w_a_0.heap.size, 0, none⟩) 1 1) 1 [.int .i64 0, .int .i64 0, .int .i64 0, .int .i64 0]) := Lib.hid (by rw [← hw_t_1]; exact own_laid (n := 1) HBw_a_0.out.size rfl rfl (by unfold maxLen; omega))
  obtain ⟨w_out_2, hw_out_2⟩ : ∃ x, w_t_1.alloc (.cells #[.int .i64 0, .int .i64 0, .int .i64 0, .int .i64 0] 57) = x := ⟨_, rfl⟩
  have bw_out_2 : Below w_t_1.heap.size w_t_1 w_out_2 := by rw [← hw_out_2]; exact (Below.refl _ _).alloc (Nat.le_refl _) _
  have Dout_2_a_0 := Lib.hid (apart_box ka_0_0__2)
  have Dout_2_t_1 := Lib.hid (apart_box kt_1_0)
  have HBw_out_2 := Lib.hid (Below.step HBw_t_1.out bw_out_2)
  have ka_0_0__6 := cell_below bw_out_2 ka_0_0__2
  have ka_0_1__7 := cell_below bw_out_2 ka_0_1__3
  have ka_0_2__8 := cell_below bw_out_2 ka_0_2__4
  have ka_0_3__9 := cell_below bw_out_2 ka_0_3__5
  have kt_1_0__10 := cell_below bw_out_2 kt_1_0
  have kt_1_1__11 := cell_below bw_out_2 kt_1_1
  have kt_1_2__12 := cell_below bw_out_2 kt_1_2
  have kt_1_3__13 := cell_below bw_out_2 kt_1_3
  replace Ot_1 := Lib.hid (own_below Ot_1.out bw_out_2)
  clear bw_out_2
  have kout_2_0 : w_out_2.cell? ⟨w_t_1.heap.size, 0, none⟩ = some (.int .i64 0) := by rw [← hw_out_2]; exact box_new _ _ _ 0 _ rfl
  have kout_2_1 : w_out_2.cell? ⟨w_t_1.heap.size, 1, none⟩ = some (.int .i64 0) := by rw [← hw_out_2]; exact box_new _ _ _ 1 _ rfl
  have kout_2_2 : w_out_2.cell? ⟨w_t_1.heap.size, 2, none⟩ = some (.int .i64 0) := by rw [← hw_out_2]; exact box_new _ _ _ 2 _ rfl
  have kout_2_3 : w_out_2.cell? ⟨w_t_1.heap.size, 3, none⟩ = some (.int .i64 0) := by rw [← hw_out_2]; exact box_new _ _ _ 3 _ rfl
  have Oout_2 : Hid (w_out_2.ownsRow w.heap.size 57 4 (.slice (some ⟨w_t_1.heap.size, 0, none⟩) 1 1) 1 [.int .i64 0, .int .i64 0, .int .i64 0, .int .i64 0]) := Lib.hid (by rw [← hw_out_2]; exact own_laid (n := 1) HBw_t_1.out.size rfl rfl (by unfold maxLen; omega))
  obtain ⟨wb6_6, hwb6_6⟩ : ∃ x, (w_out_2).setCell ⟨w_t_1.heap.size, 0, none⟩ (.int .i64 a_a) = x := ⟨_, rfl⟩
  have z0b6_6 := Oout_2.out.frozenAt 0
  have Sb6_6 := Lib.hid (own_stores [(0, .int .i64 a_a)] Oout_2.out)
  have Pb6_6 : Hid (wb6_6.ownsRow w.heap.size 57 4 (.slice (some ⟨w_t_1.heap.size, 0, none⟩) 1 1) 1 [.int .i64 a_a, .int .i64 0, .int .i64 0, .int .i64 0]) := Lib.hid (by rw [← hwb6_6]; exact Sb6_6.out.1)
  have Gb6_6 : Hid (w_out_2.grownBy wb6_6 (Value.slice (some ⟨w_t_1.heap.size, 0, none⟩) 1 1).ownBlock) := Lib.hid (by rw [← hwb6_6]; exact Sb6_6.out.2)
  have HBwb6_6 := Lib.hid (HBw_out_2.out.grown Gb6_6.out HBw_out_2.out.size (fun q hq => (Oout_2.out.lt q hq).1))
  clear Sb6_6
  have ka_0_0__14 := cell_other ka_0_0__6 Gb6_6.out Dout_2_a_0.out
  have ka_0_1__15 := cell_other ka_0_1__7 Gb6_6.out Dout_2_a_0.out
  have ka_0_2__16 := cell_other ka_0_2__8 Gb6_6.out Dout_2_a_0.out
  have ka_0_3__17 := cell_other ka_0_3__9 Gb6_6.out Dout_2_a_0.out
  have kt_1_0__18 := cell_other kt_1_0__10 Gb6_6.out Dout_2_t_1.out
  have kt_1_1__19 := cell_other kt_1_1__11 Gb6_6.out Dout_2_t_1.out
  have kt_1_2__20 := cell_other kt_1_2__12 Gb6_6.out Dout_2_t_1.out
  have kt_1_3__21 := cell_other kt_1_3__13 Gb6_6.out Dout_2_t_1.out
  replace Ot_1 := Lib.hid (own_other Ot_1.out Gb6_6.out Dout_2_t_1.out)
  clear Oout_2 Gb6_6
  have kout_2_0__22 : wb6_6.cell? ⟨w_t_1.heap.size, 0, none⟩ = some (.int .i64 a_a) := Pb6_6.out.cells rfl 0 _ rfl
  have kout_2_1__23 : wb6_6.cell? ⟨w_t_1.heap.size, 1, none⟩ = some (.int .i64 0) := Pb6_6.out.cells rfl 1 _ rfl
  have kout_2_2__24 : wb6_6.cell? ⟨w_t_1.heap.size, 2, none⟩ = some (.int .i64 0) := Pb6_6.out.cells rfl 2 _ rfl
  have kout_2_3__25 : wb6_6.cell? ⟨w_t_1.heap.size, 3, none⟩ = some (.int .i64 0) := Pb6_6.out.cells rfl 3 _ rfl
  obtain ⟨wb10_10, hwb10_10⟩ : ∃ x, (wb6_6).setCell ⟨w_t_1.heap.size, 1, none⟩ (.int .i64 a_x) = x := ⟨_, rfl⟩
  have z0b10_10 := Pb6_6.out.frozenAt 1
  have Sb10_10 := Lib.hid (own_stores [(1, .int .i64 a_x)] Pb6_6.out)
  have Pb10_10 : Hid (wb10_10.ownsRow w.heap.size 57 4 (.slice (some ⟨w_t_1.heap.size, 0, none⟩) 1 1) 1 [.int .i64 a_a, .int .i64 a_x, .int .i64 0, .int .i64 0]) := Lib.hid (by rw [← hwb10_10]; exact Sb10_10.out.1)
  have Gb10_10 : Hid (wb6_6.grownBy wb10_10 (Value.slice (some ⟨w_t_1.heap.size, 0, none⟩) 1 1).ownBlock) := Lib.hid (by rw [← hwb10_10]; exact Sb10_10.out.2)
  have HBwb10_10 := Lib.hid (HBwb6_6.out.grown Gb10_10.out HBwb6_6.out.size (fun q hq => (Pb6_6.out.lt q hq).1))
  clear Sb10_10
  have ka_0_0__26 := cell_other ka_0_0__14 Gb10_10.out Dout_2_a_0.out
  have ka_0_1__27 := cell_other ka_0_1__15 Gb10_10.out Dout_2_a_0.out
  have ka_0_2__28 := cell_other ka_0_2__16 Gb10_10.out Dout_2_a_0.out
  have ka_0_3__29 := cell_other ka_0_3__17 Gb10_10.out Dout_2_a_0.out
  have kt_1_0__30 := cell_other kt_1_0__18 Gb10_10.out Dout_2_t_1.out
  have kt_1_1__31 := cell_other kt_1_1__19 Gb10_10.out Dout_2_t_1.out
  have kt_1_2__32 := cell_other kt_1_2__20 Gb10_10.out Dout_2_t_1.out
  have kt_1_3__33 := cell_other kt_1_3__21 Gb10_10.out Dout_2_t_1.out
  replace Ot_1 := Lib.hid (own_other Ot_1.out Gb10_10.out Dout_2_t_1.out)
  clear Pb6_6 Gb10_10
  have kout_2_0__34 : wb10_10.cell? ⟨w_t_1.heap.size, 0, none⟩ = some (.int .i64 a_a) := Pb10_10.out.cells rfl 0 _ rfl
  have kout_2_1__35 : wb10_10.cell? ⟨w_t_1.heap.size, 1, none⟩ = some (.int .i64 a_x) := Pb10_10.out.cells rfl 1 _ rfl
  have kout_2_2__36 : wb10_10.cell? ⟨w_t_1.heap.size, 2, none⟩ = some (.int .i64 0) := Pb10_10.out.cells rfl 2 _ rfl
  have kout_2_3__37 : wb10_10.cell? ⟨w_t_1.heap.size, 3, none⟩ = some (.int .i64 0) := Pb10_10.out.cells rfl 3 _ rfl
  obtain ⟨wb14_14, hwb14_14⟩ : ∃ x, (wb10_10).setCell ⟨w_t_1.heap.size, 2, none⟩ (.int .i64 a_b) = x := ⟨_, rfl⟩
  have z0b14_14 := Pb10_10.out.frozenAt 2
  have Sb14_14 := Lib.hid (own_stores [(2, .int .i64 a_b)] Pb10_10.out)
  have Pb14_14 : Hid (wb14_14.ownsRow w.heap.size 57 4 (.slice (some ⟨w_t_1.heap.size, 0, none⟩) 1 1) 1 [.int .i64 a_a, .int .i64 a_x, .int .i64 a_b, .int .i64 0]) := Lib.hid (by rw [← hwb14_14]; exact Sb14_14.out.1)
  have Gb14_14 : Hid (wb10_10.grownBy wb14_14 (Value.slice (some ⟨w_t_1.heap.size, 0, none⟩) 1 1).ownBlock) := Lib.hid (by rw [← hwb14_14]; exact Sb14_14.out.2)
  have HBwb14_14 := Lib.hid (HBwb10_10.out.grown Gb14_14.out HBwb10_10.out.size (fun q hq => (Pb10_10.out.lt q hq).1))
  clear Sb14_14
  have ka_0_0__38 := cell_other ka_0_0__26 Gb14_14.out Dout_2_a_0.out
  have ka_0_1__39 := cell_other ka_0_1__27 Gb14_14.out Dout_2_a_0.out
  have ka_0_2__40 := cell_other ka_0_2__28 Gb14_14.out Dout_2_a_0.out
  have ka_0_3__41 := cell_other ka_0_3__29 Gb14_14.out Dout_2_a_0.out
  have kt_1_0__42 := cell_other kt_1_0__30 Gb14_14.out Dout_2_t_1.out
  have kt_1_1__43 := cell_other kt_1_1__31 Gb14_14.out Dout_2_t_1.out
  have kt_1_2__44 := cell_other kt_1_2__32 Gb14_14.out Dout_2_t_1.out
  have kt_1_3__45 := cell_other kt_1_3__33 Gb14_14.out Dout_2_t_1.out
  replace Ot_1 := Lib.hid (own_other Ot_1.out Gb14_14.out Dout_2_t_1.out)
  clear Pb10_10 Gb14_14
  have kout_2_0__46 : wb14_14.cell? ⟨w_t_1.heap.size, 0, none⟩ = some (.int .i64 a_a) := Pb14_14.out.cells rfl 0 _ rfl
  have kout_2_1__47 : wb14_14.cell? ⟨w_t_1.heap.size, 1, none⟩ = some (.int .i64 a_x) := Pb14_14.out.cells rfl 1 _ rfl
  have kout_2_2__48 : wb14_14.cell? ⟨w_t_1.heap.size, 2, none⟩ = some (.int .i64 a_b) := Pb14_14.out.cells rfl 2 _ rfl
  have kout_2_3__49 : wb14_14.cell? ⟨w_t_1.heap.size, 3, none⟩ = some (.int .i64 0) := Pb14_14.out.cells rfl 3 _ rfl
  obtain ⟨wb18_18, hwb18_18⟩ : ∃ x, (wb14_14).setCell ⟨w_t_1.heap.size, 3, none⟩ (.int .i64 a_y) = x := ⟨_, rfl⟩
  have z0b18_18 := Pb14_14.out.frozenAt 3
  have Sb18_18 := Lib.hid (own_stores [(3, .int .i64 a_y)] Pb14_14.out)
  have Pb18_18 : Hid (wb18_18.ownsRow w.heap.size 57 4 (.slice (some ⟨w_t_1.heap.size, 0, none⟩) 1 1) 1 [.int .i64 a_a, .int .i64 a_x, .int .i64 a_b, .int .i64 a_y]) := Lib.hid (by rw [← hwb18_18]; exact Sb18_18.out.1)
  have Gb18_18 : Hid (wb14_14.grownBy wb18_18 (Value.slice (some ⟨w_t_1.heap.size, 0, none⟩) 1 1).ownBlock) := Lib.hid (by rw [← hwb18_18]; exact Sb18_18.out.2)
  have HBwb18_18 := Lib.hid (HBwb14_14.out.grown Gb18_18.out HBwb14_14.out.size (fun q hq => (Pb14_14.out.lt q hq).1))
  clear Sb18_18
  have ka_0_0__50 := cell_other ka_0_0__38 Gb18_18.out Dout_2_a_0.out
  have ka_0_1__51 := cell_other ka_0_1__39 Gb18_18.out Dout_2_a_0.out
  have ka_0_2__52 := cell_other ka_0_2__40 Gb18_18.out Dout_2_a_0.out
  have ka_0_3__53 := cell_other ka_0_3__41 Gb18_18.out Dout_2_a_0.out
  have kt_1_0__54 := cell_other kt_1_0__42 Gb18_18.out Dout_2_t_1.out
  have kt_1_1__55 := cell_other kt_1_1__43 Gb18_18.out Dout_2_t_1.out
  have kt_1_2__56 := cell_other kt_1_2__44 Gb18_18.out Dout_2_t_1.out
  have kt_1_3__57 := cell_other kt_1_3__45 Gb18_18.out Dout_2_t_1.out
  replace Ot_1 := Lib.hid (own_other Ot_1.out Gb18_18.out Dout_2_t_1.out)
  clear Pb14_14 Gb18_18
  have kout_2_0__58 : wb18_18.cell? ⟨w_t_1.heap.size, 0, none⟩ = some (.int .i64 a_a) := Pb18_18.out.cells rfl 0 _ rfl
  have kout_2_1__59 : wb18_18.cell? ⟨w_t_1.heap.size, 1, none⟩ = some (.int .i64 a_x) := Pb18_18.out.cells rfl 1 _ rfl
  have kout_2_2__60 : wb18_18.cell? ⟨w_t_1.heap.size, 2, none⟩ = some (.int .i64 a_b) := Pb18_18.out.cells rfl 2 _ rfl
  have kout_2_3__61 : wb18_18.cell? ⟨w_t_1.heap.size, 3, none⟩ = some (.int .i64 a_y) := Pb18_18.out.cells rfl 3 _ rfl
  obtain ⟨wb20_20, hwb20_20⟩ : ∃ x, ((((wb18_18).setCell ⟨w_a_0.heap.size, 0, none⟩ (.int .i64 a_a)).setCell ⟨w_a_0.heap.size, 1, none⟩ (.int .i64 a_x)).setCell ⟨w_a_0.heap.size, 2, none⟩ (.int .i64 a_b)).setCell ⟨w_a_0.heap.size, 3, none⟩ (.int .i64 a_y) = x := ⟨_, rfl⟩
  have z0b20_20 := Ot_1.out.frozenAt 0
  have z1b20_20 := Ot_1.out.frozenAt 1
  have z2b20_20 := Ot_1.out.frozenAt 2
  have z3b20_20 := Ot_1.out.frozenAt 3
  have Sb20_20 := Lib.hid (own_stores [(0, .int .i64 a_a), (1, .int .i64 a_x), (2, .int .i64 a_b), (3, .int .i64 a_y)] Ot_1.out)
  have Pb20_20 : Hid (wb20_20.ownsRow w.heap.size 57 4 (.slice (some ⟨w_a_0.heap.size, 0, none⟩) 1 1) 1 [.int .i64 a_a, .int .i64 a_x, .int .i64 a_b, .int .i64 a_y]) := Lib.hid (by rw [← hwb20_20]; exact Sb20_20.out.1)
  have Gb20_20 : Hid (wb18_18.grownBy wb20_20 (Value.slice (some ⟨w_a_0.heap.size, 0, none⟩) 1 1).ownBlock) := Lib.hid (by rw [← hwb20_20]; exact Sb20_20.out.2)
  have HBwb20_20 := Lib.hid (HBwb18_18.out.grown Gb20_20.out HBwb18_18.out.size (fun q hq => (Ot_1.out.lt q hq).1))
  clear Sb20_20
  have ka_0_0__62 := cell_other ka_0_0__50 Gb20_20.out Dt_1_a_0.out
  have ka_0_1__63 := cell_other ka_0_1__51 Gb20_20.out Dt_1_a_0.out
  have ka_0_2__64 := cell_other ka_0_2__52 Gb20_20.out Dt_1_a_0.out
  have ka_0_3__65 := cell_other ka_0_3__53 Gb20_20.out Dt_1_a_0.out
  have kout_2_0__66 := cell_other kout_2_0__58 Gb20_20.out (Apart.symm Dout_2_t_1.out)
  have kout_2_1__67 := cell_other kout_2_1__59 Gb20_20.out (Apart.symm Dout_2_t_1.out)
  have kout_2_2__68 := cell_other kout_2_2__60 Gb20_20.out (Apart.symm Dout_2_t_1.out)
  have kout_2_3__69 := cell_other kout_2_3__61 Gb20_20.out (Apart.symm Dout_2_t_1.out)
  replace Pb18_18 := Lib.hid (own_other Pb18_18.out Gb20_20.out (Apart.symm Dout_2_t_1.out))
  clear Ot_1 Gb20_20
  have kt_1_0__70 : wb20_20.cell? ⟨w_a_0.heap.size, 0, none⟩ = some (.int .i64 a_a) := Pb20_20.out.cells rfl 0 _ rfl
  have kt_1_1__71 : wb20_20.cell? ⟨w_a_0.heap.size, 1, none⟩ = some (.int .i64 a_x) := Pb20_20.out.cells rfl 1 _ rfl
  have kt_1_2__72 : wb20_20.cell? ⟨w_a_0.heap.size, 2, none⟩ = some (.int .i64 a_b) := Pb20_20.out.cells rfl 2 _ rfl
  have kt_1_3__73 : wb20_20.cell? ⟨w_a_0.heap.size, 3, none⟩ = some (.int .i64 a_y) := Pb20_20.out.cells rfl 3 _ rfl
  cases ret_hid H
  go_wp2_with fail
  (try simp only [Exit.inBlock, Exit.then])
  refine bodyPost_ret (v := .agg #[.int .i64 a_a, .int .i64 a_x, .int .i64 a_b, .int .i64 a_y]) ?hr_ ?hd_ ?_
  case hd_ => rfl
  case hr_ => simp [results, Try.results39, kt_1_0__70, kt_1_1__71, kt_1_2__72, kt_1_3__73, go_sem]
  exact ⟨rfl, HBwb20_20.out⟩
end Go.Proofs.Ytekacbjnpeglhaa.GlToBan
