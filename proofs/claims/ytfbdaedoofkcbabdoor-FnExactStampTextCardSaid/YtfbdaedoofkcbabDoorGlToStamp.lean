/- loop.example/g01062/laws.toStamp as a plain function, and the contract of the program's: where the plain one has an answer, the program has it. Conditions: slices read as lists. -/
import Derived.Test.YtfbdaedoofkcbabDoorChecked
import Derived.Test.YtfbdaedoofkcbabDoorGoM
import Derived.Test.YtfbdaedoofkcbabDoorGoRStamp
import Derived.WalkKit
import Derived.WalkSpells
import Derived.WalkLawsBesides
import Derived.BigQuiet
import Derived.OwnWalk
import Derived.Deep.LoopGhost
import Derived.Deep.QuietTactic
import Derived.IntWalk
import Derived.Lib.QuietBelow
namespace Go.Proofs.YtfbdaedoofkcbabDoor.GlToStamp
set_option linter.unusedVariables false
set_option linter.unusedSimpArgs false
open Go.RowKit
open Go.Proofs.YtfbdaedoofkcbabDoor.Rowed Go.Proofs.YtfbdaedoofkcbabDoor.Turn Go.Proofs.YtfbdaedoofkcbabDoor.Aid Go.Proofs.YtfbdaedoofkcbabDoor.GoP Go.Proofs.YtfbdaedoofkcbabDoor.GoM

def P (a : Go.Proofs.YtfbdaedoofkcbabDoor.PlainStamp.St) : Option (Go.Proofs.YtfbdaedoofkcbabDoor.PlainStamp.St) :=
  unStamp a fun (a_id : Int) (a_face : Int) (a_color : Int) (a_year : Int) =>
  some (Go.Proofs.YtfbdaedoofkcbabDoor.PlainStamp.St.mk a_id a_face a_color a_year)

set_option maxRecDepth 100000 in
set_option maxHeartbeats 2000000 in
theorem C (a : Go.Proofs.YtfbdaedoofkcbabDoor.PlainStamp.St)   (w : World)   {r : Go.Proofs.YtfbdaedoofkcbabDoor.PlainStamp.St} (H : Hid (P a = some r)) :
    Calls Tryd.prog 6 #[a.val] w (Gives ((Go.Proofs.YtfbdaedoofkcbabDoor.PlainStamp.St.val r)) w) := by
  have HB := Lib.hid (Below.refl w.heap.size w)
  unfold P at H
  obtain ⟨a_id, a_face, a_color, a_year⟩ := a
  replace H := unStamp_hid H
  unfold Go.Proofs.YtfbdaedoofkcbabDoor.PlainStamp.St.val
  go_enter Tryd.func6, Tryd.ntmps6
  obtain ⟨w_a_0, hw_a_0⟩ : ∃ x, w.alloc (.cells #[.int .i64 a_id, .int .i64 a_face, .int .i64 a_color, .int .i64 a_year] 23) = x := ⟨_, rfl⟩
  have bw_a_0 : Below w.heap.size w w_a_0 := by rw [← hw_a_0]; exact (Below.refl _ _).alloc (Nat.le_refl _) _
  have HBw_a_0 := Lib.hid (Below.step HB.out bw_a_0)
  clear bw_a_0
  have ka_0_0 : w_a_0.cell? ⟨w.heap.size, 0, none⟩ = some (.int .i64 a_id) := by rw [← hw_a_0]; exact box_new _ _ _ 0 _ rfl
  have ka_0_1 : w_a_0.cell? ⟨w.heap.size, 1, none⟩ = some (.int .i64 a_face) := by rw [← hw_a_0]; exact box_new _ _ _ 1 _ rfl
  have ka_0_2 : w_a_0.cell? ⟨w.heap.size, 2, none⟩ = some (.int .i64 a_color) := by rw [← hw_a_0]; exact box_new _ _ _ 2 _ rfl
  have ka_0_3 : w_a_0.cell? ⟨w.heap.size, 3, none⟩ = some (.int .i64 a_year) := by rw [← hw_a_0]; exact box_new _ _ _ 3 _ rfl
  obtain ⟨w_t_1, hw_t_1⟩ : ∃ x, w_a_0.alloc (.cells #[.int .i64 0, .int .i64 0, .int .i64 0, .int .i64 0] 26) = x := ⟨_, rfl⟩
  have bw_t_1 : Below w_a_0.heap.size w_a_0 w_t_1 := by rw [← hw_t_1]; exact (Below.refl _ _).alloc (Nat.le_refl _) _
  have Dt_1_a_0 := Lib.hid (apart_box ka_0_0)
  have HBw_t_1 := Lib.hid (Below.step HBw_a_0.out bw_t_1)
  have ka_0_0__106 := cell_below bw_t_1 ka_0_0
  have ka_0_1__107 := cell_below bw_t_1 ka_0_1
  have ka_0_2__108 := cell_below bw_t_1 ka_0_2
  have ka_0_3__109 := cell_below bw_t_1 ka_0_3
  clear bw_t_1
  have kt_1_0 : w_t_1.cell? ⟨w_a_0.heap.size, 0, none⟩ = some (.int .i64 0) := by rw [← hw_t_1]; exact box_new _ _ _ 0 _ rfl
  have kt_1_1 : w_t_1.cell? ⟨w_a_0.heap.size, 1, none⟩ = some (.int .i64 0) := by rw [← hw_t_1]; exact box_new _ _ _ 1 _ rfl
  have kt_1_2 : w_t_1.cell? ⟨w_a_0.heap.size, 2, none⟩ = some (.int .i64 0) := by rw [← hw_t_1]; exact box_new _ _ _ 2 _ rfl
  have kt_1_3 : w_t_1.cell? ⟨w_a_0.heap.size, 3, none⟩ = some (.int .i64 0) := by rw [← hw_t_1]; exact box_new _ _ _ 3 _ rfl
  have Ot_1 : Hid (w_t_1.ownsRow w.heap.size 26 4 (.slice (some ⟨w_a_0.heap.size, 0, none⟩) 1 1) 1 [.int .i64 0, .int .i64 0, .int .i64 0, .int .i64 0]) := Lib.hid (by rw [← hw_t_1]; exact own_laid (n := 1) HBw_a_0.out.size rfl rfl (by unfold maxLen; omega))
  obtain ⟨w_out_2, hw_out_2⟩ : ∃ x, w_t_1.alloc (.cells #[.int .i64 0, .int .i64 0, .int .i64 0, .int .i64 0] 26) = x := ⟨_, rfl⟩
  have bw_out_2 : Below w_t_1.heap.size w_t_1 w_out_2 := by rw [← hw_out_2]; exact (Below.refl _ _).alloc (Nat.le_refl _) _
  have Dout_2_a_0 := Lib.hid (apart_box ka_0_0__106)
  have Dout_2_t_1 := Lib.hid (apart_box kt_1_0)
  have HBw_out_2 := Lib.hid (Below.step HBw_t_1.out bw_out_2)
  have ka_0_0__110 := cell_below bw_out_2 ka_0_0__106
  have ka_0_1__111 := cell_below bw_out_2 ka_0_1__107
  have ka_0_2__112 := cell_below bw_out_2 ka_0_2__108
  have ka_0_3__113 := cell_below bw_out_2 ka_0_3__109
  have kt_1_0__114 := cell_below bw_out_2 kt_1_0
  have kt_1_1__115 := cell_below bw_out_2 kt_1_1
  have kt_1_2__116 := cell_below bw_out_2 kt_1_2
  have kt_1_3__117 := cell_below bw_out_2 kt_1_3
  replace Ot_1 := Lib.hid (own_below Ot_1.out bw_out_2)
  clear bw_out_2
  have kout_2_0 : w_out_2.cell? ⟨w_t_1.heap.size, 0, none⟩ = some (.int .i64 0) := by rw [← hw_out_2]; exact box_new _ _ _ 0 _ rfl
  have kout_2_1 : w_out_2.cell? ⟨w_t_1.heap.size, 1, none⟩ = some (.int .i64 0) := by rw [← hw_out_2]; exact box_new _ _ _ 1 _ rfl
  have kout_2_2 : w_out_2.cell? ⟨w_t_1.heap.size, 2, none⟩ = some (.int .i64 0) := by rw [← hw_out_2]; exact box_new _ _ _ 2 _ rfl
  have kout_2_3 : w_out_2.cell? ⟨w_t_1.heap.size, 3, none⟩ = some (.int .i64 0) := by rw [← hw_out_2]; exact box_new _ _ _ 3 _ rfl
  have Oout_2 : Hid (w_out_2.ownsRow w.heap.size 26 4 (.slice (some ⟨w_t_1.heap.size, 0, none⟩) 1 1) 1 [.int .i64 0, .int .i64 0, .int .i64 0, .int .i64 0]) := Lib.hid (by rw [← hw_out_2]; exact own_laid (n := 1) HBw_t_1.out.size rfl rfl (by unfold maxLen; omega))
  obtain ⟨wb6_6, hwb6_6⟩ : ∃ x, (w_out_2).setCell ⟨w_t_1.heap.size, 0, none⟩ (.int .i64 a_id) = x := ⟨_, rfl⟩
  have z0b6_6 := Oout_2.out.frozenAt 0
  have Sb6_6 := Lib.hid (own_stores [(0, .int .i64 a_id)] Oout_2.out)
  have Pb6_6 : Hid (wb6_6.ownsRow w.heap.size 26 4 (.slice (some ⟨w_t_1.heap.size, 0, none⟩) 1 1) 1 [.int .i64 a_id, .int .i64 0, .int .i64 0, .int .i64 0]) := Lib.hid (by rw [← hwb6_6]; exact Sb6_6.out.1)
  have Gb6_6 : Hid (w_out_2.grownBy wb6_6 (Value.slice (some ⟨w_t_1.heap.size, 0, none⟩) 1 1).ownBlock) := Lib.hid (by rw [← hwb6_6]; exact Sb6_6.out.2)
  have HBwb6_6 := Lib.hid (HBw_out_2.out.grown Gb6_6.out HBw_out_2.out.size (fun q hq => (Oout_2.out.lt q hq).1))
  clear Sb6_6
  have ka_0_0__118 := cell_other ka_0_0__110 Gb6_6.out Dout_2_a_0.out
  have ka_0_1__119 := cell_other ka_0_1__111 Gb6_6.out Dout_2_a_0.out
  have ka_0_2__120 := cell_other ka_0_2__112 Gb6_6.out Dout_2_a_0.out
  have ka_0_3__121 := cell_other ka_0_3__113 Gb6_6.out Dout_2_a_0.out
  have kt_1_0__122 := cell_other kt_1_0__114 Gb6_6.out Dout_2_t_1.out
  have kt_1_1__123 := cell_other kt_1_1__115 Gb6_6.out Dout_2_t_1.out
  have kt_1_2__124 := cell_other kt_1_2__116 Gb6_6.out Dout_2_t_1.out
  have kt_1_3__125 := cell_other kt_1_3__117 Gb6_6.out Dout_2_t_1.out
  replace Ot_1 := Lib.hid (own_other Ot_1.out Gb6_6.out Dout_2_t_1.out)
  clear Oout_2 Gb6_6
  have kout_2_0__126 : wb6_6.cell? ⟨w_t_1.heap.size, 0, none⟩ = some (.int .i64 a_id) := Pb6_6.out.cells rfl 0 _ rfl
  have kout_2_1__127 : wb6_6.cell? ⟨w_t_1.heap.size, 1, none⟩ = some (.int .i64 0) := Pb6_6.out.cells rfl 1 _ rfl
  have kout_2_2__128 : wb6_6.cell? ⟨w_t_1.heap.size, 2, none⟩ = some (.int .i64 0) := Pb6_6.out.cells rfl 2 _ rfl
  have kout_2_3__129 : wb6_6.cell? ⟨w_t_1.heap.size, 3, none⟩ = some (.int .i64 0) := Pb6_6.out.cells rfl 3 _ rfl
  obtain ⟨wb10_10, hwb10_10⟩ : ∃ x, (wb6_6).setCell ⟨w_t_1.heap.size, 1, none⟩ (.int .i64 a_face) = x := ⟨_, rfl⟩
  have z0b10_10 := Pb6_6.out.frozenAt 1
  have Sb10_10 := Lib.hid (own_stores [(1, .int .i64 a_face)] Pb6_6.out)
  have Pb10_10 : Hid (wb10_10.ownsRow w.heap.size 26 4 (.slice (some ⟨w_t_1.heap.size, 0, none⟩) 1 1) 1 [.int .i64 a_id, .int .i64 a_face, .int .i64 0, .int .i64 0]) := Lib.hid (by rw [← hwb10_10]; exact Sb10_10.out.1)
  have Gb10_10 : Hid (wb6_6.grownBy wb10_10 (Value.slice (some ⟨w_t_1.heap.size, 0, none⟩) 1 1).ownBlock) := Lib.hid (by rw [← hwb10_10]; exact Sb10_10.out.2)
  have HBwb10_10 := Lib.hid (HBwb6_6.out.grown Gb10_10.out HBwb6_6.out.size (fun q hq => (Pb6_6.out.lt q hq).1))
  clear Sb10_10
  have ka_0_0__130 := cell_other ka_0_0__118 Gb10_10.out Dout_2_a_0.out
  have ka_0_1__131 := cell_other ka_0_1__119 Gb10_10.out Dout_2_a_0.out
  have ka_0_2__132 := cell_other ka_0_2__120 Gb10_10.out Dout_2_a_0.out
  have ka_0_3__133 := cell_other ka_0_3__121 Gb10_10.out Dout_2_a_0.out
  have kt_1_0__134 := cell_other kt_1_0__122 Gb10_10.out Dout_2_t_1.out
  have kt_1_1__135 := cell_other kt_1_1__123 Gb10_10.out Dout_2_t_1.out
  have kt_1_2__136 := cell_other kt_1_2__124 Gb10_10.out Dout_2_t_1.out
  have kt_1_3__137 := cell_other kt_1_3__125 Gb10_10.out Dout_2_t_1.out
  replace Ot_1 := Lib.hid (own_other Ot_1.out Gb10_10.out Dout_2_t_1.out)
  clear Pb6_6 Gb10_10
  have kout_2_0__138 : wb10_10.cell? ⟨w_t_1.heap.size, 0, none⟩ = some (.int .i64 a_id) := Pb10_10.out.cells rfl 0 _ rfl
  have kout_2_1__139 : wb10_10.cell? ⟨w_t_1.heap.size, 1, none⟩ = some (.int .i64 a_face) := Pb10_10.out.cells rfl 1 _ rfl
  have kout_2_2__140 : wb10_10.cell? ⟨w_t_1.heap.size, 2, none⟩ = some (.int .i64 0) := Pb10_10.out.cells rfl 2 _ rfl
  have kout_2_3__141 : wb10_10.cell? ⟨w_t_1.heap.size, 3, none⟩ = some (.int .i64 0) := Pb10_10.out.cells rfl 3 _ rfl
  obtain ⟨wb14_14, hwb14_14⟩ : ∃ x, (wb10_10).setCell ⟨w_t_1.heap.size, 2, none⟩ (.int .i64 a_color) = x := ⟨_, rfl⟩
  have z0b14_14 := Pb10_10.out.frozenAt 2
  have Sb14_14 := Lib.hid (own_stores [(2, .int .i64 a_color)] Pb10_10.out)
  have Pb14_14 : Hid (wb14_14.ownsRow w.heap.size 26 4 (.slice (some ⟨w_t_1.heap.size, 0, none⟩) 1 1) 1 [.int .i64 a_id, .int .i64 a_face, .int .i64 a_color, .int .i64 0]) := Lib.hid (by rw [← hwb14_14]; exact Sb14_14.out.1)
  have Gb14_14 : Hid (wb10_10.grownBy wb14_14 (Value.slice (some ⟨w_t_1.heap.size, 0, none⟩) 1 1).ownBlock) := Lib.hid (by rw [← hwb14_14]; exact Sb14_14.out.2)
  have HBwb14_14 := Lib.hid (HBwb10_10.out.grown Gb14_14.out HBwb10_10.out.size (fun q hq => (Pb10_10.out.lt q hq).1))
  clear Sb14_14
  have ka_0_0__142 := cell_other ka_0_0__130 Gb14_14.out Dout_2_a_0.out
  have ka_0_1__143 := cell_other ka_0_1__131 Gb14_14.out Dout_2_a_0.out
  have ka_0_2__144 := cell_other ka_0_2__132 Gb14_14.out Dout_2_a_0.out
  have ka_0_3__145 := cell_other ka_0_3__133 Gb14_14.out Dout_2_a_0.out
  have kt_1_0__146 := cell_other kt_1_0__134 Gb14_14.out Dout_2_t_1.out
  have kt_1_1__147 := cell_other kt_1_1__135 Gb14_14.out Dout_2_t_1.out
  have kt_1_2__148 := cell_other kt_1_2__136 Gb14_14.out Dout_2_t_1.out
  have kt_1_3__149 := cell_other kt_1_3__137 Gb14_14.out Dout_2_t_1.out
  replace Ot_1 := Lib.hid (own_other Ot_1.out Gb14_14.out Dout_2_t_1.out)
  clear Pb10_10 Gb14_14
  have kout_2_0__150 : wb14_14.cell? ⟨w_t_1.heap.size, 0, none⟩ = some (.int .i64 a_id) := Pb14_14.out.cells rfl 0 _ rfl
  have kout_2_1__151 : wb14_14.cell? ⟨w_t_1.heap.size, 1, none⟩ = some (.int .i64 a_face) := Pb14_14.out.cells rfl 1 _ rfl
  have kout_2_2__152 : wb14_14.cell? ⟨w_t_1.heap.size, 2, none⟩ = some (.int .i64 a_color) := Pb14_14.out.cells rfl 2 _ rfl
  have kout_2_3__153 : wb14_14.cell? ⟨w_t_1.heap.size, 3, none⟩ = some (.int .i64 0) := Pb14_14.out.cells rfl 3 _ rfl
  obtain ⟨wb18_18, hwb18_18⟩ : ∃ x, (wb14_14).setCell ⟨w_t_1.heap.size, 3, none⟩ (.int .i64 a_year) = x := ⟨_, rfl⟩
  have z0b18_18 := Pb14_14.out.frozenAt 3
  have Sb18_18 := Lib.hid (own_stores [(3, .int .i64 a_year)] Pb14_14.out)
  have Pb18_18 : Hid (wb18_18.ownsRow w.heap.size 26 4 (.slice (some ⟨w_t_1.heap.size, 0, none⟩) 1 1) 1 [.int .i64 a_id, .int .i64 a_face, .int .i64 a_color, .int .i64 a_year]) := Lib.hid (by rw [← hwb18_18]; exact Sb18_18.out.1)
  have Gb18_18 : Hid (wb14_14.grownBy wb18_18 (Value.slice (some ⟨w_t_1.heap.size, 0, none⟩) 1 1).ownBlock) := Lib.hid (by rw [← hwb18_18]; exact Sb18_18.out.2)
  have HBwb18_18 := Lib.hid (HBwb14_14.out.grown Gb18_18.out HBwb14_14.out.size (fun q hq => (Pb14_14.out.lt q hq).1))
  clear Sb18_18
  have ka_0_0__154 := cell_other ka_0_0__142 Gb18_18.out Dout_2_a_0.out
  have ka_0_1__155 := cell_other ka_0_1__143 Gb18_18.out Dout_2_a_0.out
  have ka_0_2__156 := cell_other ka_0_2__144 Gb18_18.out Dout_2_a_0.out
  have ka_0_3__157 := cell_other ka_0_3__145 Gb18_18.out Dout_2_a_0.out
  have kt_1_0__158 := cell_other kt_1_0__146 Gb18_18.out Dout_2_t_1.out
  have kt_1_1__159 := cell_other kt_1_1__147 Gb18_18.out Dout_2_t_1.out
  have kt_1_2__160 := cell_other kt_1_2__148 Gb18_18.out Dout_2_t_1.out
  have kt_1_3__161 := cell_other kt_1_3__149 Gb18_18.out Dout_2_t_1.out
  replace Ot_1 := Lib.hid (own_other Ot_1.out Gb18_18.out Dout_2_t_1.out)
  clear Pb14_14 Gb18_18
  have kout_2_0__162 : wb18_18.cell? ⟨w_t_1.heap.size, 0, none⟩ = some (.int .i64 a_id) := Pb18_18.out.cells rfl 0 _ rfl
  have kout_2_1__163 : wb18_18.cell? ⟨w_t_1.heap.size, 1, none⟩ = some (.int .i64 a_face) := Pb18_18.out.cells rfl 1 _ rfl
  have kout_2_2__164 : wb18_18.cell? ⟨w_t_1.heap.size, 2, none⟩ = some (.int .i64 a_color) := Pb18_18.out.cells rfl 2 _ rfl
  have kout_2_3__165 : wb18_18.cell? ⟨w_t_1.heap.size, 3, none⟩ = some (.int .i64 a_year) := Pb18_18.out.cells rfl 3 _ rfl
  obtain ⟨wb20_20, hwb20_20⟩ : ∃ x, ((((wb18_18).setCell ⟨w_a_0.heap.size, 0, none⟩ (.int .i64 a_id)).setCell ⟨w_a_0.heap.size, 1, none⟩ (.int .i64 a_face)).setCell ⟨w_a_0.heap.size, 2, none⟩ (.int .i64 a_color)).setCell ⟨w_a_0.heap.size, 3, none⟩ (.int .i64 a_year) = x := ⟨_, rfl⟩
  have z0b20_20 := Ot_1.out.frozenAt 0
  have z1b20_20 := Ot_1.out.frozenAt 1
  have z2b20_20 := Ot_1.out.frozenAt 2
  have z3b20_20 := Ot_1.out.frozenAt 3
  have Sb20_20 := Lib.hid (own_stores [(0, .int .i64 a_id), (1, .int .i64 a_face), (2, .int .i64 a_color), (3, .int .i64 a_year)] Ot_1.out)
  have Pb20_20 : Hid (wb20_20.ownsRow w.heap.size 26 4 (.slice (some ⟨w_a_0.heap.size, 0, none⟩) 1 1) 1 [.int .i64 a_id, .int .i64 a_face, .int .i64 a_color, .int .i64 a_year]) := Lib.hid (by rw [← hwb20_20]; exact Sb20_20.out.1)
  have Gb20_20 : Hid (wb18_18.grownBy wb20_20 (Value.slice (some ⟨w_a_0.heap.size, 0, none⟩) 1 1).ownBlock) := Lib.hid (by rw [← hwb20_20]; exact Sb20_20.out.2)
  have HBwb20_20 := Lib.hid (HBwb18_18.out.grown Gb20_20.out HBwb18_18.out.size (fun q hq => (Ot_1.out.lt q hq).1))
  clear Sb20_20
  have ka_0_0__166 := cell_other ka_0_0__154 Gb20_20.out Dt_1_a_0.out
  have ka_0_1__167 := cell_other ka_0_1__155 Gb20_20.out Dt_1_a_0.out
  have ka_0_2__168 := cell_other ka_0_2__156 Gb20_20.out Dt_1_a_0.out
  have ka_0_3__169 := cell_other ka_0_3__157 Gb20_20.out Dt_1_a_0.out
  have kout_2_0__170 := cell_other kout_2_0__162 Gb20_20.out (Apart.symm Dout_2_t_1.out)
  have kout_2_1__171 := cell_other kout_2_1__163 Gb20_20.out (Apart.symm Dout_2_t_1.out)
  have kout_2_2__172 := cell_other kout_2_2__164 Gb20_20.out (Apart.symm Dout_2_t_1.out)
  have kout_2_3__173 := cell_other kout_2_3__165 Gb20_20.out (Apart.symm Dout_2_t_1.out)
  replace Pb18_18 := Lib.hid (own_other Pb18_18.out Gb20_20.out (Apart.symm Dout_2_t_1.out))
  clear Ot_1 Gb20_20
  have kt_1_0__174 : wb20_20.cell? ⟨w_a_0.heap.size, 0, none⟩ = some (.int .i64 a_id) := Pb20_20.out.cells rfl 0 _ rfl
  have kt_1_1__175 : wb20_20.cell? ⟨w_a_0.heap.size, 1, none⟩ = some (.int .i64 a_face) := Pb20_20.out.cells rfl 1 _ rfl
  have kt_1_2__176 : wb20_20.cell? ⟨w_a_0.heap.size, 2, none⟩ = some (.int .i64 a_color) := Pb20_20.out.cells rfl 2 _ rfl
  have kt_1_3__177 : wb20_20.cell? ⟨w_a_0.heap.size, 3, none⟩ = some (.int .i64 a_year) := Pb20_20.out.cells rfl 3 _ rfl
  cases ret_hid H
  go_wp2_with fail
  (try simp only [Exit.inBlock, Exit.then])
  refine bodyPost_ret (v := .agg #[.int .i64 a_id, .int .i64 a_face, .int .i64 a_color, .int .i64 a_year]) ?hr_ ?hd_ ?_
  case hd_ => rfl
  case hr_ => simp [results, Tryd.results6, kt_1_0__174, kt_1_1__175, kt_1_2__176, kt_1_3__177, go_sem]
  exact ⟨rfl, HBwb20_20.out⟩
end Go.Proofs.YtfbdaedoofkcbabDoor.GlToStamp
