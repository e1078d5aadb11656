/- loop.example/g01062/laws.toPaper as a plain function, and the contract of the program's: where the plain one has an answer, the program has it. Conditions: slices read as lists. -/
import Derived.Test.YtdgbigkcophjoaaChecked
import Derived.Test.YtdgbigkcophjoaaGoM
import Derived.Test.YtdgbigkcophjoaaGoRPaper
import Derived.WalkKit
import Derived.WalkSpells
import Derived.WalkLawsBesides
import Derived.BigQuiet
import Derived.OwnWalk
import Derived.Deep.LoopGhost
import Derived.Deep.QuietTactic
import Derived.IntWalk
import Derived.Lib.QuietBelow
namespace Go.Proofs.Ytdgbigkcophjoaa.GlToPaper
set_option linter.unusedVariables false
set_option linter.unusedSimpArgs false
open Go.RowKit
open Go.Proofs.Ytdgbigkcophjoaa.Rowed Go.Proofs.Ytdgbigkcophjoaa.Turn Go.Proofs.Ytdgbigkcophjoaa.Aid Go.Proofs.Ytdgbigkcophjoaa.GoP Go.Proofs.Ytdgbigkcophjoaa.GoM

def P (a : Go.Proofs.Ytdgbigkcophjoaa.PPaper.Paper) : Option (Go.Proofs.Ytdgbigkcophjoaa.PPaper.Paper) :=
  unPaper a fun (a_id : Int) (a_thick : Int) (a_tint : Int) (a_mark : ByteArray) (a_laid : Bool) =>
  some (Go.Proofs.Ytdgbigkcophjoaa.PPaper.Paper.mk a_id a_thick a_tint a_mark a_laid)

set_option maxRecDepth 100000 in
set_option maxHeartbeats 2000000 in
theorem C (a : Go.Proofs.Ytdgbigkcophjoaa.PPaper.Paper)   (w : World)   {r : Go.Proofs.Ytdgbigkcophjoaa.PPaper.Paper} (H : Hid (P a = some r)) :
    Calls Try.prog 78 #[a.val] w (Gives ((Go.Proofs.Ytdgbigkcophjoaa.PPaper.Paper.val r)) w) := by
  have HB := Lib.hid (Below.refl w.heap.size w)
  unfold P at H
  obtain ⟨a_id, a_thick, a_tint, a_mark, a_laid⟩ := a
  replace H := unPaper_hid H
  unfold Go.Proofs.Ytdgbigkcophjoaa.PPaper.Paper.val
  go_enter Try.func78, Try.ntmps78
  obtain ⟨w_a_0, hw_a_0⟩ : ∃ x, w.alloc (.cells #[.int .i64 a_id, .int .i64 a_thick, .int .i64 a_tint, .string a_mark, .bool a_laid] 89) = x := ⟨_, rfl⟩
  have bw_a_0 : Below w.heap.size w w_a_0 := by rw [← hw_a_0]; exact (Below.refl _ _).alloc (Nat.le_refl _) _
  have HBw_a_0 := Lib.hid (Below.step HB.out bw_a_0)
  clear bw_a_0
  have ka_0_0 : w_a_0.cell? ⟨w.heap.size, 0, none⟩ = some (.int .i64 a_id) := by rw [← hw_a_0]; exact box_new _ _ _ 0 _ rfl
  have ka_0_1 : w_a_0.cell? ⟨w.heap.size, 1, none⟩ = some (.int .i64 a_thick) := by rw [← hw_a_0]; exact box_new _ _ _ 1 _ rfl
  have ka_0_2 : w_a_0.cell? ⟨w.heap.size, 2, none⟩ = some (.int .i64 a_tint) := by rw [← hw_a_0]; exact box_new _ _ _ 2 _ rfl
  have ka_0_3 : w_a_0.cell? ⟨w.heap.size, 3, none⟩ = some (.string a_mark) := by rw [← hw_a_0]; exact box_new _ _ _ 3 _ rfl
  have ka_0_4 : w_a_0.cell? ⟨w.heap.size, 4, none⟩ = some (.bool a_laid) := by rw [← hw_a_0]; exact box_new _ _ _ 4 _ rfl
  obtain ⟨w_t_1, hw_t_1⟩ : ∃ x, w_a_0.alloc (.cells #[.int .i64 0, .int .i64 0, .int .i64 0, .string (⟨#[]⟩ : ByteArray), .bool false] 90) = x := ⟨_, rfl⟩
  have bw_t_1 : Below w_a_0.heap.size w_a_0 w_t_1 := by rw [← hw_t_1]; exact (Below.refl _ _).alloc (Nat.le_refl _) _
  have Dt_1_a_0 := Lib.hid (apart_box ka_0_0)
  have HBw_t_1 := Lib.hid (Below.step HBw_a_0.out bw_t_1)
  have ka_0_0__176 := cell_below bw_t_1 ka_0_0
  have ka_0_1__177 := cell_below bw_t_1 ka_0_1
  have ka_0_2__178 := cell_below bw_t_1 ka_0_2
  have ka_0_3__179 := cell_below bw_t_1 ka_0_3
  have ka_0_4__180 := cell_below bw_t_1 ka_0_4
  clear bw_t_1
  have kt_1_0 : w_t_1.cell? ⟨w_a_0.heap.size, 0, none⟩ = some (.int .i64 0) := by rw [← hw_t_1]; exact box_new _ _ _ 0 _ rfl
  have kt_1_1 : w_t_1.cell? ⟨w_a_0.heap.size, 1, none⟩ = some (.int .i64 0) := by rw [← hw_t_1]; exact box_new _ _ _ 1 _ rfl
  have kt_1_2 : w_t_1.cell? ⟨w_a_0.heap.size, 2, none⟩ = some (.int .i64 0) := by rw [← hw_t_1]; exact box_new _ _ _ 2 _ rfl
  have kt_1_3 : w_t_1.cell? ⟨w_a_0.heap.size, 3, none⟩ = some (.string (⟨#[]⟩ : ByteArray)) := by rw [← hw_t_1]; exact box_new _ _ _ 3 _ rfl
  have kt_1_4 : w_t_1.cell? ⟨w_a_0.heap.size, 4, none⟩ = some (.bool false) := by rw [← hw_t_1]; exact box_new _ _ _ 4 _ rfl
  have Ot_1 : Hid (w_t_1.ownsRow w.heap.size 90 5 (.slice (some ⟨w_a_0.heap.size, 0, none⟩) 1 1) 1 [.int .i64 0, .int .i64 0, .int .i64 0, .string (⟨#[]⟩ : ByteArray), .bool false]) := Lib.hid (by rw [← hw_t_1]; exact own_laid (n := 1) HBw_a_0.out.size rfl rfl (by unfold maxLen; omega))
  obtain ⟨w_out_2, hw_out_2⟩ : ∃ x, w_t_1.alloc (.cells #[.int .i64 0, .int .i64 0, .int .i64 0, .string (⟨#[]⟩ : ByteArray), .bool false] 90) = x := ⟨_, rfl⟩
  have bw_out_2 : Below w_t_1.heap.size w_t_1 w_out_2 := by rw [← hw_out_2]; exact (Below.refl _ _).alloc (Nat.le_refl _) _
  have Dout_2_a_0 := Lib.hid (apart_box ka_0_0__176)
  have Dout_2_t_1 := Lib.hid (apart_box kt_1_0)
  have HBw_out_2 := Lib.hid (Below.step HBw_t_1.out bw_out_2)
  have ka_0_0__181 := cell_below bw_out_2 ka_0_0__176
  have ka_0_1__182 := cell_below bw_out_2 ka_0_1__177
  have ka_0_2__183 := cell_below bw_out_2 ka_0_2__178
  have ka_0_3__184 := cell_below bw_out_2 ka_0_3__179
  have ka_0_4__185 := cell_below bw_out_2 ka_0_4__180
  have kt_1_0__186 := cell_below bw_out_2 kt_1_0
  have kt_1_1__187 := cell_below bw_out_2 kt_1_1
  have kt_1_2__188 := cell_below bw_out_2 kt_1_2
  have kt_1_3__189 := cell_below bw_out_2 kt_1_3
  have kt_1_4__190 := cell_below bw_out_2 kt_1_4
  replace Ot_1 := Lib.hid (own_below Ot_1.out bw_out_2)
  clear bw_out_2
  have kout_2_0 : w_out_2.cell? ⟨w_t_1.heap.size, 0, none⟩ = some (.int .i64 0) := by rw [← hw_out_2]; exact box_new _ _ _ 0 _ rfl
  have kout_2_1 : w_out_2.cell? ⟨w_t_1.heap.size, 1, none⟩ = some (.int .i64 0) := by rw [← hw_out_2]; exact box_new _ _ _ 1 _ rfl
  have kout_2_2 : w_out_2.cell? ⟨w_t_1.heap.size, 2, none⟩ = some (.int .i64 0) := by rw [← hw_out_2]; exact box_new _ _ _ 2 _ rfl
  have kout_2_3 : w_out_2.cell? ⟨w_t_1.heap.size, 3, none⟩ = some (.string (⟨#[]⟩ : ByteArray)) := by rw [← hw_out_2]; exact box_new _ _ _ 3 _ rfl
  have kout_2_4 : w_out_2.cell? ⟨w_t_1.heap.size, 4, none⟩ = some (.bool false) := by rw [← hw_out_2]; exact box_new _ _ _ 4 _ rfl
  have Oout_2 : Hid (w_out_2.ownsRow w.heap.size 90 5 (.slice (some ⟨w_t_1.heap.size, 0, none⟩) 1 1) 1 [.int .i64 0, .int .i64 0, .int .i64 0, .string (⟨#[]⟩ : ByteArray), .bool false]) := Lib.hid (by rw [← hw_out_2]; exact own_laid (n := 1) HBw_t_1.out.size rfl rfl (by unfold maxLen; omega))
  obtain ⟨wb6_6, hwb6_6⟩ : ∃ x, (w_out_2).setCell ⟨w_t_1.heap.size, 0, none⟩ (.int .i64 a_id) = x := ⟨_, rfl⟩
  have z0b6_6 := Oout_2.out.frozenAt 0
  have Sb6_6 := Lib.hid (own_stores [(0, .int .i64 a_id)] Oout_2.out)
  have Pb6_6 : Hid (wb6_6.ownsRow w.heap.size 90 5 (.slice (some ⟨w_t_1.heap.size, 0, none⟩) 1 1) 1 [.int .i64 a_id, .int .i64 0, .int .i64 0, .string (⟨#[]⟩ : ByteArray), .bool false]) := Lib.hid (by rw [← hwb6_6]; exact Sb6_6.out.1)
  have Gb6_6 : Hid (w_out_2.grownBy wb6_6 (Value.slice (some ⟨w_t_1.heap.size, 0, none⟩) 1 1).ownBlock) := Lib.hid (by rw [← hwb6_6]; exact Sb6_6.out.2)
  have HBwb6_6 := Lib.hid (HBw_out_2.out.grown Gb6_6.out HBw_out_2.out.size (fun q hq => (Oout_2.out.lt q hq).1))
  clear Sb6_6
  have ka_0_0__191 := cell_other ka_0_0__181 Gb6_6.out Dout_2_a_0.out
  have ka_0_1__192 := cell_other ka_0_1__182 Gb6_6.out Dout_2_a_0.out
  have ka_0_2__193 := cell_other ka_0_2__183 Gb6_6.out Dout_2_a_0.out
  have ka_0_3__194 := cell_other ka_0_3__184 Gb6_6.out Dout_2_a_0.out
  have ka_0_4__195 := cell_other ka_0_4__185 Gb6_6.out Dout_2_a_0.out
  have kt_1_0__196 := cell_other kt_1_0__186 Gb6_6.out Dout_2_t_1.out
  have kt_1_1__197 := cell_other kt_1_1__187 Gb6_6.out Dout_2_t_1.out
  have kt_1_2__198 := cell_other kt_1_2__188 Gb6_6.out Dout_2_t_1.out
  have kt_1_3__199 := cell_other kt_1_3__189 Gb6_6.out Dout_2_t_1.out
  have kt_1_4__200 := cell_other kt_1_4__190 Gb6_6.out Dout_2_t_1.out
  replace Ot_1 := Lib.hid (own_other Ot_1.out Gb6_6.out Dout_2_t_1.out)
  clear Oout_2 Gb6_6
  have kout_2_0__201 : wb6_6.cell? ⟨w_t_1.heap.size, 0, none⟩ = some (.int .i64 a_id) := Pb6_6.out.cells rfl 0 _ rfl
  have kout_2_1__202 : wb6_6.cell? ⟨w_t_1.heap.size, 1, none⟩ = some (.int .i64 0) := Pb6_6.out.cells rfl 1 _ rfl
  have kout_2_2__203 : wb6_6.cell? ⟨w_t_1.heap.size, 2, none⟩ = some (.int .i64 0) := Pb6_6.out.cells rfl 2 _ rfl
  have kout_2_3__204 : wb6_6.cell? ⟨w_t_1.heap.size, 3, none⟩ = some (.string (⟨#[]⟩ : ByteArray)) := Pb6_6.out.cells rfl 3 _ rfl
  have kout_2_4__205 : wb6_6.cell? ⟨w_t_1.heap.size, 4, none⟩ = some (.bool false) := Pb6_6.out.cells rfl 4 _ rfl
  obtain ⟨wb10_10, hwb10_10⟩ : ∃ x, (wb6_6).setCell ⟨w_t_1.heap.size, 1, none⟩ (.int .i64 a_thick) = x := ⟨_, rfl⟩
  have z0b10_10 := Pb6_6.out.frozenAt 1
  have Sb10_10 := Lib.hid (own_stores [(1, .int .i64 a_thick)] Pb6_6.out)
  have Pb10_10 : Hid (wb10_10.ownsRow w.heap.size 90 5 (.slice (some ⟨w_t_1.heap.size, 0, none⟩) 1 1) 1 [.int .i64 a_id, .int .i64 a_thick, .int .i64 0, .string (⟨#[]⟩ : ByteArray), .bool false]) := Lib.hid (by rw [← hwb10_10]; exact Sb10_10.out.1)
  have Gb10_10 : Hid (wb6_6.grownBy wb10_10 (Value.slice (some ⟨w_t_1.heap.size, 0, none⟩) 1 1).ownBlock) := Lib.hid (by rw [← hwb10_10]; exact Sb10_10.out.2)
  have HBwb10_10 := Lib.hid (HBwb6_6.out.grown Gb10_10.out HBwb6_6.out.size (fun q hq => (Pb6_6.out.lt q hq).1))
  clear Sb10_10
  have ka_0_0__206 := cell_other ka_0_0__191 Gb10_10.out Dout_2_a_0.out
  have ka_0_1__207 := cell_other ka_0_1__192 Gb10_10.out Dout_2_a_0.out
  have ka_0_2__208 := cell_other ka_0_2__193 Gb10_10.out Dout_2_a_0.out
  have ka_0_3__209 := cell_other ka_0_3__194 Gb10_10.out Dout_2_a_0.out
  have ka_0_4__210 := cell_other ka_0_4__195 Gb10_10.out Dout_2_a_0.out
  have kt_1_0__211 := cell_other kt_1_0__196 Gb10_10.out Dout_2_t_1.out
  have kt_1_1__212 := cell_other kt_1_1__197 Gb10_10.out Dout_2_t_1.out
  have kt_1_2__213 := cell_other kt_1_2__198 Gb10_10.out Dout_2_t_1.out
  have kt_1_3__214 := cell_other kt_1_3__199 Gb10_10.out Dout_2_t_1.out
  have kt_1_4__215 := cell_other kt_1_4__200 Gb10_10.out Dout_2_t_1.out
  replace Ot_1 := Lib.hid (own_other Ot_1.out Gb10_10.out Dout_2_t_1.out)
  clear Pb6_6 Gb10_10
  have kout_2_0__216 : wb10_10.cell? ⟨w_t_1.heap.size, 0, none⟩ = some (.int .i64 a_id) := Pb10_10.out.cells rfl 0 _ rfl
  have kout_2_1__217 : wb10_10.cell? ⟨w_t_1.heap.size, 1, none⟩ = some (.int .i64 a_thick) := Pb10_10.out.cells rfl 1 _ rfl
  have kout_2_2__218 : wb10_10.cell? ⟨w_t_1.heap.size, 2, none⟩ = some (.int .i64 0) := Pb10_10.out.cells rfl 2 _ rfl
  have kout_2_3__219 : wb10_10.cell? ⟨w_t_1.heap.size, 3, none⟩ = some (.string (⟨#[]⟩ : ByteArray)) := Pb10_10.out.cells rfl 3 _ rfl
  have kout_2_4__220 : wb10_10.cell? ⟨w_t_1.heap.size, 4, none⟩ = some (.bool false) := Pb10_10.out.cells rfl 4 _ rfl
  obtain ⟨wb14_14, hwb14_14⟩ : ∃ x, (wb10_10).setCell ⟨w_t_1.heap.size, 2, none⟩ (.int .i64 a_tint) = x := ⟨_, rfl⟩
  have z0b14_14 := Pb10_10.out.frozenAt 2
  have Sb14_14 := Lib.hid (own_stores [(2, .int .i64 a_tint)] Pb10_10.out)
  have Pb14_14 : Hid (wb14_14.ownsRow w.heap.size 90 5 (.slice (some ⟨w_t_1.heap.size, 0, none⟩) 1 1) 1 [.int .i64 a_id, .int .i64 a_thick, .int .i64 a_tint, .string (⟨#[]⟩ : ByteArray), .bool false]) := Lib.hid (by rw [← hwb14_14]; exact Sb14_14.out.1)
  have Gb14_14 : Hid (wb10_10.grownBy wb14_14 (Value.slice (some ⟨w_t_1.heap.size, 0, none⟩) 1 1).ownBlock) := Lib.hid (by rw [← hwb14_14]; exact Sb14_14.out.2)
  have HBwb14_14 := Lib.hid (HBwb10_10.out.grown Gb14_14.out HBwb10_10.out.size (fun q hq => (Pb10_10.out.lt q hq).1))
  clear Sb14_14
  have ka_0_0__221 := cell_other ka_0_0__206 Gb14_14.out Dout_2_a_0.out
  have ka_0_1__222 := cell_other ka_0_1__207 Gb14_14.out Dout_2_a_0.out
  have ka_0_2__223 := cell_other ka_0_2__208 Gb14_14.out Dout_2_a_0.out
  have ka_0_3__224 := cell_other ka_0_3__209 Gb14_14.out Dout_2_a_0.out
  have ka_0_4__225 := cell_other ka_0_4__210 Gb14_14.out Dout_2_a_0.out
  have kt_1_0__226 := cell_other kt_1_0__211 Gb14_14.out Dout_2_t_1.out
  have kt_1_1__227 := cell_other kt_1_1__212 Gb14_14.out Dout_2_t_1.out
  have kt_1_2__228 := cell_other kt_1_2__213 Gb14_14.out Dout_2_t_1.out
  have kt_1_3__229 := cell_other kt_1_3__214 Gb14_14.out Dout_2_t_1.out
  have kt_1_4__230 := cell_other kt_1_4__215 Gb14_14.out Dout_2_t_1.out
  replace Ot_1 := Lib.hid (own_other Ot_1.out Gb14_14.out Dout_2_t_1.out)
  clear Pb10_10 Gb14_14
  have kout_2_0__231 : wb14_14.cell? ⟨w_t_1.heap.size, 0, none⟩ = some (.int .i64 a_id) := Pb14_14.out.cells rfl 0 _ rfl
  have kout_2_1__232 : wb14_14.cell? ⟨w_t_1.heap.size, 1, none⟩ = some (.int .i64 a_thick) := Pb14_14.out.cells rfl 1 _ rfl
  have kout_2_2__233 : wb14_14.cell? ⟨w_t_1.heap.size, 2, none⟩ = some (.int .i64 a_tint) := Pb14_14.out.cells rfl 2 _ rfl
  have kout_2_3__234 : wb14_14.cell? ⟨w_t_1.heap.size, 3, none⟩ = some (.string (⟨#[]⟩ : ByteArray)) := Pb14_14.out.cells rfl 3 _ rfl
  have kout_2_4__235 : wb14_14.cell? ⟨w_t_1.heap.size, 4, none⟩ = some (.bool false) := Pb14_14.out.cells rfl 4 _ rfl
  obtain ⟨wb18_18, hwb18_18⟩ : ∃ x, (wb14_14).setCell ⟨w_t_1.heap.size, 3, none⟩ (.string a_mark) = x := ⟨_, rfl⟩
  have z0b18_18 := Pb14_14.out.frozenAt 3
  have Sb18_18 := Lib.hid (own_stores [(3, .string a_mark)] Pb14_14.out)
  have Pb18_18 : Hid (wb18_18.ownsRow w.heap.size 90 5 (.slice (some ⟨w_t_1.heap.size, 0, none⟩) 1 1) 1 [.int .i64 a_id, .int .i64 a_thick, .int .i64 a_tint, .string a_mark, .bool false]) := Lib.hid (by rw [← hwb18_18]; exact Sb18_18.out.1)
  have Gb18_18 : Hid (wb14_14.grownBy wb18_18 (Value.slice (some ⟨w_t_1.heap.size, 0, none⟩) 1 1).ownBlock) := Lib.hid (by rw [← hwb18_18]; exact Sb18_18.out.2)
  have HBwb18_18 := Lib.hid (HBwb14_14.out.grown Gb18_18.out HBwb14_14.out.size (fun q hq => (Pb14_14.out.lt q hq).1))
  clear Sb18_18
  have ka_0_0__236 := cell_other ka_0_0__221 Gb18_18.out Dout_2_a_0.out
  have ka_0_1__237 := cell_other ka_0_1__222 Gb18_18.out Dout_2_a_0.out
  have ka_0_2__238 := cell_other ka_0_2__223 Gb18_18.out Dout_2_a_0.out
  have ka_0_3__239 := cell_other ka_0_3__224 Gb18_18.out Dout_2_a_0.out
  have ka_0_4__240 := cell_other ka_0_4__225 Gb18_18.out Dout_2_a_0.out
  have kt_1_0__241 := cell_other kt_1_0__226 Gb18_18.out Dout_2_t_1.out
  have kt_1_1__242 := cell_other kt_1_1__227 Gb18_18.out Dout_2_t_1.out
  have kt_1_2__243 := cell_other kt_1_2__228 Gb18_18.out Dout_2_t_1.out
  have kt_1_3__244 := cell_other kt_1_3__229 Gb18_18.out Dout_2_t_1.out
  have kt_1_4__245 := cell_other kt_1_4__230 Gb18_18.out Dout_2_t_1.out
  replace Ot_1 := Lib.hid (own_other Ot_1.out Gb18_18.out Dout_2_t_1.out)
  clear Pb14_14 Gb18_18
  have kout_2_0__246 : wb18_18.cell? ⟨w_t_1.heap.size, 0, none⟩ = some (.int .i64 a_id) := Pb18_18.out.cells rfl 0 _ rfl
  have kout_2_1__247 : wb18_18.cell? ⟨w_t_1.heap.size, 1, none⟩ = some (.int .i64 a_thick) := Pb18_18.out.cells rfl 1 _ rfl
  have kout_2_2__248 : wb18_18.cell? ⟨w_t_1.heap.size, 2, none⟩ = some (.int .i64 a_tint) := Pb18_18.out.cells rfl 2 _ rfl
  have kout_2_3__249 : wb18_18.cell? ⟨w_t_1.heap.size, 3, none⟩ = some (.string a_mark) := Pb18_18.out.cells rfl 3 _ rfl
  have kout_2_4__250 : wb18_18.cell? ⟨w_t_1.heap.size, 4, none⟩ = some (.bool false) := Pb18_18.out.cells rfl 4 _ rfl
  obtain ⟨wb22_22, hwb22_22⟩ : ∃ x, (wb18_18).setCell ⟨w_t_1.heap.size, 4, none⟩ (.bool a_laid) = x := ⟨_, rfl⟩
  have z0b22_22 := Pb18_18.out.frozenAt 4
  have Sb22_22 := Lib.hid (own_stores [(4, .bool a_laid)] Pb18_18.out)
  have Pb22_22 : Hid (wb22_22.ownsRow w.heap.size 90 5 (.slice (some ⟨w_t_1.heap.size, 0, none⟩) 1 1) 1 [.int .i64 a_id, .int .i64 a_thick, .int .i64 a_tint, .string a_mark, .bool a_laid]) := Lib.hid (by rw [← hwb22_22]; exact Sb22_22.out.1)
  have Gb22_22 : Hid (wb18_18.grownBy wb22_22 (Value.slice (some ⟨w_t_1.heap.size, 0, none⟩) 1 1).ownBlock) := Lib.hid (by rw [← hwb22_22]; exact Sb22_22.out.2)
  have HBwb22_22 := Lib.hid (HBwb18_18.out.grown Gb22_22.out HBwb18_18.out.size (fun q hq => (Pb18_18.out.lt q hq).1))
  clear Sb22_22
  have ka_0_0__251 := cell_other ka_0_0__236 Gb22_22.out Dout_2_a_0.out
  have ka_0_1__252 := cell_other ka_0_1__237 Gb22_22.out Dout_2_a_0.out
  have ka_0_2__253 := cell_other ka_0_2__238 Gb22_22.out Dout_2_a_0.out
  have ka_0_3__254 := cell_other ka_0_3__239 Gb22_22.out Dout_2_a_0.out
  have ka_0_4__255 := cell_other ka_0_4__240 Gb22_22.out Dout_2_a_0.out
  have kt_1_0__256 := cell_other kt_1_0__241 Gb22_22.out Dout_2_t_1.out
  have kt_1_1__257 := cell_other kt_1_1__242 Gb22_22.out Dout_2_t_1.out
  have kt_1_2__258 := cell_other kt_1_2__243 Gb22_22.out Dout_2_t_1.out
  have kt_1_3__259 := cell_other kt_1_3__244 Gb22_22.out Dout_2_t_1.out
  have kt_1_4__260 := cell_other kt_1_4__245 Gb22_22.out Dout_2_t_1.out
  replace Ot_1 := Lib.hid (own_other Ot_1.out Gb22_22.out Dout_2_t_1.out)
  clear Pb18_18 Gb22_22
  have kout_2_0__261 : wb22_22.cell? ⟨w_t_1.heap.size, 0, none⟩ = some (.int .i64 a_id) := Pb22_22.out.cells rfl 0 _ rfl
  have kout_2_1__262 : wb22_22.cell? ⟨w_t_1.heap.size, 1, none⟩ = some (.int .i64 a_thick) := Pb22_22.out.cells rfl 1 _ rfl
  have kout_2_2__263 : wb22_22.cell? ⟨w_t_1.heap.size, 2, none⟩ = some (.int .i64 a_tint) := Pb22_22.out.cells rfl 2 _ rfl
  have kout_2_3__264 : wb22_22.cell? ⟨w_t_1.heap.size, 3, none⟩ = some (.string a_mark) := Pb22_22.out.cells rfl 3 _ rfl
  have kout_2_4__265 : wb22_22.cell? ⟨w_t_1.heap.size, 4, none⟩ = some (.bool a_laid) := Pb22_22.out.cells rfl 4 _ rfl
  obtain ⟨wb24_24, hwb24_24⟩ : ∃ x, (((((wb22_22).setCell ⟨w_a_0.heap.size, 0, none⟩ (.int .i64 a_id)).setCell ⟨w_a_0.heap.size, 1, none⟩ (.int .i64 a_thick)).setCell ⟨w_a_0.heap.size, 2, none⟩ (.int .i64 a_tint)).setCell ⟨w_a_0.heap.size, 3, none⟩ (.string a_mark)).setCell ⟨w_a_0.heap.size, 4, none⟩ (.bool a_laid) = x := ⟨_, rfl⟩
  have z0b24_24 := Ot_1.out.frozenAt 0
  have z1b24_24 := Ot_1.out.frozenAt 1
  have z2b24_24 := Ot_1.out.frozenAt 2
  have z3b24_24 := Ot_1.out.frozenAt 3
  have z4b24_24 := Ot_1.out.frozenAt 4
  have Sb24_24 := Lib.hid (own_stores [(0, .int .i64 a_id), (1, .int .i64 a_thick), (2, .int .i64 a_tint), (3, .string a_mark), (4, .bool a_laid)] Ot_1.out)
  have Pb24_24 : Hid (wb24_24.ownsRow w.heap.size 90 5 (.slice (some ⟨w_a_0.heap.size, 0, none⟩) 1 1) 1 [.int .i64 a_id, .int .i64 a_thick, .int .i64 a_tint, .string a_mark, .bool a_laid]) := Lib.hid (by rw [← hwb24_24]; exact Sb24_24.out.1)
  have Gb24_24 : Hid (wb22_22.grownBy wb24_24 (Value.slice (some ⟨w_a_0.heap.size, 0, none⟩) 1 1).ownBlock) := Lib.hid (by rw [← hwb24_24]; exact Sb24_24.out.2)
  have HBwb24_24 := Lib.hid (HBwb22_22.out.grown Gb24_24.out HBwb22_22.out.size (fun q hq => (Ot_1.out.lt q hq).1))
  clear Sb24_24
  have ka_0_0__266 := cell_other ka_0_0__251 Gb24_24.out Dt_1_a_0.out
  have ka_0_1__267 := cell_other ka_0_1__252 Gb24_24.out Dt_1_a_0.out
  have ka_0_2__268 := cell_other ka_0_2__253 Gb24_24.out Dt_1_a_0.out
  have ka_0_3__269 := cell_other ka_0_3__254 Gb24_24.out Dt_1_a_0.out
  have ka_0_4__270 := cell_other ka_0_4__255 Gb24_24.out Dt_1_a_0.out
  have kout_2_0__271 := cell_other kout_2_0__261 Gb24_24.out (Apart.symm Dout_2_t_1.out)
  have kout_2_1__272 := cell_other kout_2_1__262 Gb24_24.out (Apart.symm Dout_2_t_1.out)
  have kout_2_2__273 := cell_other kout_2_2__263 Gb24_24.out (Apart.symm Dout_2_t_1.out)
  have kout_2_3__274 := cell_other kout_2_3__264 Gb24_24.out (Apart.symm Dout_2_t_1.out)
  have kout_2_4__275 := cell_other kout_2_4__265 Gb24_24.out (Apart.symm Dout_2_t_1.out)
  replace Pb22_22 := Lib.hid (own_other Pb22_22.out Gb24_24.out (Apart.symm Dout_2_t_1.out))
  clear Ot_1 Gb24_24
  have kt_1_0__276 : wb24_24.cell? ⟨w_a_0.heap.size, 0, none⟩ = some (.int .i64 a_id) := Pb24_24.out.cells rfl 0 _ rfl
  have kt_1_1__277 : wb24_24.cell? ⟨w_a_0.heap.size, 1, none⟩ = some (.int .i64 a_thick) := Pb24_24.out.cells rfl 1 _ rfl
  have kt_1_2__278 : wb24_24.cell? ⟨w_a_0.heap.size, 2, none⟩ = some (.int .i64 a_tint) := Pb24_24.out.cells rfl 2 _ rfl
  have kt_1_3__279 : wb24_24.cell? ⟨w_a_0.heap.size, 3, none⟩ = some (.string a_mark) := Pb24_24.out.cells rfl 3 _ rfl
  have kt_1_4__280 : wb24_24.cell? ⟨w_a_0.heap.size, 4, none⟩ = some (.bool a_laid) := Pb24_24.out.cells rfl 4 _ rfl
  cases ret_hid H
  go_wp2_with fail
  (try simp only [Exit.inBlock, Exit.then])
  refine bodyPost_ret (v := .agg #[.int .i64 a_id, .int .i64 a_thick, .int .i64 a_tint, .string a_mark, .bool a_laid]) ?hr_ ?hd_ ?_
  case hd_ => rfl
  case hr_ => simp [results, Try.results78, kt_1_0__276, kt_1_1__277, kt_1_2__278, kt_1_3__279, kt_1_4__280, go_sem]
  exact ⟨rfl, HBwb24_24.out⟩
end Go.Proofs.Ytdgbigkcophjoaa.GlToPaper
