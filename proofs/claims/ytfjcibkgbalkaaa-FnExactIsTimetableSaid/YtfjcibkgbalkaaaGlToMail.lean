/- loop.example/g01062/laws.toMail as a plain function, and the contract of the program's: where the plain one has an answer, the program has it. Conditions: slices read as lists. -/
import Derived.Test.YtfjcibkgbalkaaaChecked
import Derived.Test.YtfjcibkgbalkaaaGoM
import Derived.Test.YtfjcibkgbalkaaaGoRMail
import Derived.WalkKit
import Derived.WalkSpells
import Derived.WalkLawsBesides
import Derived.BigQuiet
import Derived.OwnWalk
import Derived.Deep.LoopGhost
import Derived.Deep.QuietTactic
import Derived.IntWalk
import Derived.Lib.QuietBelow
namespace Go.Proofs.Ytfjcibkgbalkaaa.GlToMail
set_option linter.unusedVariables false
set_option linter.unusedSimpArgs false
open Go.RowKit
open Go.Proofs.Ytfjcibkgbalkaaa.Rowed Go.Proofs.Ytfjcibkgbalkaaa.Turn Go.Proofs.Ytfjcibkgbalkaaa.Aid Go.Proofs.Ytfjcibkgbalkaaa.GoP Go.Proofs.Ytfjcibkgbalkaaa.GoM

def P (a : Go.Proofs.Ytfjcibkgbalkaaa.PMail.Mail) : Option (Go.Proofs.Ytfjcibkgbalkaaa.PMail.Mail) :=
  unMail a fun (a_leave : Int) (a_from_ : Int) (a_to_ : Int) (a_arrive : Int) =>
  some (Go.Proofs.Ytfjcibkgbalkaaa.PMail.Mail.mk a_leave a_from_ a_to_ a_arrive)

set_option maxRecDepth 100000 in
set_option maxHeartbeats 2000000 in
theorem C (a : Go.Proofs.Ytfjcibkgbalkaaa.PMail.Mail)   (w : World)   {r : Go.Proofs.Ytfjcibkgbalkaaa.PMail.Mail} (H : Hid (P a = some r)) :
    Calls Try.prog 106 #[a.val] w (Gives ((Go.Proofs.Ytfjcibkgbalkaaa.PMail.Mail.val r)) w) := by
  have HB := Lib.hid (Below.refl w.heap.size w)
  unfold P at H
  obtain ⟨a_leave, a_from_, a_to_, a_arrive⟩ := a
  replace H := unMail_hid H
  unfold Go.Proofs.Ytfjcibkgbalkaaa.PMail.Mail.val
  go_enter Try.func106, Try.ntmps106
  obtain ⟨w_a_0, hw_a_0⟩ : ∃ x, w.alloc (.cells #[.int .i64 a_leave, .int .i64 a_from_, .int .i64 a_to_, .int .i64 a_arrive] 103) = x := ⟨_, rfl⟩
  have bw_a_0 : Below w.heap.size w w_a_0 := by rw [← hw_a_0]; exact (Below.refl _ _).alloc (Nat.le_refl _) _
  have HBw_a_0 := Lib.hid (Below.step HB.out bw_a_0)
  clear bw_a_0
  have ka_0_0 : w_a_0.cell? ⟨w.heap.size, 0, none⟩ = some (.int .i64 a_leave) := by rw [← hw_a_0]; exact box_new _ _ _ 0 _ rfl
  have ka_0_1 : w_a_0.cell? ⟨w.heap.size, 1, none⟩ = some (.int .i64 a_from_) := by rw [← hw_a_0]; exact box_new _ _ _ 1 _ rfl
  have ka_0_2 : w_a_0.cell? ⟨w.heap.size, 2, none⟩ = some (.int .i64 a_to_) := by rw [← hw_a_0]; exact box_new _ _ _ 2 _ rfl
  have ka_0_3 : w_a_0.cell? ⟨w.heap.size, 3, none⟩ = some (.int .i64 a_arrive) := by rw [← hw_a_0]; exact box_new _ _ _ 3 _ rfl
  obtain ⟨w_t_1, hw_t_1⟩ : ∃ x, w_a_0.alloc (.cells #[.int .i64 0, .int .i64 0, .int .i64 0, .int .i64 0] 95) = x := ⟨_, rfl⟩
  have bw_t_1 : Below w_a_0.heap.size w_a_0 w_t_1 := by rw [← hw_t_1]; exact (Below.refl _ _).alloc (Nat.le_refl _) _
  have Dt_1_a_0 := Lib.hid (apart_box ka_0_0)
  have HBw_t_1 := Lib.hid (Below.step HBw_a_0.out bw_t_1)
  have ka_0_0__228 := cell_below bw_t_1 ka_0_0
  have ka_0_1__229 := cell_below bw_t_1 ka_0_1
  have ka_0_2__230 := cell_below bw_t_1 ka_0_2
  have ka_0_3__231 := cell_below bw_t_1 ka_0_3
  clear bw_t_1
  have kt_1_0 : w_t_1.cell? ⟨w_a_0.heap.size, 0, none⟩ = some (.int .i64 0) := by rw [← hw_t_1]; exact box_new _ _ _ 0 _ rfl
  have kt_1_1 : w_t_1.cell? ⟨w_a_0.heap.size, 1, none⟩ = some (.int .i64 0) := by rw [← hw_t_1]; exact box_new _ _ _ 1 _ rfl
  have kt_1_2 : w_t_1.cell? ⟨w_a_0.heap.size, 2, none⟩ = some (.int .i64 0) := by rw [← hw_t_1]; exact box_new _ _ _ 2 _ rfl
  have kt_1_3 : w_t_1.cell? ⟨w_a_0.heap.size, 3, none⟩ = some (.int .i64 0) := by rw [← hw_t_1]; exact box_new _ _ _ 3 _ rfl
  have Ot_1 : Hid (w_t_1.ownsRow w.heap.size 95 4 (.slice (some ⟨w_a_0.heap.size, 0, none⟩) 1 1) 1 [.int .i64 0, .int .i64 0, .int .i64 0, .int .i64 0]) := Lib.hid (by rw [← hw_t_1]; exact own_laid (n := 1) HBw_a_0.out.size rfl rfl (by unfold maxLen; omega))
  obtain ⟨w_out_2, hw_out_2⟩ : ∃ x, w_t_1.alloc (.cells #[.int .i64 0, .int .i64 0, .int .i64 0, .int .i64 0] 95) = x := ⟨_, rfl⟩
  have bw_out_2 : Below w_t_1.heap.size w_t_1 w_out_2 := by rw [← hw_out_2]; exact (Below.refl _ _).alloc (Nat.le_refl _) _
  have Dout_2_a_0 := Lib.hid (apart_box ka_0_0__228)
  have Dout_2_t_1 := Lib.hid (apart_box kt_1_0)
  have HBw_out_2 := Lib.hid (Below.step HBw_t_1.out bw_out_2)
  have ka_0_0__232 := cell_below bw_out_2 ka_0_0__228
  have ka_0_1__233 := cell_below bw_out_2 ka_0_1__229
  have ka_0_2__234 := cell_below bw_out_2 ka_0_2__230
  have ka_0_3__235 := cell_below bw_out_2 ka_0_3__231
  have kt_1_0__236 := cell_below bw_out_2 kt_1_0
  have kt_1_1__237 := cell_below bw_out_2 kt_1_1
  have kt_1_2__238 := cell_below bw_out_2 kt_1_2
  have kt_1_3__239 := cell_below bw_out_2 kt_1_3
  replace Ot_1 := Lib.hid (own_below Ot_1.out bw_out_2)
  clear bw_out_2
  have kout_2_0 : w_out_2.cell? ⟨w_t_1.heap.size, 0, none⟩ = some (.int .i64 0) := by rw [← hw_out_2]; exact box_new _ _ _ 0 _ rfl
  have kout_2_1 : w_out_2.cell? ⟨w_t_1.heap.size, 1, none⟩ = some (.int .i64 0) := by rw [← hw_out_2]; exact box_new _ _ _ 1 _ rfl
  have kout_2_2 : w_out_2.cell? ⟨w_t_1.heap.size, 2, none⟩ = some (.int .i64 0) := by rw [← hw_out_2]; exact box_new _ _ _ 2 _ rfl
  have kout_2_3 : w_out_2.cell? ⟨w_t_1.heap.size, 3, none⟩ = some (.int .i64 0) := by rw [← hw_out_2]; exact box_new _ _ _ 3 _ rfl
  have Oout_2 : Hid (w_out_2.ownsRow w.heap.size 95 4 (.slice (some ⟨w_t_1.heap.size, 0, none⟩) 1 1) 1 [.int .i64 0, .int .i64 0, .int .i64 0, .int .i64 0]) := Lib.hid (by rw [← hw_out_2]; exact own_laid (n := 1) HBw_t_1.out.size rfl rfl (by unfold maxLen; omega))
  obtain ⟨wb6_6, hwb6_6⟩ : ∃ x, (w_out_2).setCell ⟨w_t_1.heap.size, 0, none⟩ (.int .i64 a_leave) = x := ⟨_, rfl⟩
  have z0b6_6 := Oout_2.out.frozenAt 0
  have Sb6_6 := Lib.hid (own_stores [(0, .int .i64 a_leave)] Oout_2.out)
  have Pb6_6 : Hid (wb6_6.ownsRow w.heap.size 95 4 (.slice (some ⟨w_t_1.heap.size, 0, none⟩) 1 1) 1 [.int .i64 a_leave, .int .i64 0, .int .i64 0, .int .i64 0]) := Lib.hid (by rw [← hwb6_6]; exact Sb6_6.out.1)
  have Gb6_6 : Hid (w_out_2.grownBy wb6_6 (Value.slice (some ⟨w_t_1.heap.size, 0, none⟩) 1 1).ownBlock) := Lib.hid (by rw [← hwb6_6]; exact Sb6_6.out.2)
  have HBwb6_6 := Lib.hid (HBw_out_2.out.grown Gb6_6.out HBw_out_2.out.size (fun q hq => (Oout_2.out.lt q hq).1))
  clear Sb6_6
  have ka_0_0__240 := cell_other ka_0_0__232 Gb6_6.out Dout_2_a_0.out
  have ka_0_1__241 := cell_other ka_0_1__233 Gb6_6.out Dout_2_a_0.out
  have ka_0_2__242 := cell_other ka_0_2__234 Gb6_6.out Dout_2_a_0.out
  have ka_0_3__243 := cell_other ka_0_3__235 Gb6_6.out Dout_2_a_0.out
  have kt_1_0__244 := cell_other kt_1_0__236 Gb6_6.out Dout_2_t_1.out
  have kt_1_1__245 := cell_other kt_1_1__237 Gb6_6.out Dout_2_t_1.out
  have kt_1_2__246 := cell_other kt_1_2__238 Gb6_6.out Dout_2_t_1.out
  have kt_1_3__247 := cell_other kt_1_3__239 Gb6_6.out Dout_2_t_1.out
  replace Ot_1 := Lib.hid (own_other Ot_1.out Gb6_6.out Dout_2_t_1.out)
  clear Oout_2 Gb6_6
  have kout_2_0__248 : wb6_6.cell? ⟨w_t_1.heap.size, 0, none⟩ = some (.int .i64 a_leave) := Pb6_6.out.cells rfl 0 _ rfl
  have kout_2_1__249 : wb6_6.cell? ⟨w_t_1.heap.size, 1, none⟩ = some (.int .i64 0) := Pb6_6.out.cells rfl 1 _ rfl
  have kout_2_2__250 : wb6_6.cell? ⟨w_t_1.heap.size, 2, none⟩ = some (.int .i64 0) := Pb6_6.out.cells rfl 2 _ rfl
  have kout_2_3__251 : wb6_6.cell? ⟨w_t_1.heap.size, 3, none⟩ = some (.int .i64 0) := Pb6_6.out.cells rfl 3 _ rfl
  obtain ⟨wb10_10, hwb10_10⟩ : ∃ x, (wb6_6).setCell ⟨w_t_1.heap.size, 1, none⟩ (.int .i64 a_from_) = x := ⟨_, rfl⟩
  have z0b10_10 := Pb6_6.out.frozenAt 1
  have Sb10_10 := Lib.hid (own_stores [(1, .int .i64 a_from_)] Pb6_6.out)
  have Pb10_10 : Hid (wb10_10.ownsRow w.heap.size 95 4 (.slice (some ⟨w_t_1.heap.size, 0, none⟩) 1 1) 1 [.int .i64 a_leave, .int .i64 a_from_, .int .i64 0, .int .i64 0]) := Lib.hid (by rw [← hwb10_10]; exact Sb10_10.out.1)
  have Gb10_10 : Hid (wb6_6.grownBy wb10_10 (Value.slice (some ⟨w_t_1.heap.size, 0, none⟩) 1 1).ownBlock) := Lib.hid (by rw [← hwb10_10]; exact Sb10_10.out.2)
  have HBwb10_10 := Lib.hid (HBwb6_6.out.grown Gb10_10.out HBwb6_6.out.size (fun q hq => (Pb6_6.out.lt q hq).1))
  clear Sb10_10
  have ka_0_0__252 := cell_other ka_0_0__240 Gb10_10.out Dout_2_a_0.out
  have ka_0_1__253 := cell_other ka_0_1__241 Gb10_10.out Dout_2_a_0.out
  have ka_0_2__254 := cell_other ka_0_2__242 Gb10_10.out Dout_2_a_0.out
  have ka_0_3__255 := cell_other ka_0_3__243 Gb10_10.out Dout_2_a_0.out
  have kt_1_0__256 := cell_other kt_1_0__244 Gb10_10.out Dout_2_t_1.out
  have kt_1_1__257 := cell_other kt_1_1__245 Gb10_10.out Dout_2_t_1.out
  have kt_1_2__258 := cell_other kt_1_2__246 Gb10_10.out Dout_2_t_1.out
  have kt_1_3__259 := cell_other kt_1_3__247 Gb10_10.out Dout_2_t_1.out
  replace Ot_1 := Lib.hid (own_other Ot_1.out Gb10_10.out Dout_2_t_1.out)
  clear Pb6_6 Gb10_10
  have kout_2_0__260 : wb10_10.cell? ⟨w_t_1.heap.size, 0, none⟩ = some (.int .i64 a_leave) := Pb10_10.out.cells rfl 0 _ rfl
  have kout_2_1__261 : wb10_10.cell? ⟨w_t_1.heap.size, 1, none⟩ = some (.int .i64 a_from_) := Pb10_10.out.cells rfl 1 _ rfl
  have kout_2_2__262 : wb10_10.cell? ⟨w_t_1.heap.size, 2, none⟩ = some (.int .i64 0) := Pb10_10.out.cells rfl 2 _ rfl
  have kout_2_3__263 : wb10_10.cell? ⟨w_t_1.heap.size, 3, none⟩ = some (.int .i64 0) := Pb10_10.out.cells rfl 3 _ rfl
  obtain ⟨wb14_14, hwb14_14⟩ : ∃ x, (wb10_10).setCell ⟨w_t_1.heap.size, 2, none⟩ (.int .i64 a_to_) = x := ⟨_, rfl⟩
  have z0b14_14 := Pb10_10.out.frozenAt 2
  have Sb14_14 := Lib.hid (own_stores [(2, .int .i64 a_to_)] Pb10_10.out)
  have Pb14_14 : Hid (wb14_14.ownsRow w.heap.size 95 4 (.slice (some ⟨w_t_1.heap.size, 0, none⟩) 1 1) 1 [.int .i64 a_leave, .int .i64 a_from_, .int .i64 a_to_, .int .i64 0]) := Lib.hid (by rw [← hwb14_14]; exact Sb14_14.out.1)
  have Gb14_14 : Hid (wb10_10.grownBy wb14_14 (Value.slice (some ⟨w_t_1.heap.size, 0, none⟩) 1 1).ownBlock) := Lib.hid (by rw [← hwb14_14]; exact Sb14_14.out.2)
  have HBwb14_14 := Lib.hid (HBwb10_10.out.grown Gb14_14.out HBwb10_10.out.size (fun q hq => (Pb10_10.out.lt q hq).1))
  clear Sb14_14
  have ka_0_0__264 := cell_other ka_0_0__252 Gb14_14.out Dout_2_a_0.out
  have ka_0_1__265 := cell_other ka_0_1__253 Gb14_14.out Dout_2_a_0.out
  have ka_0_2__266 := cell_other ka_0_2__254 Gb14_14.out Dout_2_a_0.out
  have ka_0_3__267 := cell_other ka_0_3__255 Gb14_14.out Dout_2_a_0.out
  have kt_1_0__268 := cell_other kt_1_0__256 Gb14_14.out Dout_2_t_1.out
  have kt_1_1__269 := cell_other kt_1_1__257 Gb14_14.out Dout_2_t_1.out
  have kt_1_2__270 := cell_other kt_1_2__258 Gb14_14.out Dout_2_t_1.out
  have kt_1_3__271 := cell_other kt_1_3__259 Gb14_14.out Dout_2_t_1.out
  replace Ot_1 := Lib.hid (own_other Ot_1.out Gb14_14.out Dout_2_t_1.out)
  clear Pb10_10 Gb14_14
  have kout_2_0__272 : wb14_14.cell? ⟨w_t_1.heap.size, 0, none⟩ = some (.int .i64 a_leave) := Pb14_14.out.cells rfl 0 _ rfl
  have kout_2_1__273 : wb14_14.cell? ⟨w_t_1.heap.size, 1, none⟩ = some (.int .i64 a_from_) := Pb14_14.out.cells rfl 1 _ rfl
  have kout_2_2__274 : wb14_14.cell? ⟨w_t_1.heap.size, 2, none⟩ = some (.int .i64 a_to_) := Pb14_14.out.cells rfl 2 _ rfl
  have kout_2_3__275 : wb14_14.cell? ⟨w_t_1.heap.size, 3, none⟩ = some (.int .i64 0) := Pb14_14.out.cells rfl 3 _ rfl
  obtain ⟨wb18_18, hwb18_18⟩ : ∃ x, (wb14_14).setCell ⟨w_t_1.heap.size, 3, none⟩ (.int .i64 a_arrive) = x := ⟨_, rfl⟩
  have z0b18_18 := Pb14_14.out.frozenAt 3
  have Sb18_18 := Lib.hid (own_stores [(3, .int .i64 a_arrive)] Pb14_14.out)
  have Pb18_18 : Hid (wb18_18.ownsRow w.heap.size 95 4 (.slice (some ⟨w_t_1.heap.size, 0, none⟩) 1 1) 1 [.int .i64 a_leave, .int .i64 a_from_, .int .i64 a_to_, .int .i64 a_arrive]) := Lib.hid (by rw [← hwb18_18]; exact Sb18_18.out.1)
  have Gb18_18 : Hid (wb14_14.grownBy wb18_18 (Value.slice (some ⟨w_t_1.heap.size, 0, none⟩) 1 1).ownBlock) := Lib.hid (by rw [← hwb18_18]; exact Sb18_18.out.2)
  have HBwb18_18 := Lib.hid (HBwb14_14.out.grown Gb18_18.out HBwb14_14.out.size (fun q hq => (Pb14_14.out.lt q hq).1))
  clear Sb18_18
  have ka_0_0__276 := cell_other ka_0_0__264 Gb18_18.out Dout_2_a_0.out
  have ka_0_1__277 := cell_other ka_0_1__265 Gb18_18.out Dout_2_a_0.out
  have ka_0_2__278 := cell_other ka_0_2__266 Gb18_18.out Dout_2_a_0.out
  have ka_0_3__279 := cell_other ka_0_3__267 Gb18_18.out Dout_2_a_0.out
  have kt_1_0__280 := cell_other kt_1_0__268 Gb18_18.out Dout_2_t_1.out
  have kt_1_1__281 := cell_other kt_1_1__269 Gb18_18.out Dout_2_t_1.out
  have kt_1_2__282 := cell_other kt_1_2__270 Gb18_18.out Dout_2_t_1.out
  have kt_1_3__283 := cell_other kt_1_3__271 Gb18_18.out Dout_2_t_1.out
  replace Ot_1 := Lib.hid (own_other Ot_1.out Gb18_18.out Dout_2_t_1.out)
  clear Pb14_14 Gb18_18
  have kout_2_0__284 : wb18_18.cell? ⟨w_t_1.heap.size, 0, none⟩ = some (.int .i64 a_leave) := Pb18_18.out.cells rfl 0 _ rfl
  have kout_2_1__285 : wb18_18.cell? ⟨w_t_1.heap.size, 1, none⟩ = some (.int .i64 a_from_) := Pb18_18.out.cells rfl 1 _ rfl
  have kout_2_2__286 : wb18_18.cell? ⟨w_t_1.heap.size, 2, none⟩ = some (.int .i64 a_to_) := Pb18_18.out.cells rfl 2 _ rfl
  have kout_2_3__287 : wb18_18.cell? ⟨w_t_1.heap.size, 3, none⟩ = some (.int .i64 a_arrive) := Pb18_18.out.cells rfl 3 _ rfl
  obtain ⟨wb20_20, hwb20_20⟩ : ∃ x, ((((wb18_18).setCell ⟨w_a_0.heap.size, 0, none⟩ (.int .i64 a_leave)).setCell ⟨w_a_0.heap.size, 1, none⟩ (.int .i64 a_from_)).setCell ⟨w_a_0.heap.size, 2, none⟩ (.int .i64 a_to_)).setCell ⟨w_a_0.heap.size, 3, none⟩ (.int .i64 a_arrive) = x := ⟨_, rfl⟩
  have z0b20_20 := Ot_1.out.frozenAt 0
  have z1b20_20 := Ot_1.out.frozenAt 1
  have z2b20_20 := Ot_1.out.frozenAt 2
  have z3b20_20 := Ot_1.out.frozenAt 3
  have Sb20_20 := Lib.hid (own_stores [(0, .int .i64 a_leave), (1, .int .i64 a_from_), (2, .int .i64 a_to_), (3, .int .i64 a_arrive)] Ot_1.out)
  have Pb20_20 : Hid (wb20_20.ownsRow w.heap.size 95 4 (.slice (some ⟨w_a_0.heap.size, 0, none⟩) 1 1) 1 [.int .i64 a_leave, .int .i64 a_from_, .int .i64 a_to_, .int .i64 a_arrive]) := Lib.hid (by rw [← hwb20_20]; exact Sb20_20.out.1)
  have Gb20_20 : Hid (wb18_18.grownBy wb20_20 (Value.slice (some ⟨w_a_0.heap.size, 0, none⟩) 1 1).ownBlock) := Lib.hid (by rw [← hwb20_20]; exact Sb20_20.out.2)
  have HBwb20_20 := Lib.hid (HBwb18_18.out.grown Gb20_20.out HBwb18_18.out.size (fun q hq => (Ot_1.out.lt q hq).1))
  clear Sb20_20
  have ka_0_0__288 := cell_other ka_0_0__276 Gb20_20.out Dt_1_a_0.out
  have ka_0_1__289 := cell_other ka_0_1__277 Gb20_20.out Dt_1_a_0.out
  have ka_0_2__290 := cell_other ka_0_2__278 Gb20_20.out Dt_1_a_0.out
  have ka_0_3__291 := cell_other ka_0_3__279 Gb20_20.out Dt_1_a_0.out
  have kout_2_0__292 := cell_other kout_2_0__284 Gb20_20.out (Apart.symm Dout_2_t_1.out)
  have kout_2_1__293 := cell_other kout_2_1__285 Gb20_20.out (Apart.symm Dout_2_t_1.out)
  have kout_2_2__294 := cell_other kout_2_2__286 Gb20_20.out (Apart.symm Dout_2_t_1.out)
  have kout_2_3__295 := cell_other kout_2_3__287 Gb20_20.out (Apart.symm Dout_2_t_1.out)
  replace Pb18_18 := Lib.hid (own_other Pb18_18.out Gb20_20.out (Apart.symm Dout_2_t_1.out))
  clear Ot_1 Gb20_20
  have kt_1_0__296 : wb20_20.cell? ⟨w_a_0.heap.size, 0, none⟩ = some (.int .i64 a_leave) := Pb20_20.out.cells rfl 0 _ rfl
  have kt_1_1__297 : wb20_20.cell? ⟨w_a_0.heap.size, 1, none⟩ = some (.int .i64 a_from_) := Pb20_20.out.cells rfl 1 _ rfl
  have kt_1_2__298 : wb20_20.cell? ⟨w_a_0.heap.size, 2, none⟩ = some (.int .i64 a_to_) := Pb20_20.out.cells rfl 2 _ rfl
  have kt_1_3__299 : wb20_20.cell? ⟨w_a_0.heap.size, 3, none⟩ = some (.int .i64 a_arrive) := Pb20_20.out.cells rfl 3 _ rfl
  cases ret_hid H
  go_wp2_with fail
  (try simp only [Exit.inBlock, Exit.then])
  refine bodyPost_ret (v := .agg #[.int .i64 a_leave, .int .i64 a_from_, .int .i64 a_to_, .int .i64 a_arrive]) ?hr_ ?hd_ ?_
  case hd_ => rfl
  case hr_ => simp [results, Try.results106, kt_1_0__296, kt_1_1__297, kt_1_2__298, kt_1_3__299, go_sem]
  exact ⟨rfl, HBwb20_20.out⟩
end Go.Proofs.Ytfjcibkgbalkaaa.GlToMail
