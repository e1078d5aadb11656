/- loop.example/g01062/laws.toMail as a plain function, and the contract of the program's: where the plain one has an answer, the program has it. Conditions: slices read as lists. -/
import Derived.Test.YtfjcibkgbalkaaaDoorChecked
import Derived.Test.YtfjcibkgbalkaaaDoorGoM
import Derived.Test.YtfjcibkgbalkaaaDoorGoRMail
import Derived.WalkKit
import Derived.WalkSpells
import Derived.WalkLawsBesides
import Derived.BigQuiet
import Derived.OwnWalk
import Derived.Deep.LoopGhost
import Derived.Deep.QuietTactic
import Derived.IntWalk
import Derived.Lib.QuietBelow
namespace Go.Proofs.YtfjcibkgbalkaaaDoor.GlToMail
set_option linter.unusedVariables false
set_option linter.unusedSimpArgs false
open Go.RowKit
open Go.Proofs.YtfjcibkgbalkaaaDoor.Rowed Go.Proofs.YtfjcibkgbalkaaaDoor.Turn Go.Proofs.YtfjcibkgbalkaaaDoor.Aid Go.Proofs.YtfjcibkgbalkaaaDoor.GoP Go.Proofs.YtfjcibkgbalkaaaDoor.GoM

def P (a : Go.Proofs.YtfjcibkgbalkaaaDoor.PMail.Mail) : Option (Go.Proofs.YtfjcibkgbalkaaaDoor.PMail.Mail) :=
  unMail a fun (a_leave : Int) (a_from_ : Int) (a_to_ : Int) (a_arrive : Int) =>
  some (Go.Proofs.YtfjcibkgbalkaaaDoor.PMail.Mail.mk a_leave a_from_ a_to_ a_arrive)

set_option maxRecDepth 100000 in
set_option maxHeartbeats 2000000 in
theorem C (a : Go.Proofs.YtfjcibkgbalkaaaDoor.PMail.Mail)   (w : World)   {r : Go.Proofs.YtfjcibkgbalkaaaDoor.PMail.Mail} (H : Hid (P a = some r)) :
    Calls Tryd.prog 39 #[a.val] w (Gives ((Go.Proofs.YtfjcibkgbalkaaaDoor.PMail.Mail.val r)) w) := by
  have HB := Lib.hid (Below.refl w.heap.size w)
  unfold P at H
  obtain ⟨a_leave, a_from_, a_to_, a_arrive⟩ := a
  replace H := unMail_hid H
  unfold Go.Proofs.YtfjcibkgbalkaaaDoor.PMail.Mail.val
  go_enter Tryd.func39, Tryd.ntmps39
  obtain ⟨w_a_0, hw_a_0⟩ : ∃ x, w.alloc (.cells #[.int .i64 a_leave, .int .i64 a_from_, .int .i64 a_to_, .int .i64 a_arrive] 59) = x := ⟨_, rfl⟩
  have bw_a_0 : Below w.heap.size w w_a_0 := by rw [← hw_a_0]; exact (Below.refl _ _).alloc (Nat.le_refl _) _
  have HBw_a_0 := Lib.hid (Below.step HB.out bw_a_0)
  clear bw_a_0
  have ka_0_0 : w_a_0.cell? ⟨w.heap.size, 0, none⟩ = some (.int .i64 a_leave) := by rw [← hw_a_0]; exact box_new _ _ _ 0 _ rfl
  have ka_0_1 : w_a_0.cell? ⟨w.heap.size, 1, none⟩ = some (.int .i64 a_from_) := by rw [← hw_a_0]; exact box_new _ _ _ 1 _ rfl
  have ka_0_2 : w_a_0.cell? ⟨w.heap.size, 2, none⟩ = some (.int .i64 a_to_) := by rw [← hw_a_0]; exact box_new _ _ _ 2 _ rfl
  have ka_0_3 : w_a_0.cell? ⟨w.heap.size, 3, none⟩ = some (.int .i64 a_arrive) := by rw [← hw_a_0]; exact box_new _ _ _ 3 _ rfl
  obtain ⟨w_t_1, hw_t_1⟩ : ∃ x, w_a_0.alloc (.cells #[.int .i64 0, .int .i64 0, .int .i64 0, .int .i64 0] 54) = x := ⟨_, rfl⟩
  have bw_t_1 : Below w_a_0.heap.size w_a_0 w_t_1 := by rw [← hw_t_1]; exact (Below.refl _ _).alloc (Nat.le_refl _) _
  have Dt_1_a_0 := Lib.hid (apart_box ka_0_0)
  have HBw_t_1 := Lib.hid (Below.step HBw_a_0.out bw_t_1)
  have ka_0_0__1 := cell_below bw_t_1 ka_0_0
  have ka_0_1__2 := cell_below bw_t_1 ka_0_1
  have ka_0_2__3 := cell_below bw_t_1 ka_0_2
  have ka_0_3__4 := cell_below bw_t_1 ka_0_3
  clear bw_t_1
  have kt_1_0 : w_t_1.cell? ⟨w_a_0.heap.size, 0, none⟩ = some (.int .i64 0) := by rw [← hw_t_1]; exact box_new _ _ _ 0 _ rfl
  have kt_1_1 : w_t_1.cell? ⟨w_a_0.heap.size, 1, none⟩ = some (.int .i64 0) := by rw [← hw_t_1]; exact box_new _ _ _ 1 _ rfl
  have kt_1_2 : w_t_1.cell? ⟨w_a_0.heap.size, 2, none⟩ = some (.int .i64 0) := by rw [← hw_t_1]; exact box_new _ _ _ 2 _ rfl
  have kt_1_3 : w_t_1.cell? ⟨w_a_0.heap.size, 3, none⟩ = some (.int .i64 0) := by rw [← hw_t_1]; exact box_new _ _ _ 3 _ rfl
  have Ot_1 : Hid (w_t_1.ownsRow w.heap.size 54 4 (.slice (some ⟨w_a_0.heap.size, 0, none⟩) 1 1) 1 [.int .i64 0, .int .i64 0, .int .i64 0, .int .i64 0]) := Lib.hid (by rw [← hw_t_1]; exact own_laid (n := 1) HBw_a_0.out.size rfl rfl (by unfold maxLen; omega))
  obtain ⟨w_out_2, hw_out_2⟩ : ∃ x, w_t_1.alloc (.cells #[.int .i64 0, .int .i64 0, .int .i64 0, .int .i64 0] 54) = x := ⟨_, rfl⟩
  have bw_out_2 : Below w_t_1.heap.size w_t_1 w_out_2 := by rw [← hw_out_2]; exact (Below.refl _ _).alloc (Nat.le_refl _) _
  have Dout_2_a_0 := Lib.hid (apart_box ka_0_0__1)
  have Dout_2_t_1 := Lib.hid (apart_box kt_1_0)
  have HBw_out_2 := Lib.hid (Below.step HBw_t_1.out bw_out_2)
  have ka_0_0__5 := cell_below bw_out_2 ka_0_0__1
  have ka_0_1__6 := cell_below bw_out_2 ka_0_1__2
  have ka_0_2__7 := cell_below bw_out_2 ka_0_2__3
  have ka_0_3__8 := cell_below bw_out_2 ka_0_3__4
  have kt_1_0__9 := cell_below bw_out_2 kt_1_0
  have kt_1_1__10 := cell_below bw_out_2 kt_1_1
  have kt_1_2__11 := cell_below bw_out_2 kt_1_2
  have kt_1_3__12 := cell_below bw_out_2 kt_1_3
  replace Ot_1 := Lib.hid (own_below Ot_1.out bw_out_2)
  clear bw_out_2
  have kout_2_0 : w_out_2.cell? ⟨w_t_1.heap.size, 0, none⟩ = some (.int .i64 0) := by rw [← hw_out_2]; exact box_new _ _ _ 0 _ rfl
  have kout_2_1 : w_out_2.cell? ⟨w_t_1.heap.size, 1, none⟩ = some (.int .i64 0) := by rw [← hw_out_2]; exact box_new _ _ _ 1 _ rfl
  have kout_2_2 : w_out_2.cell? ⟨w_t_1.heap.size, 2, none⟩ = some (.int .i64 0) := by rw [← hw_out_2]; exact box_new _ _ _ 2 _ rfl
  have kout_2_3 : w_out_2.cell? ⟨w_t_1.heap.size, 3, none⟩ = some (.int .i64 0) := by rw [← hw_out_2]; exact box_new _ _ _ 3 _ rfl
  have Oout_2 : Hid (w_out_2.ownsRow w.heap.size 54 4 (.slice (some ⟨w_t_1.heap.size, 0, none⟩) 1 1) 1 [.int .i64 0, .int .i64 0, .int .i64 0, .int .i64 0]) := Lib.hid (by rw [← hw_out_2]; exact own_laid (n := 1) HBw_t_1.out.size rfl rfl (by unfold maxLen; omega))
  obtain ⟨wb6_6, hwb6_6⟩ : ∃ x, (w_out_2).setCell ⟨w_t_1.heap.size, 0, none⟩ (.int .i64 a_leave) = x := ⟨_, rfl⟩
  have z0b6_6 := Oout_2.out.frozenAt 0
  have Sb6_6 := Lib.hid (own_stores [(0, .int .i64 a_leave)] Oout_2.out)
  have Pb6_6 : Hid (wb6_6.ownsRow w.heap.size 54 4 (.slice (some ⟨w_t_1.heap.size, 0, none⟩) 1 1) 1 [.int .i64 a_leave, .int .i64 0, .int .i64 0, .int .i64 0]) := Lib.hid (by rw [← hwb6_6]; exact Sb6_6.out.1)
  have Gb6_6 : Hid (w_out_2.grownBy wb6_6 (Value.slice (some ⟨w_t_1.heap.size, 0, none⟩) 1 1).ownBlock) := Lib.hid (by rw [← hwb6_6]; exact Sb6_6.out.2)
  have HBwb6_6 := Lib.hid (HBw_out_2.out.grown Gb6_6.out HBw_out_2.out.size (fun q hq => (Oout_2.out.lt q hq).1))
  clear Sb6_6
  have ka_0_0__13 := cell_other ka_0_0__5 Gb6_6.out Dout_2_a_0.out
  have ka_0_1__14 := cell_other ka_0_1__6 Gb6_6.out Dout_2_a_0.out
  have ka_0_2__15 := cell_other ka_0_2__7 Gb6_6.out Dout_2_a_0.out
  have ka_0_3__16 := cell_other ka_0_3__8 Gb6_6.out Dout_2_a_0.out
  have kt_1_0__17 := cell_other kt_1_0__9 Gb6_6.out Dout_2_t_1.out
  have kt_1_1__18 := cell_other kt_1_1__10 Gb6_6.out Dout_2_t_1.out
  have kt_1_2__19 := cell_other kt_1_2__11 Gb6_6.out Dout_2_t_1.out
  have kt_1_3__20 := cell_other kt_1_3__12 Gb6_6.out Dout_2_t_1.out
  replace Ot_1 := Lib.hid (own_other Ot_1.out Gb6_6.out Dout_2_t_1.out)
  clear Oout_2 Gb6_6
  have kout_2_0__21 : wb6_6.cell? ⟨w_t_1.heap.size, 0, none⟩ = some (.int .i64 a_leave) := Pb6_6.out.cells rfl 0 _ rfl
  have kout_2_1__22 : wb6_6.cell? ⟨w_t_1.heap.size, 1, none⟩ = some (.int .i64 0) := Pb6_6.out.cells rfl 1 _ rfl
  have kout_2_2__23 : wb6_6.cell? ⟨w_t_1.heap.size, 2, none⟩ = some (.int .i64 0) := Pb6_6.out.cells rfl 2 _ rfl
  have kout_2_3__24 : wb6_6.cell? ⟨w_t_1.heap.size, 3, none⟩ = some (.int .i64 0) := Pb6_6.out.cells rfl 3 _ rfl
  obtain ⟨wb10_10, hwb10_10⟩ : ∃ x, (wb6_6).setCell ⟨w_t_1.heap.size, 1, none⟩ (.int .i64 a_from_) = x := ⟨_, rfl⟩
  have z0b10_10 := Pb6_6.out.frozenAt 1
  have Sb10_10 := Lib.hid (own_stores [(1, .int .i64 a_from_)] Pb6_6.out)
  have Pb10_10 : Hid (wb10_10.ownsRow w.heap.size 54 4 (.slice (some ⟨w_t_1.heap.size, 0, none⟩) 1 1) 1 [.int .i64 a_leave, .int .i64 a_from_, .int .i64 0, .int .i64 0]) := Lib.hid (by rw [← hwb10_10]; exact Sb10_10.out.1)
  have Gb10_10 : Hid (wb6_6.grownBy wb10_10 (Value.slice (some ⟨w_t_1.heap.size, 0, none⟩) 1 1).ownBlock) := Lib.hid (by rw [← hwb10_10]; exact Sb10_10.out.2)
  have HBwb10_10 := Lib.hid (HBwb6_6.out.grown Gb10_10.out HBwb6_6.out.size (fun q hq => (Pb6_6.out.lt q hq).1))
  clear Sb10_10
  have ka_0_0__25 := cell_other ka_0_0__13 Gb10_10.out Dout_2_a_0.out
  have ka_0_1__26 := cell_other ka_0_1__14 Gb10_10.out Dout_2_a_0.out
  have ka_0_2__27 := cell_other ka_0_2__15 Gb10_10.out Dout_2_a_0.out
  have ka_0_3__28 := cell_other ka_0_3__16 Gb10_10.out Dout_2_a_0.out
  have kt_1_0__29 := cell_other kt_1_0__17 Gb10_10.out Dout_2_t_1.out
  have kt_1_1__30 := cell_other kt_1_1__18 Gb10_10.out Dout_2_t_1.out
  have kt_1_2__31 := cell_other kt_1_2__19 Gb10_10.out Dout_2_t_1.out
  have kt_1_3__32 := cell_other kt_1_3__20 Gb10_10.out Dout_2_t_1.out
  replace Ot_1 := Lib.hid (own_other Ot_1.out Gb10_10.out Dout_2_t_1.out)
  clear Pb6_6 Gb10_10
  have kout_2_0__33 : wb10_10.cell? ⟨w_t_1.heap.size, 0, none⟩ = some (.int .i64 a_leave) := Pb10_10.out.cells rfl 0 _ rfl
  have kout_2_1__34 : wb10_10.cell? ⟨w_t_1.heap.size, 1, none⟩ = some (.int .i64 a_from_) := Pb10_10.out.cells rfl 1 _ rfl
  have kout_2_2__35 : wb10_10.cell? ⟨w_t_1.heap.size, 2, none⟩ = some (.int .i64 0) := Pb10_10.out.cells rfl 2 _ rfl
  have kout_2_3__36 : wb10_10.cell? ⟨w_t_1.heap.size, 3, none⟩ = some (.int .i64 0) := Pb10_10.out.cells rfl 3 _ rfl
  obtain ⟨wb14_14, hwb14_14⟩ : ∃ x, (wb10_10).setCell ⟨w_t_1.heap.size, 2, none⟩ (.int .i64 a_to_) = x := ⟨_, rfl⟩
  have z0b14_14 := Pb10_10.out.frozenAt 2
  have Sb14_14 := Lib.hid (own_stores [(2, .int .i64 a_to_)] Pb10_10.out)
  have Pb14_14 : Hid (wb14_14.ownsRow w.heap.size 54 4 (.slice (some ⟨w_t_1.heap.size, 0, none⟩) 1 1) 1 [.int .i64 a_leave, .int .i64 a_from_, .int .i64 a_to_, .int .i64 0]) := Lib.hid (by rw [← hwb14_14]; exact Sb14_14.out.1)
  have Gb14_14 : Hid (wb10_10.grownBy wb14_14 (Value.slice (some ⟨w_t_1.heap.size, 0, none⟩) 1 1).ownBlock) := Lib.hid (by rw [← hwb14_14]; exact Sb14_14.out.2)
  have HBwb14_14 := Lib.hid (HBwb10_10.out.grown Gb14_14.out HBwb10_10.out.size (fun q hq => (Pb10_10.out.lt q hq).1))
  clear Sb14_14
  have ka_0_0__37 := cell_other ka_0_0__25 Gb14_14.out Dout_2_a_0.out
  have ka_0_1__38 := cell_other ka_0_1__26 Gb14_14.out Dout_2_a_0.out
  have ka_0_2__39 := cell_other ka_0_2__27 Gb14_14.out Dout_2_a_0.out
  have ka_0_3__40 := cell_other ka_0_3__28 Gb14_14.out Dout_2_a_0.out
  have kt_1_0__41 := cell_other kt_1_0__29 Gb14_14.out Dout_2_t_1.out
  have kt_1_1__42 := cell_other kt_1_1__30 Gb14_14.out Dout_2_t_1.out
  have kt_1_2__43 := cell_other kt_1_2__31 Gb14_14.out Dout_2_t_1.out
  have kt_1_3__44 := cell_other kt_1_3__32 Gb14_14.out Dout_2_t_1.out
  replace Ot_1 := Lib.hid (own_other Ot_1.out Gb14_14.out Dout_2_t_1.out)
  clear Pb10_10 Gb14_14
  have kout_2_0__45 : wb14_14.cell? ⟨w_t_1.heap.size, 0, none⟩ = some (.int .i64 a_leave) := Pb14_14.out.cells rfl 0 _ rfl
  have kout_2_1__46 : wb14_14.cell? ⟨w_t_1.heap.size, 1, none⟩ = some (.int .i64 a_from_) := Pb14_14.out.cells rfl 1 _ rfl
  have kout_2_2__47 : wb14_14.cell? ⟨w_t_1.heap.size, 2, none⟩ = some (.int .i64 a_to_) := Pb14_14.out.cells rfl 2 _ rfl
  have kout_2_3__48 : wb14_14.cell? ⟨w_t_1.heap.size, 3, none⟩ = some (.int .i64 0) := Pb14_14.out.cells rfl 3 _ rfl
  obtain ⟨wb18_18, hwb18_18⟩ : ∃ x, (wb14_14).setCell ⟨w_t_1.heap.size, 3, none⟩ (.int .i64 a_arrive) = x := ⟨_, rfl⟩
  have z0b18_18 := Pb14_14.out.frozenAt 3
  have Sb18_18 := Lib.hid (own_stores [(3, .int .i64 a_arrive)] Pb14_14.out)
  have Pb18_18 : Hid (wb18_18.ownsRow w.heap.size 54 4 (.slice (some ⟨w_t_1.heap.size, 0, none⟩) 1 1) 1 [.int .i64 a_leave, .int .i64 a_from_, .int .i64 a_to_, .int .i64 a_arrive]) := Lib.hid (by rw [← hwb18_18]; exact Sb18_18.out.1)
  have Gb18_18 : Hid (wb14_14.grownBy wb18_18 (Value.slice (some ⟨w_t_1.heap.size, 0, none⟩) 1 1).ownBlock) := Lib.hid (by rw [← hwb18_18]; exact Sb18_18.out.2)
  have HBwb18_18 := Lib.hid (HBwb14_14.out.grown Gb18_18.out HBwb14_14.out.size (fun q hq => (Pb14_14.out.lt q hq).1))
  clear Sb18_18
  have ka_0_0__49 := cell_other ka_0_0__37 Gb18_18.out Dout_2_a_0.out
  have ka_0_1__50 := cell_other ka_0_1__38 Gb18_18.out Dout_2_a_0.out
  have ka_0_2__51 := cell_other ka_0_2__39 Gb18_18.out Dout_2_a_0.out
  have ka_0_3__52 := cell_other ka_0_3__40 Gb18_18.out Dout_2_a_0.out
  have kt_1_0__53 := cell_other kt_1_0__41 Gb18_18.out Dout_2_t_1.out
  have kt_1_1__54 := cell_other kt_1_1__42 Gb18_18.out Dout_2_t_1.out
  have kt_1_2__55 := cell_other kt_1_2__43 Gb18_18.out Dout_2_t_1.out
  have kt_1_3__56 := cell_other kt_1_3__44 Gb18_18.out Dout_2_t_1.out
  replace Ot_1 := Lib.hid (own_other Ot_1.out Gb18_18.out Dout_2_t_1.out)
  clear Pb14_14 Gb18_18
  have kout_2_0__57 : wb18_18.cell? ⟨w_t_1.heap.size, 0, none⟩ = some (.int .i64 a_leave) := Pb18_18.out.cells rfl 0 _ rfl
  have kout_2_1__58 : wb18_18.cell? ⟨w_t_1.heap.size, 1, none⟩ = some (.int .i64 a_from_) := Pb18_18.out.cells rfl 1 _ rfl
  have kout_2_2__59 : wb18_18.cell? ⟨w_t_1.heap.size, 2, none⟩ = some (.int .i64 a_to_) := Pb18_18.out.cells rfl 2 _ rfl
  have kout_2_3__60 : wb18_18.cell? ⟨w_t_1.heap.size, 3, none⟩ = some (.int .i64 a_arrive) := Pb18_18.out.cells rfl 3 _ rfl
  obtain ⟨wb20_20, hwb20_20⟩ : ∃ x, ((((wb18_18).setCell ⟨w_a_0.heap.size, 0, none⟩ (.int .i64 a_leave)).setCell ⟨w_a_0.heap.size, 1, none⟩ (.int .i64 a_from_)).setCell ⟨w_a_0.heap.size, 2, none⟩ (.int .i64 a_to_)).setCell ⟨w_a_0.heap.size, 3, none⟩ (.int .i64 a_arrive) = x := ⟨_, rfl⟩
  have z0b20_20 := Ot_1.out.frozenAt 0
  have z1b20_20 := Ot_1.out.frozenAt 1
  have z2b20_20 := Ot_1.out.frozenAt 2
  have z3b20_20 := Ot_1.out.frozenAt 3
  have Sb20_20 := Lib.hid (own_stores [(0, .int .i64 a_leave), (1, .int .i64 a_from_), (2, .int .i64 a_to_), (3, .int .i64 a_arrive)] Ot_1.out)
  have Pb20_20 : Hid (wb20_20.ownsRow w.heap.size 54 4 (.slice (some ⟨w_a_0.heap.size, 0, none⟩) 1 1) 1 [.int .i64 a_leave, .int .i64 a_from_, .int .i64 a_to_, .int .i64 a_arrive]) := Lib.hid (by rw [← hwb20_20]; exact Sb20_20.out.1)
  have Gb20_20 : Hid (wb18_18.grownBy wb20_20 (Value.slice (some ⟨w_a_0.heap.size, 0, none⟩) 1 1).ownBlock) := Lib.hid (by rw [← hwb20_20]; exact Sb20_20.out.2)
  have HBwb20_20 := Lib.hid (HBwb18_18.out.grown Gb20_20.out HBwb18_18.out.size (fun q hq => (Ot_1.out.lt q hq).1))
  clear Sb20_20
  have ka_0_0__61 := cell_other ka_0_0__49 Gb20_20.out Dt_1_a_0.out
  have ka_0_1__62 := cell_other ka_0_1__50 Gb20_20.out Dt_1_a_0.out
  have ka_0_2__63 := cell_other ka_0_2__51 Gb20_20.out Dt_1_a_0.out
  have ka_0_3__64 := cell_other ka_0_3__52 Gb20_20.out Dt_1_a_0.out
  have kout_2_0__65 := cell_other kout_2_0__57 Gb20_20.out (Apart.symm Dout_2_t_1.out)
  have kout_2_1__66 := cell_other kout_2_1__58 Gb20_20.out (Apart.symm Dout_2_t_1.out)
  have kout_2_2__67 := cell_other kout_2_2__59 Gb20_20.out (Apart.symm Dout_2_t_1.out)
  have kout_2_3__68 := cell_other kout_2_3__60 Gb20_20.out (Apart.symm Dout_2_t_1.out)
  replace Pb18_18 := Lib.hid (own_other Pb18_18.out Gb20_20.out (Apart.symm Dout_2_t_1.out))
  clear Ot_1 Gb20_20
  have kt_1_0__69 : wb20_20.cell? ⟨w_a_0.heap.size, 0, none⟩ = some (.int .i64 a_leave) := Pb20_20.out.cells rfl 0 _ rfl
  have kt_1_1__70 : wb20_20.cell? ⟨w_a_0.heap.size, 1, none⟩ = some (.int .i64 a_from_) := Pb20_20.out.cells rfl 1 _ rfl
  have kt_1_2__71 : wb20_20.cell? ⟨w_a_0.heap.size, 2, none⟩ = some (.int .i64 a_to_) := Pb20_20.out.cells rfl 2 _ rfl
  have kt_1_3__72 : wb20_20.cell? ⟨w_a_0.heap.size, 3, none⟩ = some (.int .i64 a_arrive) := Pb20_20.out.cells rfl 3 _ rfl
  cases ret_hid H
  go_wp2_with fail
  (try simp only [Exit.inBlock, Exit.then])
  refine bodyPost_ret (v := .agg #[.int .i64 a_leave, .int .i64 a_from_, .int .i64 a_to_, .int .i64 a_arrive]) ?hr_ ?hd_ ?_
  case hd_ => rfl
  case hr_ => simp [results, Tryd.results39, kt_1_0__69, kt_1_1__70, kt_1_2__71, kt_1_3__72, go_sem]
  exact ⟨rfl, HBwb20_20.out⟩
end Go.Proofs.YtfjcibkgbalkaaaDoor.GlToMail
