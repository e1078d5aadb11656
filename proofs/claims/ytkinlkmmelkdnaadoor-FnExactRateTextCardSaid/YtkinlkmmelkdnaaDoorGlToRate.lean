/- loop.example/g01062/laws.toRate as a plain function, and the contract of the program's: where the plain one has an answer, the program has it. Conditions: slices read as lists. -/
import Derived.Test.YtkinlkmmelkdnaaDoorChecked
import Derived.Test.YtkinlkmmelkdnaaDoorGoM
import Derived.Test.YtkinlkmmelkdnaaDoorGoRRate
import Derived.WalkKit
import Derived.WalkSpells
import Derived.WalkLawsBesides
import Derived.BigQuiet
import Derived.OwnWalk
import Derived.Deep.LoopGhost
import Derived.Deep.QuietTactic
import Derived.IntWalk
import Derived.Lib.QuietBelow
namespace Go.Proofs.YtkinlkmmelkdnaaDoor.GlToRate
set_option linter.unusedVariables false
set_option linter.unusedSimpArgs false
open Go.RowKit
open Go.Proofs.YtkinlkmmelkdnaaDoor.Rowed Go.Proofs.YtkinlkmmelkdnaaDoor.Turn Go.Proofs.YtkinlkmmelkdnaaDoor.Aid Go.Proofs.YtkinlkmmelkdnaaDoor.GoP Go.Proofs.YtkinlkmmelkdnaaDoor.GoM

def P (a : Go.Proofs.YtkinlkmmelkdnaaDoor.PRate.Rate) : Option (Go.Proofs.YtkinlkmmelkdnaaDoor.PRate.Rate) :=
  unRate a fun (a_zone : Int) (a_grams : Int) (a_from_ : Int) (a_until_ : Int) (a_cents : Int) =>
  some (Go.Proofs.YtkinlkmmelkdnaaDoor.PRate.Rate.mk a_zone a_grams a_from_ a_until_ a_cents)

set_option maxRecDepth 100000 in
set_option maxHeartbeats 2000000 in
theorem C (a : Go.Proofs.YtkinlkmmelkdnaaDoor.PRate.Rate)   (w : World)   {r : Go.Proofs.YtkinlkmmelkdnaaDoor.PRate.Rate} (H : Hid (P a = some r)) :
    Calls Tryd.prog 7 #[a.val] w (Gives ((Go.Proofs.YtkinlkmmelkdnaaDoor.PRate.Rate.val r)) w) := by
  have HB := Lib.hid (Below.refl w.heap.size w)
  unfold P at H
  obtain ⟨a_zone, a_grams, a_from_, a_until_, a_cents⟩ := a
  replace H := unRate_hid H
  unfold Go.Proofs.YtkinlkmmelkdnaaDoor.PRate.Rate.val
  go_enter Tryd.func7, Tryd.ntmps7
  obtain ⟨w_a_0, hw_a_0⟩ : ∃ x, w.alloc (.cells #[.int .i64 a_zone, .int .i64 a_grams, .int .i64 a_from_, .int .i64 a_until_, .int .i64 a_cents] 23) = x := ⟨_, rfl⟩
  have bw_a_0 : Below w.heap.size w w_a_0 := by rw [← hw_a_0]; exact (Below.refl _ _).alloc (Nat.le_refl _) _
  have HBw_a_0 := Lib.hid (Below.step HB.out bw_a_0)
  clear bw_a_0
  have ka_0_0 : w_a_0.cell? ⟨w.heap.size, 0, none⟩ = some (.int .i64 a_zone) := by rw [← hw_a_0]; exact box_new _ _ _ 0 _ rfl
  have ka_0_1 : w_a_0.cell? ⟨w.heap.size, 1, none⟩ = some (.int .i64 a_grams) := by rw [← hw_a_0]; exact box_new _ _ _ 1 _ rfl
  have ka_0_2 : w_a_0.cell? ⟨w.heap.size, 2, none⟩ = some (.int .i64 a_from_) := by rw [← hw_a_0]; exact box_new _ _ _ 2 _ rfl
  have ka_0_3 : w_a_0.cell? ⟨w.heap.size, 3, none⟩ = some (.int .i64 a_until_) := by rw [← hw_a_0]; exact box_new _ _ _ 3 _ rfl
  have ka_0_4 : w_a_0.cell? ⟨w.heap.size, 4, none⟩ = some (.int .i64 a_cents) := by rw [← hw_a_0]; exact box_new _ _ _ 4 _ rfl
  obtain ⟨w_t_1, hw_t_1⟩ : ∃ x, w_a_0.alloc (.cells #[.int .i64 0, .int .i64 0, .int .i64 0, .int .i64 0, .int .i64 0] 26) = x := ⟨_, rfl⟩
  have bw_t_1 : Below w_a_0.heap.size w_a_0 w_t_1 := by rw [← hw_t_1]; exact (Below.refl _ _).alloc (Nat.le_refl _) _
  have Dt_1_a_0 := Lib.hid (apart_box ka_0_0)
  have HBw_t_1 := Lib.hid (Below.step HBw_a_0.out bw_t_1)
  have ka_0_0__1 := cell_below bw_t_1 ka_0_0
  have ka_0_1__2 := cell_below bw_t_1 ka_0_1
  have ka_0_2__3 := cell_below bw_t_1 ka_0_2
  have ka_0_3__4 := cell_below bw_t_1 ka_0_3
  have ka_0_4__5 := cell_below bw_t_1 ka_0_4
  clear bw_t_1
  have kt_1_0 : w_t_1.cell? ⟨w_a_0.heap.size, 0, none⟩ = some (.int .i64 0) := by rw [← hw_t_1]; exact box_new _ _ _ 0 _ rfl
  have kt_1_1 : w_t_1.cell? ⟨w_a_0.heap.size, 1, none⟩ = some (.int .i64 0) := by rw [← hw_t_1]; exact box_new _ _ _ 1 _ rfl
  have kt_1_2 : w_t_1.cell? ⟨w_a_0.heap.size, 2, none⟩ = some (.int .i64 0) := by rw [← hw_t_1]; exact box_new _ _ _ 2 _ rfl
  have kt_1_3 : w_t_1.cell? ⟨w_a_0.heap.size, 3, none⟩ = some (.int .i64 0) := by rw [← hw_t_1]; exact box_new _ _ _ 3 _ rfl
  have kt_1_4 : w_t_1.cell? ⟨w_a_0.heap.size, 4, none⟩ = some (.int .i64 0) := by rw [← hw_t_1]; exact box_new _ _ _ 4 _ rfl
  have Ot_1 : Hid (w_t_1.ownsRow w.heap.size 26 5 (.slice (some ⟨w_a_0.heap.size, 0, none⟩) 1 1) 1 [.int .i64 0, .int .i64 0, .int .i64 0, .int .i64 0, .int .i64 0]) := Lib.hid (by rw [← hw_t_1]; exact own_laid (n := 1) HBw_a_0.out.size rfl rfl (by unfold maxLen; omega))
  obtain ⟨w_out_2, hw_out_2⟩ : ∃ x, w_t_1.alloc (.cells #[.int .i64 0, .int .i64 0, .int .i64 0, .int .i64 0, .int .i64 0] 26) = x := ⟨_, rfl⟩
  have bw_out_2 : Below w_t_1.heap.size w_t_1 w_out_2 := by rw [← hw_out_2]; exact (Below.refl _ _).alloc (Nat.le_refl _) _
  have Dout_2_a_0 := Lib.hid (apart_box ka_0_0__1)
  have Dout_2_t_1 := Lib.hid (apart_box kt_1_0)
  have HBw_out_2 := Lib.hid (Below.step HBw_t_1.out bw_out_2)
  have ka_0_0__6 := cell_below bw_out_2 ka_0_0__1
  have ka_0_1__7 := cell_below bw_out_2 ka_0_1__2
  have ka_0_2__8 := cell_below bw_out_2 ka_0_2__3
  have ka_0_3__9 := cell_below bw_out_2 ka_0_3__4
  have ka_0_4__10 := cell_below bw_out_2 ka_0_4__5
  have kt_1_0__11 := cell_below bw_out_2 kt_1_0
  have kt_1_1__12 := cell_below bw_out_2 kt_1_1
  have kt_1_2__13 := cell_below bw_out_2 kt_1_2
  have kt_1_3__14 := cell_below bw_out_2 kt_1_3
  have kt_1_4__15 := cell_below bw_out_2 kt_1_4
  replace Ot_1 := Lib.hid (own_below Ot_1.out bw_out_2)
  clear bw_out_2
  have kout_2_0 : w_out_2.cell? ⟨w_t_1.heap.size, 0, none⟩ = some (.int .i64 0) := by rw [← hw_out_2]; exact box_new _ _ _ 0 _ rfl
  have kout_2_1 : w_out_2.cell? ⟨w_t_1.heap.size, 1, none⟩ = some (.int .i64 0) := by rw [← hw_out_2]; exact box_new _ _ _ 1 _ rfl
  have kout_2_2 : w_out_2.cell? ⟨w_t_1.heap.size, 2, none⟩ = some (.int .i64 0) := by rw [← hw_out_2]; exact box_new _ _ _ 2 _ rfl
  have kout_2_3 : w_out_2.cell? ⟨w_t_1.heap.size, 3, none⟩ = some (.int .i64 0) := by rw [← hw_out_2]; exact box_new _ _ _ 3 _ rfl
  have kout_2_4 : w_out_2.cell? ⟨w_t_1.heap.size, 4, none⟩ = some (.int .i64 0) := by rw [← hw_out_2]; exact box_new _ _ _ 4 _ rfl
  have Oout_2 : Hid (w_out_2.ownsRow w.heap.size 26 5 (.slice (some ⟨w_t_1.heap.size, 0, none⟩) 1 1) 1 [.int .i64 0, .int .i64 0, .int .i64 0, .int .i64 0, .int .i64 0]) := Lib.hid (by rw [← hw_out_2]; exact own_laid (n := 1) HBw_t_1.out.size rfl rfl (by unfold maxLen; omega))
  obtain ⟨wb6_6, hwb6_6⟩ : ∃ x, (w_out_2).setCell ⟨w_t_1.heap.size, 0, none⟩ (.int .i64 a_zone) = x := ⟨_, rfl⟩
  have z0b6_6 := Oout_2.out.frozenAt 0
  have Sb6_6 := Lib.hid (own_stores [(0, .int .i64 a_zone)] Oout_2.out)
  have Pb6_6 : Hid (wb6_6.ownsRow w.heap.size 26 5 (.slice (some ⟨w_t_1.heap.size, 0, none⟩) 1 1) 1 [.int .i64 a_zone, .int .i64 0, .int .i64 0, .int .i64 0, .int .i64 0]) := Lib.hid (by rw [← hwb6_6]; exact Sb6_6.out.1)
  have Gb6_6 : Hid (w_out_2.grownBy wb6_6 (Value.slice (some ⟨w_t_1.heap.size, 0, none⟩) 1 1).ownBlock) := Lib.hid (by rw [← hwb6_6]; exact Sb6_6.out.2)
  have HBwb6_6 := Lib.hid (HBw_out_2.out.grown Gb6_6.out HBw_out_2.out.size (fun q hq => (Oout_2.out.lt q hq).1))
  clear Sb6_6
  have ka_0_0__16 := cell_other ka_0_0__6 Gb6_6.out Dout_2_a_0.out
  have ka_0_1__17 := cell_other ka_0_1__7 Gb6_6.out Dout_2_a_0.out
  have ka_0_2__18 := cell_other ka_0_2__8 Gb6_6.out Dout_2_a_0.out
  have ka_0_3__19 := cell_other ka_0_3__9 Gb6_6.out Dout_2_a_0.out
  have ka_0_4__20 := cell_other ka_0_4__10 Gb6_6.out Dout_2_a_0.out
  have kt_1_0__21 := cell_other kt_1_0__11 Gb6_6.out Dout_2_t_1.out
  have kt_1_1__22 := cell_other kt_1_1__12 Gb6_6.out Dout_2_t_1.out
  have kt_1_2__23 := cell_other kt_1_2__13 Gb6_6.out Dout_2_t_1.out
  have kt_1_3__24 := cell_other kt_1_3__14 Gb6_6.out Dout_2_t_1.out
  have kt_1_4__25 := cell_other kt_1_4__15 Gb6_6.out Dout_2_t_1.out
  replace Ot_1 := Lib.hid (own_other Ot_1.out Gb6_6.out Dout_2_t_1.out)
  clear Oout_2 Gb6_6
  have kout_2_0__26 : wb6_6.cell? ⟨w_t_1.heap.size, 0, none⟩ = some (.int .i64 a_zone) := Pb6_6.out.cells rfl 0 _ rfl
  have kout_2_1__27 : wb6_6.cell? ⟨w_t_1.heap.size, 1, none⟩ = some (.int .i64 0) := Pb6_6.out.cells rfl 1 _ rfl
  have kout_2_2__28 : wb6_6.cell? ⟨w_t_1.heap.size, 2, none⟩ = some (.int .i64 0) := Pb6_6.out.cells rfl 2 _ rfl
  have kout_2_3__29 : wb6_6.cell? ⟨w_t_1.heap.size, 3, none⟩ = some (.int .i64 0) := Pb6_6.out.cells rfl 3 _ rfl
  have kout_2_4__30 : wb6_6.cell? ⟨w_t_1.heap.size, 4, none⟩ = some (.int .i64 0) := Pb6_6.out.cells rfl 4 _ rfl
  obtain ⟨wb10_10, hwb10_10⟩ : ∃ x, (wb6_6).setCell ⟨w_t_1.heap.size, 1, none⟩ (.int .i64 a_grams) = x := ⟨_, rfl⟩
  have z0b10_10 := Pb6_6.out.frozenAt 1
  have Sb10_10 := Lib.hid (own_stores [(1, .int .i64 a_grams)] Pb6_6.out)
  have Pb10_10 : Hid (wb10_10.ownsRow w.heap.size 26 5 (.slice (some ⟨w_t_1.heap.size, 0, none⟩) 1 1) 1 [.int .i64 a_zone, .int .i64 a_grams, .int .i64 0, .int .i64 0, .int .i64 0]) := Lib.hid (by rw [← hwb10_10]; exact Sb10_10.out.1)
  have Gb10_10 : Hid (wb6_6.grownBy wb10_10 (Value.slice (some ⟨w_t_1.heap.size, 0, none⟩) 1 1).ownBlock) := Lib.hid (by rw [← hwb10_10]; exact Sb10_10.out.2)
  have HBwb10_10 := Lib.hid (HBwb6_6.out.grown Gb10_10.out HBwb6_6.out.size (fun q hq => (Pb6_6.out.lt q hq).1))
  clear Sb10_10
  have ka_0_0__31 := cell_other ka_0_0__16 Gb10_10.out Dout_2_a_0.out
  have ka_0_1__32 := cell_other ka_0_1__17 Gb10_10.out Dout_2_a_0.out
  have ka_0_2__33 := cell_other ka_0_2__18 Gb10_10.out Dout_2_a_0.out
  have ka_0_3__34 := cell_other ka_0_3__19 Gb10_10.out Dout_2_a_0.out
  have ka_0_4__35 := cell_other ka_0_4__20 Gb10_10.out Dout_2_a_0.out
  have kt_1_0__36 := cell_other kt_1_0__21 Gb10_10.out Dout_2_t_1.out
  have kt_1_1__37 := cell_other kt_1_1__22 Gb10_10.out Dout_2_t_1.out
  have kt_1_2__38 := cell_other kt_1_2__23 Gb10_10.out Dout_2_t_1.out
  have kt_1_3__39 := cell_other kt_1_3__24 Gb10_10.out Dout_2_t_1.out
  have kt_1_4__40 := cell_other kt_1_4__25 Gb10_10.out Dout_2_t_1.out
  replace Ot_1 := Lib.hid (own_other Ot_1.out Gb10_10.out Dout_2_t_1.out)
  clear Pb6_6 Gb10_10
  have kout_2_0__41 : wb10_10.cell? ⟨w_t_1.heap.size, 0, none⟩ = some (.int .i64 a_zone) := Pb10_10.out.cells rfl 0 _ rfl
  have kout_2_1__42 : wb10_10.cell? ⟨w_t_1.heap.size, 1, none⟩ = some (.int .i64 a_grams) := Pb10_10.out.cells rfl 1 _ rfl
  have kout_2_2__43 : wb10_10.cell? ⟨w_t_1.heap.size, 2, none⟩ = some (.int .i64 0) := Pb10_10.out.cells rfl 2 _ rfl
  have kout_2_3__44 : wb10_10.cell? ⟨w_t_1.heap.size, 3, none⟩ = some (.int .i64 0) := Pb10_10.out.cells rfl 3 _ rfl
  have kout_2_4__45 : wb10_10.cell? ⟨w_t_1.heap.size, 4, none⟩ = some (.int .i64 0) := Pb10_10.out.cells rfl 4 _ rfl
  obtain ⟨wb14_14, hwb14_14⟩ : ∃ x, (wb10_10).setCell ⟨w_t_1.heap.size, 2, none⟩ (.int .i64 a_from_) = x := ⟨_, rfl⟩
  have z0b14_14 := Pb10_10.out.frozenAt 2
  have Sb14_14 := Lib.hid (own_stores [(2, .int .i64 a_from_)] Pb10_10.out)
  have Pb14_14 : Hid (wb14_14.ownsRow w.heap.size 26 5 (.slice (some ⟨w_t_1.heap.size, 0, none⟩) 1 1) 1 [.int .i64 a_zone, .int .i64 a_grams, .int .i64 a_from_, .int .i64 0, .int .i64 0]) := Lib.hid (by rw [← hwb14_14]; exact Sb14_14.out.1)
  have Gb14_14 : Hid (wb10_10.grownBy wb14_14 (Value.slice (some ⟨w_t_1.heap.size, 0, none⟩) 1 1).ownBlock) := Lib.hid (by rw [← hwb14_14]; exact Sb14_14.out.2)
  have HBwb14_14 := Lib.hid (HBwb10_10.out.grown Gb14_14.out HBwb10_10.out.size (fun q hq => (Pb10_10.out.lt q hq).1))
  clear Sb14_14
  have ka_0_0__46 := cell_other ka_0_0__31 Gb14_14.out Dout_2_a_0.out
  have ka_0_1__47 := cell_other ka_0_1__32 Gb14_14.out Dout_2_a_0.out
  have ka_0_2__48 := cell_other ka_0_2__33 Gb14_14.out Dout_2_a_0.out
  have ka_0_3__49 := cell_other ka_0_3__34 Gb14_14.out Dout_2_a_0.out
  have ka_0_4__50 := cell_other ka_0_4__35 Gb14_14.out Dout_2_a_0.out
  have kt_1_0__51 := cell_other kt_1_0__36 Gb14_14.out Dout_2_t_1.out
  have kt_1_1__52 := cell_other kt_1_1__37 Gb14_14.out Dout_2_t_1.out
  have kt_1_2__53 := cell_other kt_1_2__38 Gb14_14.out Dout_2_t_1.out
  have kt_1_3__54 := cell_other kt_1_3__39 Gb14_14.out Dout_2_t_1.out
  have kt_1_4__55 := cell_other kt_1_4__40 Gb14_14.out Dout_2_t_1.out
  replace Ot_1 := Lib.hid (own_other Ot_1.out Gb14_14.out Dout_2_t_1.out)
  clear Pb10_10 Gb14_14
  have kout_2_0__56 : wb14_14.cell? ⟨w_t_1.heap.size, 0, none⟩ = some (.int .i64 a_zone) := Pb14_14.out.cells rfl 0 _ rfl
  have kout_2_1__57 : wb14_14.cell? ⟨w_t_1.heap.size, 1, none⟩ = some (.int .i64 a_grams) := Pb14_14.out.cells rfl 1 _ rfl
  have kout_2_2__58 : wb14_14.cell? ⟨w_t_1.heap.size, 2, none⟩ = some (.int .i64 a_from_) := Pb14_14.out.cells rfl 2 _ rfl
  have kout_2_3__59 : wb14_14.cell? ⟨w_t_1.heap.size, 3, none⟩ = some (.int .i64 0) := Pb14_14.out.cells rfl 3 _ rfl
  have kout_2_4__60 : wb14_14.cell? ⟨w_t_1.heap.size, 4, none⟩ = some (.int .i64 0) := Pb14_14.out.cells rfl 4 _ rfl
  obtain ⟨wb18_18, hwb18_18⟩ : ∃ x, (wb14_14).setCell ⟨w_t_1.heap.size, 3, none⟩ (.int .i64 a_until_) = x := ⟨_, rfl⟩
  have z0b18_18 := Pb14_14.out.frozenAt 3
  have Sb18_18 := Lib.hid (own_stores [(3, .int .i64 a_until_)] Pb14_14.out)
  have Pb18_18 : Hid (wb18_18.ownsRow w.heap.size 26 5 (.slice (some ⟨w_t_1.heap.size, 0, none⟩) 1 1) 1 [.int .i64 a_zone, .int .i64 a_grams, .int .i64 a_from_, .int .i64 a_until_, .int .i64 0]) := Lib.hid (by rw [← hwb18_18]; exact Sb18_18.out.1)
  have Gb18_18 : Hid (wb14_14.grownBy wb18_18 (Value.slice (some ⟨w_t_1.heap.size, 0, none⟩) 1 1).ownBlock) := Lib.hid (by rw [← hwb18_18]; exact Sb18_18.out.2)
  have HBwb18_18 := Lib.hid (HBwb14_14.out.grown Gb18_18.out HBwb14_14.out.size (fun q hq => (Pb14_14.out.lt q hq).1))
  clear Sb18_18
  have ka_0_0__61 := cell_other ka_0_0__46 Gb18_18.out Dout_2_a_0.out
  have ka_0_1__62 := cell_other ka_0_1__47 Gb18_18.out Dout_2_a_0.out
  have ka_0_2__63 := cell_other ka_0_2__48 Gb18_18.out Dout_2_a_0.out
  have ka_0_3__64 := cell_other ka_0_3__49 Gb18_18.out Dout_2_a_0.out
  have ka_0_4__65 := cell_other ka_0_4__50 Gb18_18.out Dout_2_a_0.out
  have kt_1_0__66 := cell_other kt_1_0__51 Gb18_18.out Dout_2_t_1.out
  have kt_1_1__67 := cell_other kt_1_1__52 Gb18_18.out Dout_2_t_1.out
  have kt_1_2__68 := cell_other kt_1_2__53 Gb18_18.out Dout_2_t_1.out
  have kt_1_3__69 := cell_other kt_1_3__54 Gb18_18.out Dout_2_t_1.out
  have kt_1_4__70 := cell_other kt_1_4__55 Gb18_18.out Dout_2_t_1.out
  replace Ot_1 := Lib.hid (own_other Ot_1.out Gb18_18.out Dout_2_t_1.out)
  clear Pb14_14 Gb18_18
  have kout_2_0__71 : wb18_18.cell? ⟨w_t_1.heap.size, 0, none⟩ = some (.int .i64 a_zone) := Pb18_18.out.cells rfl 0 _ rfl
  have kout_2_1__72 : wb18_18.cell? ⟨w_t_1.heap.size, 1, none⟩ = some (.int .i64 a_grams) := Pb18_18.out.cells rfl 1 _ rfl
  have kout_2_2__73 : wb18_18.cell? ⟨w_t_1.heap.size, 2, none⟩ = some (.int .i64 a_from_) := Pb18_18.out.cells rfl 2 _ rfl
  have kout_2_3__74 : wb18_18.cell? ⟨w_t_1.heap.size, 3, none⟩ = some (.int .i64 a_until_) := Pb18_18.out.cells rfl 3 _ rfl
  have kout_2_4__75 : wb18_18.cell? ⟨w_t_1.heap.size, 4, none⟩ = some (.int .i64 0) := Pb18_18.out.cells rfl 4 _ rfl
  obtain ⟨wb22_22, hwb22_22⟩ : ∃ x, (wb18_18).setCell ⟨w_t_1.heap.size, 4, none⟩ (.int .i64 a_cents) = x := ⟨_, rfl⟩
  have z0b22_22 := Pb18_18.out.frozenAt 4
  have Sb22_22 := Lib.hid (own_stores [(4, .int .i64 a_cents)] Pb18_18.out)
  have Pb22_22 : Hid (wb22_22.ownsRow w.heap.size 26 5 (.slice (some ⟨w_t_1.heap.size, 0, none⟩) 1 1) 1 [.int .i64 a_zone, .int .i64 a_grams, .int .i64 a_from_, .int .i64 a_until_, .int .i64 a_cents]) := Lib.hid (by rw [← hwb22_22]; exact Sb22_22.out.1)
  have Gb22_22 : Hid (wb18_18.grownBy wb22_22 (Value.slice (some ⟨w_t_1.heap.size, 0, none⟩) 1 1).ownBlock) := Lib.hid (by rw [← hwb22_22]; exact Sb22_22.out.2)
  have HBwb22_22 := Lib.hid (HBwb18_18.out.grown Gb22_22.out HBwb18_18.out.size (fun q hq => (Pb18_18.out.lt q hq).1))
  clear Sb22_22
  have ka_0_0__76 := cell_other ka_0_0__61 Gb22_22.out Dout_2_a_0.out
  have ka_0_1__77 := cell_other ka_0_1__62 Gb22_22.out Dout_2_a_0.out
  have ka_0_2__78 := cell_other ka_0_2__63 Gb22_22.out Dout_2_a_0.out
  have ka_0_3__79 := cell_other ka_0_3__64 Gb22_22.out Dout_2_a_0.out
  have ka_0_4__80 := cell_other ka_0_4__65 Gb22_22.out Dout_2_a_0.out
  have kt_1_0__81 := cell_other kt_1_0__66 Gb22_22.out Dout_2_t_1.out
  have kt_1_1__82 := cell_other kt_1_1__67 Gb22_22.out Dout_2_t_1.out
  have kt_1_2__83 := cell_other kt_1_2__68 Gb22_22.out Dout_2_t_1.out
  have kt_1_3__84 := cell_other kt_1_3__69 Gb22_22.out Dout_2_t_1.out
  have kt_1_4__85 := cell_other kt_1_4__70 Gb22_22.out Dout_2_t_1.out
  replace Ot_1 := Lib.hid (own_other Ot_1.out Gb22_22.out Dout_2_t_1.out)
  clear Pb18_18 Gb22_22
  have kout_2_0__86 : wb22_22.cell? ⟨w_t_1.heap.size, 0, none⟩ = some (.int .i64 a_zone) := Pb22_22.out.cells rfl 0 _ rfl
  have kout_2_1__87 : wb22_22.cell? ⟨w_t_1.heap.size, 1, none⟩ = some (.int .i64 a_grams) := Pb22_22.out.cells rfl 1 _ rfl
  have kout_2_2__88 : wb22_22.cell? ⟨w_t_1.heap.size, 2, none⟩ = some (.int .i64 a_from_) := Pb22_22.out.cells rfl 2 _ rfl
  have kout_2_3__89 : wb22_22.cell? ⟨w_t_1.heap.size, 3, none⟩ = some (.int .i64 a_until_) := Pb22_22.out.cells rfl 3 _ rfl
  have kout_2_4__90 : wb22_22.cell? ⟨w_t_1.heap.size, 4, none⟩ = some (.int .i64 a_cents) := Pb22_22.out.cells rfl 4 _ rfl
  obtain ⟨wb24_24, hwb24_24⟩ : ∃ x, (((((wb22_22).setCell ⟨w_a_0.heap.size, 0, none⟩ (.int .i64 a_zone)).setCell ⟨w_a_0.heap.size, 1, none⟩ (.int .i64 a_grams)).setCell ⟨w_a_0.heap.size, 2, none⟩ (.int .i64 a_from_)).setCell ⟨w_a_0.heap.size, 3, none⟩ (.int .i64 a_until_)).setCell ⟨w_a_0.heap.size, 4, none⟩ (.int .i64 a_cents) = x := ⟨_, rfl⟩
  have z0b24_24 := Ot_1.out.frozenAt 0
  have z1b24_24 := Ot_1.out.frozenAt 1
  have z2b24_24 := Ot_1.out.frozenAt 2
  have z3b24_24 := Ot_1.out.frozenAt 3
  have z4b24_24 := Ot_1.out.frozenAt 4
  have Sb24_24 := Lib.hid (own_stores [(0, .int .i64 a_zone), (1, .int .i64 a_grams), (2, .int .i64 a_from_), (3, .int .i64 a_until_), (4, .int .i64 a_cents)] Ot_1.out)
  have Pb24_24 : Hid (wb24_24.ownsRow w.heap.size 26 5 (.slice (some ⟨w_a_0.heap.size, 0, none⟩) 1 1) 1 [.int .i64 a_zone, .int .i64 a_grams, .int .i64 a_from_, .int .i64 a_until_, .int .i64 a_cents]) := Lib.hid (by rw [← hwb24_24]; exact Sb24_24.out.1)
  have Gb24_24 : Hid (wb22_22.grownBy wb24_24 (Value.slice (some ⟨w_a_0.heap.size, 0, none⟩) 1 1).ownBlock) := Lib.hid (by rw [← hwb24_24]; exact Sb24_24.out.2)
  have HBwb24_24 := Lib.hid (HBwb22_22.out.grown Gb24_24.out HBwb22_22.out.size (fun q hq => (Ot_1.out.lt q hq).1))
  clear Sb24_24
  have ka_0_0__91 := cell_other ka_0_0__76 Gb24_24.out Dt_1_a_0.out
  have ka_0_1__92 := cell_other ka_0_1__77 Gb24_24.out Dt_1_a_0.out
  have ka_0_2__93 := cell_other ka_0_2__78 Gb24_24.out Dt_1_a_0.out
  have ka_0_3__94 := cell_other ka_0_3__79 Gb24_24.out Dt_1_a_0.out
  have ka_0_4__95 := cell_other ka_0_4__80 Gb24_24.out Dt_1_a_0.out
  have kout_2_0__96 := cell_other kout_2_0__86 Gb24_24.out (Apart.symm Dout_2_t_1.out)
  have kout_2_1__97 := cell_other kout_2_1__87 Gb24_24.out (Apart.symm Dout_2_t_1.out)
  have kout_2_2__98 := cell_other kout_2_2__88 Gb24_24.out (Apart.symm Dout_2_t_1.out)
  have kout_2_3__99 := cell_other kout_2_3__89 Gb24_24.out (Apart.symm Dout_2_t_1.out)
  have kout_2_4__100 := cell_other kout_2_4__90 Gb24_24.out (Apart.symm Dout_2_t_1.out)
  replace Pb22_22 := Lib.hid (own_other Pb22_22.out Gb24_24.out (Apart.symm Dout_2_t_1.out))
  clear Ot_1 Gb24_24
  have kt_1_0__101 : wb24_24.cell? ⟨w_a_0.heap.size, 0, none⟩ = some (.int .i64 a_zone) := Pb24_24.out.cells rfl 0 _ rfl
  have kt_1_1__102 : wb24_24.cell? ⟨w_a_0.heap.size, 1, none⟩ = some (.int .i64 a_grams) := Pb24_24.out.cells rfl 1 _ rfl
  have kt_1_2__103 : wb24_24.cell? ⟨w_a_0.heap.size, 2, none⟩ = some (.int .i64 a_from_) := Pb24_24.out.cells rfl 2 _ rfl
  have kt_1_3__104 : wb24_24.cell? ⟨w_a_0.heap.size, 3, none⟩ = some (.int .i64 a_until_) := Pb24_24.out.cells rfl 3 _ rfl
  have kt_1_4__105 : wb24_24.cell? ⟨w_a_0.heap.size, 4, none⟩ = some (.int .i64 a_cents) := Pb24_24.out.cells rfl 4 _ rfl
  cases ret_hid H
  go_wp2_with fail
  (try simp only [Exit.inBlock, Exit.then])
  refine bodyPost_ret (v := .agg #[.int .i64 a_zone, .int .i64 a_grams, .int .i64 a_from_, .int .i64 a_until_, .int .i64 a_cents]) ?hr_ ?hd_ ?_
  case hd_ => rfl
  case hr_ => simp [results, Tryd.results7, kt_1_0__101, kt_1_1__102, kt_1_2__103, kt_1_3__104, kt_1_4__105, go_sem]
  exact ⟨rfl, HBwb24_24.out⟩
end Go.Proofs.YtkinlkmmelkdnaaDoor.GlToRate
