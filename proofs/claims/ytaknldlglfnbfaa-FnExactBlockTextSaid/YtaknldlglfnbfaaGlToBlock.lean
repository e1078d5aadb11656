/- loop.example/g01062/laws.toBlock as a plain function, and the contract of the program's: where the plain one has an answer, the program has it. Conditions: slices read as lists. -/
import Derived.Test.YtaknldlglfnbfaaChecked
import Derived.Test.YtaknldlglfnbfaaGoM
import Derived.Test.YtaknldlglfnbfaaGoRBlock
import Derived.Test.YtaknldlglfnbfaaPBlock
import Derived.Test.YtaknldlglfnbfaaGlToStringS
import Derived.WalkKit
import Derived.WalkSpells
import Derived.WalkLawsBesides
import Derived.BigQuiet
import Derived.OwnWalk
import Derived.Deep.LoopGhost
import Derived.Deep.QuietTactic
import Derived.IntWalk
import Derived.Lib.QuietBelow
namespace Go.Proofs.Ytaknldlglfnbfaa.GlToBlock
set_option linter.unusedVariables false
set_option linter.unusedSimpArgs false
open Go.RowKit
open Go.Proofs.Ytaknldlglfnbfaa.Rowed Go.Proofs.Ytaknldlglfnbfaa.Turn Go.Proofs.Ytaknldlglfnbfaa.Aid Go.Proofs.Ytaknldlglfnbfaa.GoP Go.Proofs.Ytaknldlglfnbfaa.GoM

def P (a_rows : (List ByteArray)) : Option (Go.Proofs.Ytaknldlglfnbfaa.PBlock.Block) :=
  Option.bind (Go.Proofs.Ytaknldlglfnbfaa.GlToStringS.P a_rows) fun (t_5 : (List ByteArray)) =>
  some (Go.Proofs.Ytaknldlglfnbfaa.PBlock.Block.mk t_5)

set_option maxRecDepth 100000 in
set_option maxHeartbeats 2000000 in
theorem C (a_rows : (List ByteArray)) (A0_0 : Option Addr) (c0_0 : Nat)  (w : World) (M0_0 : Hid (Cells w 1 A0_0 a_rows.length (a_rows.map Value.string))) (N0_0 : Hid (a_rows.length ≤ 9223372036854775807))  {r_rows : (List ByteArray)} (H : Hid (P a_rows = some (Go.Proofs.Ytaknldlglfnbfaa.PBlock.Block.mk r_rows))) :
    Calls Try.prog 40 #[.agg #[.slice A0_0 a_rows.length c0_0]] w (fun e w' => ∃ A_r_rows c_r_rows, e = .returned (.agg #[.slice A_r_rows r_rows.length c_r_rows]) ∧ w'.ownsRow w.heap.size 9 1 (.slice A_r_rows r_rows.length c_r_rows) r_rows.length (r_rows.map Value.string) ∧ Below w.heap.size w w') := by
  have HB := Lib.hid (Below.refl w.heap.size w)
  unfold P at H
  have N0_0o := N0_0.out
  go_enter Try.func40, Try.ntmps40
  obtain ⟨w_a_0, hw_a_0⟩ : ∃ x, w.alloc (.cells #[.slice A0_0 a_rows.length c0_0] 53) = x := ⟨_, rfl⟩
  have bw_a_0 : Below w.heap.size w w_a_0 := by rw [← hw_a_0]; exact (Below.refl _ _).alloc (Nat.le_refl _) _
  have HBw_a_0 := Lib.hid (Below.step HB.out bw_a_0)
  clear bw_a_0
  have ka_0_0 : w_a_0.cell? ⟨w.heap.size, 0, none⟩ = some (.slice A0_0 a_rows.length c0_0) := by rw [← hw_a_0]; exact box_new _ _ _ 0 _ rfl
  obtain ⟨w_t_1, hw_t_1⟩ : ∃ x, w_a_0.alloc (.cells #[.slice none 0 0] 57) = x := ⟨_, rfl⟩
  have bw_t_1 : Below w_a_0.heap.size w_a_0 w_t_1 := by rw [← hw_t_1]; exact (Below.refl _ _).alloc (Nat.le_refl _) _
  have Dt_1_a_0 := Lib.hid (apart_box ka_0_0)
  have HBw_t_1 := Lib.hid (Below.step HBw_a_0.out bw_t_1)
  have ka_0_0__4 := cell_below bw_t_1 ka_0_0
  clear bw_t_1
  have kt_1_0 : w_t_1.cell? ⟨w_a_0.heap.size, 0, none⟩ = some (.slice none 0 0) := by rw [← hw_t_1]; exact box_new _ _ _ 0 _ rfl
  have Ot_1 : Hid (w_t_1.ownsRow w.heap.size 57 1 (.slice (some ⟨w_a_0.heap.size, 0, none⟩) 1 1) 1 [.slice none 0 0]) := Lib.hid (by rw [← hw_t_1]; exact own_laid (n := 1) HBw_a_0.out.size rfl rfl (by unfold maxLen; omega))
  obtain ⟨w_out_2, hw_out_2⟩ : ∃ x, w_t_1.alloc (.cells #[.slice none 0 0] 57) = x := ⟨_, rfl⟩
  have bw_out_2 : Below w_t_1.heap.size w_t_1 w_out_2 := by rw [← hw_out_2]; exact (Below.refl _ _).alloc (Nat.le_refl _) _
  have Dout_2_a_0 := Lib.hid (apart_box ka_0_0__4)
  have Dout_2_t_1 := Lib.hid (apart_box kt_1_0)
  have HBw_out_2 := Lib.hid (Below.step HBw_t_1.out bw_out_2)
  have ka_0_0__5 := cell_below bw_out_2 ka_0_0__4
  have kt_1_0__6 := cell_below bw_out_2 kt_1_0
  replace Ot_1 := Lib.hid (own_below Ot_1.out bw_out_2)
  clear bw_out_2
  have kout_2_0 : w_out_2.cell? ⟨w_t_1.heap.size, 0, none⟩ = some (.slice none 0 0) := by rw [← hw_out_2]; exact box_new _ _ _ 0 _ rfl
  have Oout_2 : Hid (w_out_2.ownsRow w.heap.size 57 1 (.slice (some ⟨w_t_1.heap.size, 0, none⟩) 1 1) 1 [.slice none 0 0]) := Lib.hid (by rw [← hw_out_2]; exact own_laid (n := 1) HBw_t_1.out.size rfl rfl (by unfold maxLen; omega))
  replace H := bind_hid H
  obtain ⟨t_5, qt_5, H⟩ := H
  go_wp2_with fail
  clear ka_0_0 ka_0_0__4 kt_1_0
  go_at_call 39
  refine (Go.Proofs.Ytaknldlglfnbfaa.GlToStringS.C (a_rows) A0_0 c0_0 _  (Lib.hid (Cells.below M0_0.out HBw_out_2.out)) N0_0 qt_5).mono ?_
  rintro e_t_5 wt_5 ⟨At_5, ct_5, rfl, ot_5, bt_5⟩
  have Dt_5_a_0 := Lib.hid (apart_callbox ot_5 ka_0_0__5)
  have Dt_5_t_1 := Lib.hid (apart_callbox ot_5 kt_1_0__6)
  have Dt_5_out_2 := Lib.hid (apart_callbox ot_5 kout_2_0)
  have Ot_5 := Lib.hid (own_lower ot_5 HBw_out_2.out.size)
  clear ot_5
  have HBwt_5 := Lib.hid (Below.step HBw_out_2.out bt_5)
  replace ka_0_0__5 := cell_below bt_5 ka_0_0__5
  replace kt_1_0__6 := cell_below bt_5 kt_1_0__6
  replace kout_2_0 := cell_below bt_5 kout_2_0
  replace Ot_1 := Lib.hid (own_below Ot_1.out bt_5)
  replace Oout_2 := Lib.hid (own_below Oout_2.out bt_5)
  clear bt_5
  obtain ⟨wb7_7, hwb7_7⟩ : ∃ x, (wt_5).setCell ⟨w_t_1.heap.size, 0, none⟩ (.slice At_5 t_5.length ct_5) = x := ⟨_, rfl⟩
  have z0b7_7 := Oout_2.out.frozenAt 0
  have Sb7_7 := Lib.hid (own_stores [(0, .slice At_5 t_5.length ct_5)] Oout_2.out)
  have Pb7_7 : Hid (wb7_7.ownsRow w.heap.size 57 1 (.slice (some ⟨w_t_1.heap.size, 0, none⟩) 1 1) 1 [.slice At_5 t_5.length ct_5]) := Lib.hid (by rw [← hwb7_7]; exact Sb7_7.out.1)
  have Gb7_7 : Hid (wt_5.grownBy wb7_7 (Value.slice (some ⟨w_t_1.heap.size, 0, none⟩) 1 1).ownBlock) := Lib.hid (by rw [← hwb7_7]; exact Sb7_7.out.2)
  have HBwb7_7 := Lib.hid (HBwt_5.out.grown Gb7_7.out HBwt_5.out.size (fun q hq => (Oout_2.out.lt q hq).1))
  clear Sb7_7
  have ka_0_0__7 := cell_other ka_0_0__5 Gb7_7.out Dout_2_a_0.out
  have kt_1_0__8 := cell_other kt_1_0__6 Gb7_7.out Dout_2_t_1.out
  replace Ot_1 := Lib.hid (own_other Ot_1.out Gb7_7.out Dout_2_t_1.out)
  replace Ot_5 := Lib.hid (own_other Ot_5.out Gb7_7.out (Apart.symm Dt_5_out_2.out))
  clear Oout_2 Gb7_7
  have kout_2_0__9 : wb7_7.cell? ⟨w_t_1.heap.size, 0, none⟩ = some (.slice At_5 t_5.length ct_5) := Pb7_7.out.cells rfl 0 _ rfl
  obtain ⟨wb9_9, hwb9_9⟩ : ∃ x, (wb7_7).setCell ⟨w_a_0.heap.size, 0, none⟩ (.slice At_5 t_5.length ct_5) = x := ⟨_, rfl⟩
  have z0b9_9 := Ot_1.out.frozenAt 0
  have Sb9_9 := Lib.hid (own_stores [(0, .slice At_5 t_5.length ct_5)] Ot_1.out)
  have Pb9_9 : Hid (wb9_9.ownsRow w.heap.size 57 1 (.slice (some ⟨w_a_0.heap.size, 0, none⟩) 1 1) 1 [.slice At_5 t_5.length ct_5]) := Lib.hid (by rw [← hwb9_9]; exact Sb9_9.out.1)
  have Gb9_9 : Hid (wb7_7.grownBy wb9_9 (Value.slice (some ⟨w_a_0.heap.size, 0, none⟩) 1 1).ownBlock) := Lib.hid (by rw [← hwb9_9]; exact Sb9_9.out.2)
  have HBwb9_9 := Lib.hid (HBwb7_7.out.grown Gb9_9.out HBwb7_7.out.size (fun q hq => (Ot_1.out.lt q hq).1))
  clear Sb9_9
  have ka_0_0__10 := cell_other ka_0_0__7 Gb9_9.out Dt_1_a_0.out
  have kout_2_0__11 := cell_other kout_2_0__9 Gb9_9.out (Apart.symm Dout_2_t_1.out)
  replace Pb7_7 := Lib.hid (own_other Pb7_7.out Gb9_9.out (Apart.symm Dout_2_t_1.out))
  replace Ot_5 := Lib.hid (own_other Ot_5.out Gb9_9.out (Apart.symm Dt_5_t_1.out))
  clear Ot_1 Gb9_9
  have kt_1_0__12 : wb9_9.cell? ⟨w_a_0.heap.size, 0, none⟩ = some (.slice At_5 t_5.length ct_5) := Pb9_9.out.cells rfl 0 _ rfl
  have hR_ := ret_hid H
  simp only [Go.Proofs.Ytaknldlglfnbfaa.PBlock.Block.mk.injEq] at hR_
  obtain rfl := hR_
  go_wp2_with fail
  (try simp only [Exit.inBlock, Exit.then])
  refine bodyPost_ret (v := .agg #[.slice At_5 t_5.length ct_5]) ?hr_ ?hd_ ?_
  case hd_ => rfl
  case hr_ => simp [results, Try.results40, kt_1_0__12, go_sem]
  exact ⟨At_5, ct_5, rfl, Ot_5.out, HBwb9_9.out⟩
end Go.Proofs.Ytaknldlglfnbfaa.GlToBlock
