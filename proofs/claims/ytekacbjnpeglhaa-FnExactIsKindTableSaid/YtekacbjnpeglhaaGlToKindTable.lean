/- loop.example/g01062/laws.toKindTable as a plain function, and the contract of the program's: where the plain one has an answer, the program has it. Conditions: slices read as lists. -/
import Derived.Test.YtekacbjnpeglhaaChecked
import Derived.Test.YtekacbjnpeglhaaGoM
import Derived.Test.YtekacbjnpeglhaaGoRBan
import Derived.Test.YtekacbjnpeglhaaGoRKindTable
import Derived.Test.YtekacbjnpeglhaaHelpInt
import Derived.Test.YtekacbjnpeglhaaPKindTable
import Derived.Test.YtekacbjnpeglhaaGlToIntS
import Derived.Test.YtekacbjnpeglhaaGlToBanS
import Derived.WalkKit
import Derived.WalkSpells
import Derived.WalkLawsBesides
import Derived.BigQuiet
import Derived.OwnWalk
import Derived.Deep.LoopGhost
import Derived.Deep.QuietTactic
import Derived.IntWalk
import Derived.Lib.QuietBelow
namespace Go.Proofs.Ytekacbjnpeglhaa.GlToKindTable
set_option linter.unusedVariables false
set_option linter.unusedSimpArgs false
open Go.RowKit
open Go.Proofs.Ytekacbjnpeglhaa.Rowed Go.Proofs.Ytekacbjnpeglhaa.Turn Go.Proofs.Ytekacbjnpeglhaa.Aid Go.Proofs.Ytekacbjnpeglhaa.GoP Go.Proofs.Ytekacbjnpeglhaa.GoM

def P (a_sizes : (List Int)) (a_bans : (List Go.Proofs.Ytekacbjnpeglhaa.PBan.Ban)) : Option (Go.Proofs.Ytekacbjnpeglhaa.PKindTable.KindTable) :=
  Option.bind (Go.Proofs.Ytekacbjnpeglhaa.GlToIntS.P a_sizes) fun (t_5 : (List Int)) =>
  Option.bind (Go.Proofs.Ytekacbjnpeglhaa.GlToBanS.P a_bans) fun (t_10 : (List Go.Proofs.Ytekacbjnpeglhaa.PBan.Ban)) =>
  some (Go.Proofs.Ytekacbjnpeglhaa.PKindTable.KindTable.mk t_5 t_10)

set_option maxRecDepth 100000 in
set_option maxHeartbeats 2000000 in
theorem C (a_sizes : (List Int)) (a_bans : (List Go.Proofs.Ytekacbjnpeglhaa.PBan.Ban)) (A0_0 : Option Addr) (c0_0 : Nat) (A0_1 : Option Addr) (c0_1 : Nat)  (w : World) (M0_0 : Hid (Cells w 1 A0_0 a_sizes.length (Go.Proofs.Ytekacbjnpeglhaa.HelpInt.iv a_sizes))) (N0_0 : Hid (a_sizes.length ≤ 9223372036854775807)) (M0_1 : Hid (Cells w 4 A0_1 a_bans.length (Go.Proofs.Ytekacbjnpeglhaa.PBan.flat a_bans))) (N0_1 : Hid (a_bans.length ≤ 9223372036854775807))  {r_sizes : (List Int)} {r_bans : (List Go.Proofs.Ytekacbjnpeglhaa.PBan.Ban)} (H : Hid (P a_sizes a_bans = some (Go.Proofs.Ytekacbjnpeglhaa.PKindTable.KindTable.mk r_sizes r_bans))) :
    Calls Try.prog 15 #[.agg #[.slice A0_0 a_sizes.length c0_0, .slice A0_1 a_bans.length c0_1]] w (fun e w' => ∃ A_r_sizes c_r_sizes A_r_bans c_r_bans, e = .returned (.agg #[.slice A_r_sizes r_sizes.length c_r_sizes, .slice A_r_bans r_bans.length c_r_bans]) ∧ w'.ownsRow w.heap.size 3 1 (.slice A_r_sizes r_sizes.length c_r_sizes) r_sizes.length (Go.Proofs.Ytekacbjnpeglhaa.HelpInt.iv r_sizes) ∧ w'.ownsRow w.heap.size 57 4 (.slice A_r_bans r_bans.length c_r_bans) r_bans.length (Go.Proofs.Ytekacbjnpeglhaa.PBan.flat r_bans) ∧ Apart A_r_sizes A_r_bans ∧ Below w.heap.size w w') := by
  have HB := Lib.hid (Below.refl w.heap.size w)
  unfold P at H
  have N0_0o := N0_0.out
  have N0_1o := N0_1.out
  go_enter Try.func15, Try.ntmps15
  obtain ⟨w_a_0, hw_a_0⟩ : ∃ x, w.alloc (.cells #[.slice A0_0 a_sizes.length c0_0, .slice A0_1 a_bans.length c0_1] 25) = x := ⟨_, rfl⟩
  have bw_a_0 : Below w.heap.size w w_a_0 := by rw [← hw_a_0]; exact (Below.refl _ _).alloc (Nat.le_refl _) _
  have HBw_a_0 := Lib.hid (Below.step HB.out bw_a_0)
  clear bw_a_0
  have ka_0_0 : w_a_0.cell? ⟨w.heap.size, 0, none⟩ = some (.slice A0_0 a_sizes.length c0_0) := by rw [← hw_a_0]; exact box_new _ _ _ 0 _ rfl
  have ka_0_1 : w_a_0.cell? ⟨w.heap.size, 1, none⟩ = some (.slice A0_1 a_bans.length c0_1) := by rw [← hw_a_0]; exact box_new _ _ _ 1 _ rfl
  obtain ⟨w_t_1, hw_t_1⟩ : ∃ x, w_a_0.alloc (.cells #[.slice none 0 0, .slice none 0 0] 30) = x := ⟨_, rfl⟩
  have bw_t_1 : Below w_a_0.heap.size w_a_0 w_t_1 := by rw [← hw_t_1]; exact (Below.refl _ _).alloc (Nat.le_refl _) _
  have Dt_1_a_0 := Lib.hid (apart_box ka_0_0)
  have HBw_t_1 := Lib.hid (Below.step HBw_a_0.out bw_t_1)
  have ka_0_0__78 := cell_below bw_t_1 ka_0_0
  have ka_0_1__79 := cell_below bw_t_1 ka_0_1
  clear bw_t_1
  have kt_1_0 : w_t_1.cell? ⟨w_a_0.heap.size, 0, none⟩ = some (.slice none 0 0) := by rw [← hw_t_1]; exact box_new _ _ _ 0 _ rfl
  have kt_1_1 : w_t_1.cell? ⟨w_a_0.heap.size, 1, none⟩ = some (.slice none 0 0) := by rw [← hw_t_1]; exact box_new _ _ _ 1 _ rfl
  have Ot_1 : Hid (w_t_1.ownsRow w.heap.size 30 2 (.slice (some ⟨w_a_0.heap.size, 0, none⟩) 1 1) 1 [.slice none 0 0, .slice none 0 0]) := Lib.hid (by rw [← hw_t_1]; exact own_laid (n := 1) HBw_a_0.out.size rfl rfl (by unfold maxLen; omega))
  obtain ⟨w_out_2, hw_out_2⟩ : ∃ x, w_t_1.alloc (.cells #[.slice none 0 0, .slice none 0 0] 30) = x := ⟨_, rfl⟩
  have bw_out_2 : Below w_t_1.heap.size w_t_1 w_out_2 := by rw [← hw_out_2]; exact (Below.refl _ _).alloc (Nat.le_refl _) _
  have Dout_2_a_0 := Lib.hid (apart_box ka_0_0__78)
  have Dout_2_t_1 := Lib.hid (apart_box kt_1_0)
  have HBw_out_2 := Lib.hid (Below.step HBw_t_1.out bw_out_2)
  have ka_0_0__80 := cell_below bw_out_2 ka_0_0__78
  have ka_0_1__81 := cell_below bw_out_2 ka_0_1__79
  have kt_1_0__82 := cell_below bw_out_2 kt_1_0
  have kt_1_1__83 := cell_below bw_out_2 kt_1_1
  replace Ot_1 := Lib.hid (own_below Ot_1.out bw_out_2)
  clear bw_out_2
  have kout_2_0 : w_out_2.cell? ⟨w_t_1.heap.size, 0, none⟩ = some (.slice none 0 0) := by rw [← hw_out_2]; exact box_new _ _ _ 0 _ rfl
  have kout_2_1 : w_out_2.cell? ⟨w_t_1.heap.size, 1, none⟩ = some (.slice none 0 0) := by rw [← hw_out_2]; exact box_new _ _ _ 1 _ rfl
  have Oout_2 : Hid (w_out_2.ownsRow w.heap.size 30 2 (.slice (some ⟨w_t_1.heap.size, 0, none⟩) 1 1) 1 [.slice none 0 0, .slice none 0 0]) := Lib.hid (by rw [← hw_out_2]; exact own_laid (n := 1) HBw_t_1.out.size rfl rfl (by unfold maxLen; omega))
  replace H := bind_hid H
  obtain ⟨t_5, qt_5, H⟩ := H
  go_wp2_with fail
  clear ka_0_0 ka_0_1 ka_0_0__78 ka_0_1__79 kt_1_0 kt_1_1
  go_at_call 19
  refine (Go.Proofs.Ytekacbjnpeglhaa.GlToIntS.C (a_sizes) A0_0 c0_0 _   (Lib.hid (Cells.below M0_0.out HBw_out_2.out)) N0_0 qt_5).mono ?_
  rintro e_t_5 wt_5 ⟨At_5, ct_5, rfl, ot_5, bt_5⟩
  have Dt_5_a_0 := Lib.hid (apart_callbox ot_5 ka_0_0__80)
  have Dt_5_t_1 := Lib.hid (apart_callbox ot_5 kt_1_0__82)
  have Dt_5_out_2 := Lib.hid (apart_callbox ot_5 kout_2_0)
  have Ot_5 := Lib.hid (own_lower ot_5 HBw_out_2.out.size)
  clear ot_5
  have HBwt_5 := Lib.hid (Below.step HBw_out_2.out bt_5)
  replace ka_0_0__80 := cell_below bt_5 ka_0_0__80
  replace ka_0_1__81 := cell_below bt_5 ka_0_1__81
  replace kt_1_0__82 := cell_below bt_5 kt_1_0__82
  replace kt_1_1__83 := cell_below bt_5 kt_1_1__83
  replace kout_2_0 := cell_below bt_5 kout_2_0
  replace kout_2_1 := cell_below bt_5 kout_2_1
  replace Ot_1 := Lib.hid (own_below Ot_1.out bt_5)
  replace Oout_2 := Lib.hid (own_below Oout_2.out bt_5)
  clear bt_5
  obtain ⟨wb7_7, hwb7_7⟩ : ∃ x, (wt_5).setCell ⟨w_t_1.heap.size, 0, none⟩ (.slice At_5 t_5.length ct_5) = x := ⟨_, rfl⟩
  have z0b7_7 := Oout_2.out.frozenAt 0
  have Sb7_7 := Lib.hid (own_stores [(0, .slice At_5 t_5.length ct_5)] Oout_2.out)
  have Pb7_7 : Hid (wb7_7.ownsRow w.heap.size 30 2 (.slice (some ⟨w_t_1.heap.size, 0, none⟩) 1 1) 1 [.slice At_5 t_5.length ct_5, .slice none 0 0]) := Lib.hid (by rw [← hwb7_7]; exact Sb7_7.out.1)
  have Gb7_7 : Hid (wt_5.grownBy wb7_7 (Value.slice (some ⟨w_t_1.heap.size, 0, none⟩) 1 1).ownBlock) := Lib.hid (by rw [← hwb7_7]; exact Sb7_7.out.2)
  have HBwb7_7 := Lib.hid (HBwt_5.out.grown Gb7_7.out HBwt_5.out.size (fun q hq => (Oout_2.out.lt q hq).1))
  clear Sb7_7
  have ka_0_0__84 := cell_other ka_0_0__80 Gb7_7.out Dout_2_a_0.out
  have ka_0_1__85 := cell_other ka_0_1__81 Gb7_7.out Dout_2_a_0.out
  have kt_1_0__86 := cell_other kt_1_0__82 Gb7_7.out Dout_2_t_1.out
  have kt_1_1__87 := cell_other kt_1_1__83 Gb7_7.out Dout_2_t_1.out
  replace Ot_1 := Lib.hid (own_other Ot_1.out Gb7_7.out Dout_2_t_1.out)
  replace Ot_5 := Lib.hid (own_other Ot_5.out Gb7_7.out (Apart.symm Dt_5_out_2.out))
  clear Oout_2 Gb7_7
  have kout_2_0__88 : wb7_7.cell? ⟨w_t_1.heap.size, 0, none⟩ = some (.slice At_5 t_5.length ct_5) := Pb7_7.out.cells rfl 0 _ rfl
  have kout_2_1__89 : wb7_7.cell? ⟨w_t_1.heap.size, 1, none⟩ = some (.slice none 0 0) := Pb7_7.out.cells rfl 1 _ rfl
  replace H := bind_hid H
  obtain ⟨t_10, qt_10, H⟩ := H
  go_wp2_with fail
  clear z0b7_7 ka_0_0__80 ka_0_1__81 kt_1_0__82 kt_1_1__83 kout_2_0 kout_2_1
  go_at_call 54
  refine (Go.Proofs.Ytekacbjnpeglhaa.GlToBanS.C (a_bans) A0_1 c0_1 _   (Lib.hid (Cells.below M0_1.out HBwb7_7.out)) N0_1 qt_10).mono ?_
  rintro e_t_10 wt_10 ⟨At_10, ct_10, rfl, ot_10, bt_10⟩
  have Dt_10_t_5 := Lib.hid (apart_call ot_10 Ot_5.out)
  have Dt_10_a_0 := Lib.hid (apart_callbox ot_10 ka_0_0__84)
  have Dt_10_t_1 := Lib.hid (apart_callbox ot_10 kt_1_0__86)
  have Dt_10_out_2 := Lib.hid (apart_callbox ot_10 kout_2_0__88)
  have Ot_10 := Lib.hid (own_lower ot_10 HBwb7_7.out.size)
  clear ot_10
  have HBwt_10 := Lib.hid (Below.step HBwb7_7.out bt_10)
  replace ka_0_0__84 := cell_below bt_10 ka_0_0__84
  replace ka_0_1__85 := cell_below bt_10 ka_0_1__85
  replace kt_1_0__86 := cell_below bt_10 kt_1_0__86
  replace kt_1_1__87 := cell_below bt_10 kt_1_1__87
  replace kout_2_0__88 := cell_below bt_10 kout_2_0__88
  replace kout_2_1__89 := cell_below bt_10 kout_2_1__89
  replace Ot_5 := Lib.hid (own_below Ot_5.out bt_10)
  replace Ot_1 := Lib.hid (own_below Ot_1.out bt_10)
  replace Pb7_7 := Lib.hid (own_below Pb7_7.out bt_10)
  clear bt_10
  obtain ⟨wb12_12, hwb12_12⟩ : ∃ x, (wt_10).setCell ⟨w_t_1.heap.size, 1, none⟩ (.slice At_10 t_10.length ct_10) = x := ⟨_, rfl⟩
  have z0b12_12 := Pb7_7.out.frozenAt 1
  have Sb12_12 := Lib.hid (own_stores [(1, .slice At_10 t_10.length ct_10)] Pb7_7.out)
  have Pb12_12 : Hid (wb12_12.ownsRow w.heap.size 30 2 (.slice (some ⟨w_t_1.heap.size, 0, none⟩) 1 1) 1 [.slice At_5 t_5.length ct_5, .slice At_10 t_10.length ct_10]) := Lib.hid (by rw [← hwb12_12]; exact Sb12_12.out.1)
  have Gb12_12 : Hid (wt_10.grownBy wb12_12 (Value.slice (some ⟨w_t_1.heap.size, 0, none⟩) 1 1).ownBlock) := Lib.hid (by rw [← hwb12_12]; exact Sb12_12.out.2)
  have HBwb12_12 := Lib.hid (HBwt_10.out.grown Gb12_12.out HBwt_10.out.size (fun q hq => (Pb7_7.out.lt q hq).1))
  clear Sb12_12
  have ka_0_0__90 := cell_other ka_0_0__84 Gb12_12.out Dout_2_a_0.out
  have ka_0_1__91 := cell_other ka_0_1__85 Gb12_12.out Dout_2_a_0.out
  have kt_1_0__92 := cell_other kt_1_0__86 Gb12_12.out Dout_2_t_1.out
  have kt_1_1__93 := cell_other kt_1_1__87 Gb12_12.out Dout_2_t_1.out
  replace Ot_1 := Lib.hid (own_other Ot_1.out Gb12_12.out Dout_2_t_1.out)
  replace Ot_5 := Lib.hid (own_other Ot_5.out Gb12_12.out (Apart.symm Dt_5_out_2.out))
  replace Ot_10 := Lib.hid (own_other Ot_10.out Gb12_12.out (Apart.symm Dt_10_out_2.out))
  clear Pb7_7 Gb12_12
  have kout_2_0__94 : wb12_12.cell? ⟨w_t_1.heap.size, 0, none⟩ = some (.slice At_5 t_5.length ct_5) := Pb12_12.out.cells rfl 0 _ rfl
  have kout_2_1__95 : wb12_12.cell? ⟨w_t_1.heap.size, 1, none⟩ = some (.slice At_10 t_10.length ct_10) := Pb12_12.out.cells rfl 1 _ rfl
  obtain ⟨wb14_14, hwb14_14⟩ : ∃ x, ((wb12_12).setCell ⟨w_a_0.heap.size, 0, none⟩ (.slice At_5 t_5.length ct_5)).setCell ⟨w_a_0.heap.size, 1, none⟩ (.slice At_10 t_10.length ct_10) = x := ⟨_, rfl⟩
  have z0b14_14 := Ot_1.out.frozenAt 0
  have z1b14_14 := Ot_1.out.frozenAt 1
  have Sb14_14 := Lib.hid (own_stores [(0, .slice At_5 t_5.length ct_5), (1, .slice At_10 t_10.length ct_10)] Ot_1.out)
  have Pb14_14 : Hid (wb14_14.ownsRow w.heap.size 30 2 (.slice (some ⟨w_a_0.heap.size, 0, none⟩) 1 1) 1 [.slice At_5 t_5.length ct_5, .slice At_10 t_10.length ct_10]) := Lib.hid (by rw [← hwb14_14]; exact Sb14_14.out.1)
  have Gb14_14 : Hid (wb12_12.grownBy wb14_14 (Value.slice (some ⟨w_a_0.heap.size, 0, none⟩) 1 1).ownBlock) := Lib.hid (by rw [← hwb14_14]; exact Sb14_14.out.2)
  have HBwb14_14 := Lib.hid (HBwb12_12.out.grown Gb14_14.out HBwb12_12.out.size (fun q hq => (Ot_1.out.lt q hq).1))
  clear Sb14_14
  have ka_0_0__96 := cell_other ka_0_0__90 Gb14_14.out Dt_1_a_0.out
  have ka_0_1__97 := cell_other ka_0_1__91 Gb14_14.out Dt_1_a_0.out
  have kout_2_0__98 := cell_other kout_2_0__94 Gb14_14.out (Apart.symm Dout_2_t_1.out)
  have kout_2_1__99 := cell_other kout_2_1__95 Gb14_14.out (Apart.symm Dout_2_t_1.out)
  replace Pb12_12 := Lib.hid (own_other Pb12_12.out Gb14_14.out (Apart.symm Dout_2_t_1.out))
  replace Ot_5 := Lib.hid (own_other Ot_5.out Gb14_14.out (Apart.symm Dt_5_t_1.out))
  replace Ot_10 := Lib.hid (own_other Ot_10.out Gb14_14.out (Apart.symm Dt_10_t_1.out))
  clear Ot_1 Gb14_14
  have kt_1_0__100 : wb14_14.cell? ⟨w_a_0.heap.size, 0, none⟩ = some (.slice At_5 t_5.length ct_5) := Pb14_14.out.cells rfl 0 _ rfl
  have kt_1_1__101 : wb14_14.cell? ⟨w_a_0.heap.size, 1, none⟩ = some (.slice At_10 t_10.length ct_10) := Pb14_14.out.cells rfl 1 _ rfl
  have hR_ := ret_hid H
  simp only [Go.Proofs.Ytekacbjnpeglhaa.PKindTable.KindTable.mk.injEq] at hR_
  obtain ⟨rfl, rfl⟩ := hR_
  go_wp2_with fail
  (try simp only [Exit.inBlock, Exit.then])
  refine bodyPost_ret (v := .agg #[.slice At_5 t_5.length ct_5, .slice At_10 t_10.length ct_10]) ?hr_ ?hd_ ?_
  case hd_ => rfl
  case hr_ => simp [results, Try.results15, kt_1_0__100, kt_1_1__101, go_sem]
  exact ⟨At_5, ct_5, At_10, ct_10, rfl, Ot_5.out, Ot_10.out, (Apart.symm Dt_10_t_5.out), HBwb14_14.out⟩
end Go.Proofs.Ytekacbjnpeglhaa.GlToKindTable
