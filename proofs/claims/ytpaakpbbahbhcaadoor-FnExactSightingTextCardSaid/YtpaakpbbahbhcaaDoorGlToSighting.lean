/- loop.example/g01062/laws.toSighting as a plain function, and the contract of the program's: where the plain one has an answer, the program has it. Conditions: slices read as lists. -/
import Derived.Test.YtpaakpbbahbhcaaDoorChecked
import Derived.Test.YtpaakpbbahbhcaaDoorGoM
import Derived.Test.YtpaakpbbahbhcaaDoorGoRSighting
import Derived.Test.YtpaakpbbahbhcaaDoorHelpInt
import Derived.Test.YtpaakpbbahbhcaaDoorPSighting
import Derived.Test.YtpaakpbbahbhcaaDoorGlToIntS
import Derived.WalkKit
import Derived.WalkSpells
import Derived.WalkLawsBesides
import Derived.BigQuiet
import Derived.OwnWalk
import Derived.Deep.LoopGhost
import Derived.Deep.QuietTactic
import Derived.IntWalk
import Derived.Lib.QuietBelow
namespace Go.Proofs.YtpaakpbbahbhcaaDoor.GlToSighting
set_option linter.unusedVariables false
set_option linter.unusedSimpArgs false
open Go.RowKit
open Go.Proofs.YtpaakpbbahbhcaaDoor.Rowed Go.Proofs.YtpaakpbbahbhcaaDoor.Turn Go.Proofs.YtpaakpbbahbhcaaDoor.Aid Go.Proofs.YtpaakpbbahbhcaaDoor.GoP Go.Proofs.YtpaakpbbahbhcaaDoor.GoM

def P (a_id : Int) (a_year : Int) (a_town : ByteArray) (a_traits : (List Int)) : Option (Go.Proofs.YtpaakpbbahbhcaaDoor.PSighting.Sighting) :=
  Option.bind (Go.Proofs.YtpaakpbbahbhcaaDoor.GlToIntS.P a_traits) fun (t_17 : (List Int)) =>
  some (Go.Proofs.YtpaakpbbahbhcaaDoor.PSighting.Sighting.mk a_id a_year a_town t_17)

set_option maxRecDepth 100000 in
set_option maxHeartbeats 2000000 in
theorem C (a_id : Int) (a_year : Int) (a_town : ByteArray) (a_traits : (List Int)) (A0_3 : Option Addr) (c0_3 : Nat)  (w : World) (M0_3 : Hid (Cells w 1 A0_3 a_traits.length (Go.Proofs.YtpaakpbbahbhcaaDoor.HelpInt.iv a_traits))) (N0_3 : Hid (a_traits.length ≤ 9223372036854775807))  {r_id : Int} {r_year : Int} {r_town : ByteArray} {r_traits : (List Int)} (H : Hid (P a_id a_year a_town a_traits = some (Go.Proofs.YtpaakpbbahbhcaaDoor.PSighting.Sighting.mk r_id r_year r_town r_traits))) :
    Calls Tryd.prog 6 #[.agg #[.int .i64 a_id, .int .i64 a_year, .string a_town, .slice A0_3 a_traits.length c0_3]] w (fun e w' => ∃ A_r_traits c_r_traits, e = .returned (.agg #[.int .i64 r_id, .int .i64 r_year, .string r_town, .slice A_r_traits r_traits.length c_r_traits]) ∧ w'.ownsRow w.heap.size 3 1 (.slice A_r_traits r_traits.length c_r_traits) r_traits.length (Go.Proofs.YtpaakpbbahbhcaaDoor.HelpInt.iv r_traits) ∧ Below w.heap.size w w') := by
  have HB := Lib.hid (Below.refl w.heap.size w)
  unfold P at H
  have N0_3o := N0_3.out
  go_enter Tryd.func6, Tryd.ntmps6
  obtain ⟨w_a_0, hw_a_0⟩ : ∃ x, w.alloc (.cells #[.int .i64 a_id, .int .i64 a_year, .string a_town, .slice A0_3 a_traits.length c0_3] 24) = x := ⟨_, rfl⟩
  have bw_a_0 : Below w.heap.size w w_a_0 := by rw [← hw_a_0]; exact (Below.refl _ _).alloc (Nat.le_refl _) _
  have HBw_a_0 := Lib.hid (Below.step HB.out bw_a_0)
  clear bw_a_0
  have ka_0_0 : w_a_0.cell? ⟨w.heap.size, 0, none⟩ = some (.int .i64 a_id) := by rw [← hw_a_0]; exact box_new _ _ _ 0 _ rfl
  have ka_0_1 : w_a_0.cell? ⟨w.heap.size, 1, none⟩ = some (.int .i64 a_year) := by rw [← hw_a_0]; exact box_new _ _ _ 1 _ rfl
  have ka_0_2 : w_a_0.cell? ⟨w.heap.size, 2, none⟩ = some (.string a_town) := by rw [← hw_a_0]; exact box_new _ _ _ 2 _ rfl
  have ka_0_3 : w_a_0.cell? ⟨w.heap.size, 3, none⟩ = some (.slice A0_3 a_traits.length c0_3) := by rw [← hw_a_0]; exact box_new _ _ _ 3 _ rfl
  obtain ⟨w_t_1, hw_t_1⟩ : ∃ x, w_a_0.alloc (.cells #[.int .i64 0, .int .i64 0, .string (⟨#[]⟩ : ByteArray), .slice none 0 0] 28) = x := ⟨_, rfl⟩
  have bw_t_1 : Below w_a_0.heap.size w_a_0 w_t_1 := by rw [← hw_t_1]; exact (Below.refl _ _).alloc (Nat.le_refl _) _
  have Dt_1_a_0 := Lib.hid (apart_box ka_0_0)
  have HBw_t_1 := Lib.hid (Below.step HBw_a_0.out bw_t_1)
  have ka_0_0__2 := cell_below bw_t_1 ka_0_0
  have ka_0_1__3 := cell_below bw_t_1 ka_0_1
  have ka_0_2__4 := cell_below bw_t_1 ka_0_2
  have ka_0_3__5 := cell_below bw_t_1 ka_0_3
  clear bw_t_1
  have kt_1_0 : w_t_1.cell? ⟨w_a_0.heap.size, 0, none⟩ = some (.int .i64 0) := by rw [← hw_t_1]; exact box_new _ _ _ 0 _ rfl
  have kt_1_1 : w_t_1.cell? ⟨w_a_0.heap.size, 1, none⟩ = some (.int .i64 0) := by rw [← hw_t_1]; exact box_new _ _ _ 1 _ rfl
  have kt_1_2 : w_t_1.cell? ⟨w_a_0.heap.size, 2, none⟩ = some (.string (⟨#[]⟩ : ByteArray)) := by rw [← hw_t_1]; exact box_new _ _ _ 2 _ rfl
  have kt_1_3 : w_t_1.cell? ⟨w_a_0.heap.size, 3, none⟩ = some (.slice none 0 0) := by rw [← hw_t_1]; exact box_new _ _ _ 3 _ rfl
  have Ot_1 : Hid (w_t_1.ownsRow w.heap.size 28 4 (.slice (some ⟨w_a_0.heap.size, 0, none⟩) 1 1) 1 [.int .i64 0, .int .i64 0, .string (⟨#[]⟩ : ByteArray), .slice none 0 0]) := Lib.hid (by rw [← hw_t_1]; exact own_laid (n := 1) HBw_a_0.out.size rfl rfl (by unfold maxLen; omega))
  obtain ⟨w_out_2, hw_out_2⟩ : ∃ x, w_t_1.alloc (.cells #[.int .i64 0, .int .i64 0, .string (⟨#[]⟩ : ByteArray), .slice none 0 0] 28) = x := ⟨_, rfl⟩
  have bw_out_2 : Below w_t_1.heap.size w_t_1 w_out_2 := by rw [← hw_out_2]; exact (Below.refl _ _).alloc (Nat.le_refl _) _
  have Dout_2_a_0 := Lib.hid (apart_box ka_0_0__2)
  have Dout_2_t_1 := Lib.hid (apart_box kt_1_0)
  have HBw_out_2 := Lib.hid (Below.step HBw_t_1.out bw_out_2)
  have ka_0_0__6 := cell_below bw_out_2 ka_0_0__2
  have ka_0_1__7 := cell_below bw_out_2 ka_0_1__3
  have ka_0_2__8 := cell_below bw_out_2 ka_0_2__4
  have ka_0_3__9 := cell_below bw_out_2 ka_0_3__5
  have kt_1_0__10 := cell_below bw_out_2 kt_1_0
  have kt_1_1__11 := cell_below bw_out_2 kt_1_1
  have kt_1_2__12 := cell_below bw_out_2 kt_1_2
  have kt_1_3__13 := cell_below bw_out_2 kt_1_3
  replace Ot_1 := Lib.hid (own_below Ot_1.out bw_out_2)
  clear bw_out_2
  have kout_2_0 : w_out_2.cell? ⟨w_t_1.heap.size, 0, none⟩ = some (.int .i64 0) := by rw [← hw_out_2]; exact box_new _ _ _ 0 _ rfl
  have kout_2_1 : w_out_2.cell? ⟨w_t_1.heap.size, 1, none⟩ = some (.int .i64 0) := by rw [← hw_out_2]; exact box_new _ _ _ 1 _ rfl
  have kout_2_2 : w_out_2.cell? ⟨w_t_1.heap.size, 2, none⟩ = some (.string (⟨#[]⟩ : ByteArray)) := by rw [← hw_out_2]; exact box_new _ _ _ 2 _ rfl
  have kout_2_3 : w_out_2.cell? ⟨w_t_1.heap.size, 3, none⟩ = some (.slice none 0 0) := by rw [← hw_out_2]; exact box_new _ _ _ 3 _ rfl
  have Oout_2 : Hid (w_out_2.ownsRow w.heap.size 28 4 (.slice (some ⟨w_t_1.heap.size, 0, none⟩) 1 1) 1 [.int .i64 0, .int .i64 0, .string (⟨#[]⟩ : ByteArray), .slice none 0 0]) := Lib.hid (by rw [← hw_out_2]; exact own_laid (n := 1) HBw_t_1.out.size rfl rfl (by unfold maxLen; omega))
  obtain ⟨wb6_6, hwb6_6⟩ : ∃ x, (w_out_2).setCell ⟨w_t_1.heap.size, 0, none⟩ (.int .i64 a_id) = x := ⟨_, rfl⟩
  have z0b6_6 := Oout_2.out.frozenAt 0
  have Sb6_6 := Lib.hid (own_stores [(0, .int .i64 a_id)] Oout_2.out)
  have Pb6_6 : Hid (wb6_6.ownsRow w.heap.size 28 4 (.slice (some ⟨w_t_1.heap.size, 0, none⟩) 1 1) 1 [.int .i64 a_id, .int .i64 0, .string (⟨#[]⟩ : ByteArray), .slice none 0 0]) := Lib.hid (by rw [← hwb6_6]; exact Sb6_6.out.1)
  have Gb6_6 : Hid (w_out_2.grownBy wb6_6 (Value.slice (some ⟨w_t_1.heap.size, 0, none⟩) 1 1).ownBlock) := Lib.hid (by rw [← hwb6_6]; exact Sb6_6.out.2)
  have HBwb6_6 := Lib.hid (HBw_out_2.out.grown Gb6_6.out HBw_out_2.out.size (fun q hq => (Oout_2.out.lt q hq).1))
  clear Sb6_6
  have ka_0_0__14 := cell_other ka_0_0__6 Gb6_6.out Dout_2_a_0.out
  have ka_0_1__15 := cell_other ka_0_1__7 Gb6_6.out Dout_2_a_0.out
  have ka_0_2__16 := cell_other ka_0_2__8 Gb6_6.out Dout_2_a_0.out
  have ka_0_3__17 := cell_other ka_0_3__9 Gb6_6.out Dout_2_a_0.out
  have kt_1_0__18 := cell_other kt_1_0__10 Gb6_6.out Dout_2_t_1.out
  have kt_1_1__19 := cell_other kt_1_1__11 Gb6_6.out Dout_2_t_1.out
  have kt_1_2__20 := cell_other kt_1_2__12 Gb6_6.out Dout_2_t_1.out
  have kt_1_3__21 := cell_other kt_1_3__13 Gb6_6.out Dout_2_t_1.out
  replace Ot_1 := Lib.hid (own_other Ot_1.out Gb6_6.out Dout_2_t_1.out)
  clear Oout_2 Gb6_6
  have kout_2_0__22 : wb6_6.cell? ⟨w_t_1.heap.size, 0, none⟩ = some (.int .i64 a_id) := Pb6_6.out.cells rfl 0 _ rfl
  have kout_2_1__23 : wb6_6.cell? ⟨w_t_1.heap.size, 1, none⟩ = some (.int .i64 0) := Pb6_6.out.cells rfl 1 _ rfl
  have kout_2_2__24 : wb6_6.cell? ⟨w_t_1.heap.size, 2, none⟩ = some (.string (⟨#[]⟩ : ByteArray)) := Pb6_6.out.cells rfl 2 _ rfl
  have kout_2_3__25 : wb6_6.cell? ⟨w_t_1.heap.size, 3, none⟩ = some (.slice none 0 0) := Pb6_6.out.cells rfl 3 _ rfl
  obtain ⟨wb10_10, hwb10_10⟩ : ∃ x, (wb6_6).setCell ⟨w_t_1.heap.size, 1, none⟩ (.int .i64 a_year) = x := ⟨_, rfl⟩
  have z0b10_10 := Pb6_6.out.frozenAt 1
  have Sb10_10 := Lib.hid (own_stores [(1, .int .i64 a_year)] Pb6_6.out)
  have Pb10_10 : Hid (wb10_10.ownsRow w.heap.size 28 4 (.slice (some ⟨w_t_1.heap.size, 0, none⟩) 1 1) 1 [.int .i64 a_id, .int .i64 a_year, .string (⟨#[]⟩ : ByteArray), .slice none 0 0]) := Lib.hid (by rw [← hwb10_10]; exact Sb10_10.out.1)
  have Gb10_10 : Hid (wb6_6.grownBy wb10_10 (Value.slice (some ⟨w_t_1.heap.size, 0, none⟩) 1 1).ownBlock) := Lib.hid (by rw [← hwb10_10]; exact Sb10_10.out.2)
  have HBwb10_10 := Lib.hid (HBwb6_6.out.grown Gb10_10.out HBwb6_6.out.size (fun q hq => (Pb6_6.out.lt q hq).1))
  clear Sb10_10
  have ka_0_0__26 := cell_other ka_0_0__14 Gb10_10.out Dout_2_a_0.out
  have ka_0_1__27 := cell_other ka_0_1__15 Gb10_10.out Dout_2_a_0.out
  have ka_0_2__28 := cell_other ka_0_2__16 Gb10_10.out Dout_2_a_0.out
  have ka_0_3__29 := cell_other ka_0_3__17 Gb10_10.out Dout_2_a_0.out
  have kt_1_0__30 := cell_other kt_1_0__18 Gb10_10.out Dout_2_t_1.out
  have kt_1_1__31 := cell_other kt_1_1__19 Gb10_10.out Dout_2_t_1.out
  have kt_1_2__32 := cell_other kt_1_2__20 Gb10_10.out Dout_2_t_1.out
  have kt_1_3__33 := cell_other kt_1_3__21 Gb10_10.out Dout_2_t_1.out
  replace Ot_1 := Lib.hid (own_other Ot_1.out Gb10_10.out Dout_2_t_1.out)
  clear Pb6_6 Gb10_10
  have kout_2_0__34 : wb10_10.cell? ⟨w_t_1.heap.size, 0, none⟩ = some (.int .i64 a_id) := Pb10_10.out.cells rfl 0 _ rfl
  have kout_2_1__35 : wb10_10.cell? ⟨w_t_1.heap.size, 1, none⟩ = some (.int .i64 a_year) := Pb10_10.out.cells rfl 1 _ rfl
  have kout_2_2__36 : wb10_10.cell? ⟨w_t_1.heap.size, 2, none⟩ = some (.string (⟨#[]⟩ : ByteArray)) := Pb10_10.out.cells rfl 2 _ rfl
  have kout_2_3__37 : wb10_10.cell? ⟨w_t_1.heap.size, 3, none⟩ = some (.slice none 0 0) := Pb10_10.out.cells rfl 3 _ rfl
  obtain ⟨wb14_14, hwb14_14⟩ : ∃ x, (wb10_10).setCell ⟨w_t_1.heap.size, 2, none⟩ (.string a_town) = x := ⟨_, rfl⟩
  have z0b14_14 := Pb10_10.out.frozenAt 2
  have Sb14_14 := Lib.hid (own_stores [(2, .string a_town)] Pb10_10.out)
  have Pb14_14 : Hid (wb14_14.ownsRow w.heap.size 28 4 (.slice (some ⟨w_t_1.heap.size, 0, none⟩) 1 1) 1 [.int .i64 a_id, .int .i64 a_year, .string a_town, .slice none 0 0]) := Lib.hid (by rw [← hwb14_14]; exact Sb14_14.out.1)
  have Gb14_14 : Hid (wb10_10.grownBy wb14_14 (Value.slice (some ⟨w_t_1.heap.size, 0, none⟩) 1 1).ownBlock) := Lib.hid (by rw [← hwb14_14]; exact Sb14_14.out.2)
  have HBwb14_14 := Lib.hid (HBwb10_10.out.grown Gb14_14.out HBwb10_10.out.size (fun q hq => (Pb10_10.out.lt q hq).1))
  clear Sb14_14
  have ka_0_0__38 := cell_other ka_0_0__26 Gb14_14.out Dout_2_a_0.out
  have ka_0_1__39 := cell_other ka_0_1__27 Gb14_14.out Dout_2_a_0.out
  have ka_0_2__40 := cell_other ka_0_2__28 Gb14_14.out Dout_2_a_0.out
  have ka_0_3__41 := cell_other ka_0_3__29 Gb14_14.out Dout_2_a_0.out
  have kt_1_0__42 := cell_other kt_1_0__30 Gb14_14.out Dout_2_t_1.out
  have kt_1_1__43 := cell_other kt_1_1__31 Gb14_14.out Dout_2_t_1.out
  have kt_1_2__44 := cell_other kt_1_2__32 Gb14_14.out Dout_2_t_1.out
  have kt_1_3__45 := cell_other kt_1_3__33 Gb14_14.out Dout_2_t_1.out
  replace Ot_1 := Lib.hid (own_other Ot_1.out Gb14_14.out Dout_2_t_1.out)
  clear Pb10_10 Gb14_14
  have kout_2_0__46 : wb14_14.cell? ⟨w_t_1.heap.size, 0, none⟩ = some (.int .i64 a_id) := Pb14_14.out.cells rfl 0 _ rfl
  have kout_2_1__47 : wb14_14.cell? ⟨w_t_1.heap.size, 1, none⟩ = some (.int .i64 a_year) := Pb14_14.out.cells rfl 1 _ rfl
  have kout_2_2__48 : wb14_14.cell? ⟨w_t_1.heap.size, 2, none⟩ = some (.string a_town) := Pb14_14.out.cells rfl 2 _ rfl
  have kout_2_3__49 : wb14_14.cell? ⟨w_t_1.heap.size, 3, none⟩ = some (.slice none 0 0) := Pb14_14.out.cells rfl 3 _ rfl
  replace H := bind_hid H
  obtain ⟨t_17, qt_17, H⟩ := H
  go_wp2_with fail
  clear ka_0_0 ka_0_1 ka_0_2 ka_0_3 ka_0_0__2 ka_0_1__3 ka_0_2__4 ka_0_3__5 kt_1_0 kt_1_1 kt_1_2 kt_1_3 z0b6_6 ka_0_0__6 ka_0_1__7 ka_0_2__8 ka_0_3__9 kt_1_0__10 kt_1_1__11 kt_1_2__12 kt_1_3__13 kout_2_0 kout_2_1 kout_2_2 kout_2_3 z0b10_10 ka_0_0__14 ka_0_1__15 ka_0_2__16 ka_0_3__17 kt_1_0__18 kt_1_1__19 kt_1_2__20 kt_1_3__21 kout_2_0__22 kout_2_1__23 kout_2_2__24 kout_2_3__25 z0b14_14 ka_0_0__26 ka_0_1__27 ka_0_2__28 ka_0_3__29 kt_1_0__30 kt_1_1__31 kt_1_2__32 kt_1_3__33 kout_2_0__34 kout_2_1__35 kout_2_2__36 kout_2_3__37
  go_at_call 12
  refine (Go.Proofs.YtpaakpbbahbhcaaDoor.GlToIntS.C (a_traits) A0_3 c0_3 _   (Lib.hid (Cells.below M0_3.out HBwb14_14.out)) N0_3 qt_17).mono ?_
  rintro e_t_17 wt_17 ⟨At_17, ct_17, rfl, ot_17, bt_17⟩
  have Dt_17_a_0 := Lib.hid (apart_callbox ot_17 ka_0_0__38)
  have Dt_17_t_1 := Lib.hid (apart_callbox ot_17 kt_1_0__42)
  have Dt_17_out_2 := Lib.hid (apart_callbox ot_17 kout_2_0__46)
  have Ot_17 := Lib.hid (own_lower ot_17 HBwb14_14.out.size)
  clear ot_17
  have HBwt_17 := Lib.hid (Below.step HBwb14_14.out bt_17)
  replace ka_0_0__38 := cell_below bt_17 ka_0_0__38
  replace ka_0_1__39 := cell_below bt_17 ka_0_1__39
  replace ka_0_2__40 := cell_below bt_17 ka_0_2__40
  replace ka_0_3__41 := cell_below bt_17 ka_0_3__41
  replace kt_1_0__42 := cell_below bt_17 kt_1_0__42
  replace kt_1_1__43 := cell_below bt_17 kt_1_1__43
  replace kt_1_2__44 := cell_below bt_17 kt_1_2__44
  replace kt_1_3__45 := cell_below bt_17 kt_1_3__45
  replace kout_2_0__46 := cell_below bt_17 kout_2_0__46
  replace kout_2_1__47 := cell_below bt_17 kout_2_1__47
  replace kout_2_2__48 := cell_below bt_17 kout_2_2__48
  replace kout_2_3__49 := cell_below bt_17 kout_2_3__49
  replace Ot_1 := Lib.hid (own_below Ot_1.out bt_17)
  replace Pb14_14 := Lib.hid (own_below Pb14_14.out bt_17)
  clear bt_17
  obtain ⟨wb19_19, hwb19_19⟩ : ∃ x, (wt_17).setCell ⟨w_t_1.heap.size, 3, none⟩ (.slice At_17 t_17.length ct_17) = x := ⟨_, rfl⟩
  have z0b19_19 := Pb14_14.out.frozenAt 3
  have Sb19_19 := Lib.hid (own_stores [(3, .slice At_17 t_17.length ct_17)] Pb14_14.out)
  have Pb19_19 : Hid (wb19_19.ownsRow w.heap.size 28 4 (.slice (some ⟨w_t_1.heap.size, 0, none⟩) 1 1) 1 [.int .i64 a_id, .int .i64 a_year, .string a_town, .slice At_17 t_17.length ct_17]) := Lib.hid (by rw [← hwb19_19]; exact Sb19_19.out.1)
  have Gb19_19 : Hid (wt_17.grownBy wb19_19 (Value.slice (some ⟨w_t_1.heap.size, 0, none⟩) 1 1).ownBlock) := Lib.hid (by rw [← hwb19_19]; exact Sb19_19.out.2)
  have HBwb19_19 := Lib.hid (HBwt_17.out.grown Gb19_19.out HBwt_17.out.size (fun q hq => (Pb14_14.out.lt q hq).1))
  clear Sb19_19
  have ka_0_0__50 := cell_other ka_0_0__38 Gb19_19.out Dout_2_a_0.out
  have ka_0_1__51 := cell_other ka_0_1__39 Gb19_19.out Dout_2_a_0.out
  have ka_0_2__52 := cell_other ka_0_2__40 Gb19_19.out Dout_2_a_0.out
  have ka_0_3__53 := cell_other ka_0_3__41 Gb19_19.out Dout_2_a_0.out
  have kt_1_0__54 := cell_other kt_1_0__42 Gb19_19.out Dout_2_t_1.out
  have kt_1_1__55 := cell_other kt_1_1__43 Gb19_19.out Dout_2_t_1.out
  have kt_1_2__56 := cell_other kt_1_2__44 Gb19_19.out Dout_2_t_1.out
  have kt_1_3__57 := cell_other kt_1_3__45 Gb19_19.out Dout_2_t_1.out
  replace Ot_1 := Lib.hid (own_other Ot_1.out Gb19_19.out Dout_2_t_1.out)
  replace Ot_17 := Lib.hid (own_other Ot_17.out Gb19_19.out (Apart.symm Dt_17_out_2.out))
  clear Pb14_14 Gb19_19
  have kout_2_0__58 : wb19_19.cell? ⟨w_t_1.heap.size, 0, none⟩ = some (.int .i64 a_id) := Pb19_19.out.cells rfl 0 _ rfl
  have kout_2_1__59 : wb19_19.cell? ⟨w_t_1.heap.size, 1, none⟩ = some (.int .i64 a_year) := Pb19_19.out.cells rfl 1 _ rfl
  have kout_2_2__60 : wb19_19.cell? ⟨w_t_1.heap.size, 2, none⟩ = some (.string a_town) := Pb19_19.out.cells rfl 2 _ rfl
  have kout_2_3__61 : wb19_19.cell? ⟨w_t_1.heap.size, 3, none⟩ = some (.slice At_17 t_17.length ct_17) := Pb19_19.out.cells rfl 3 _ rfl
  obtain ⟨wb21_21, hwb21_21⟩ : ∃ x, ((((wb19_19).setCell ⟨w_a_0.heap.size, 0, none⟩ (.int .i64 a_id)).setCell ⟨w_a_0.heap.size, 1, none⟩ (.int .i64 a_year)).setCell ⟨w_a_0.heap.size, 2, none⟩ (.string a_town)).setCell ⟨w_a_0.heap.size, 3, none⟩ (.slice At_17 t_17.length ct_17) = x := ⟨_, rfl⟩
  have z0b21_21 := Ot_1.out.frozenAt 0
  have z1b21_21 := Ot_1.out.frozenAt 1
  have z2b21_21 := Ot_1.out.frozenAt 2
  have z3b21_21 := Ot_1.out.frozenAt 3
  have Sb21_21 := Lib.hid (own_stores [(0, .int .i64 a_id), (1, .int .i64 a_year), (2, .string a_town), (3, .slice At_17 t_17.length ct_17)] Ot_1.out)
  have Pb21_21 : Hid (wb21_21.ownsRow w.heap.size 28 4 (.slice (some ⟨w_a_0.heap.size, 0, none⟩) 1 1) 1 [.int .i64 a_id, .int .i64 a_year, .string a_town, .slice At_17 t_17.length ct_17]) := Lib.hid (by rw [← hwb21_21]; exact Sb21_21.out.1)
  have Gb21_21 : Hid (wb19_19.grownBy wb21_21 (Value.slice (some ⟨w_a_0.heap.size, 0, none⟩) 1 1).ownBlock) := Lib.hid (by rw [← hwb21_21]; exact Sb21_21.out.2)
  have HBwb21_21 := Lib.hid (HBwb19_19.out.grown Gb21_21.out HBwb19_19.out.size (fun q hq => (Ot_1.out.lt q hq).1))
  clear Sb21_21
  have ka_0_0__62 := cell_other ka_0_0__50 Gb21_21.out Dt_1_a_0.out
  have ka_0_1__63 := cell_other ka_0_1__51 Gb21_21.out Dt_1_a_0.out
  have ka_0_2__64 := cell_other ka_0_2__52 Gb21_21.out Dt_1_a_0.out
  have ka_0_3__65 := cell_other ka_0_3__53 Gb21_21.out Dt_1_a_0.out
  have kout_2_0__66 := cell_other kout_2_0__58 Gb21_21.out (Apart.symm Dout_2_t_1.out)
  have kout_2_1__67 := cell_other kout_2_1__59 Gb21_21.out (Apart.symm Dout_2_t_1.out)
  have kout_2_2__68 := cell_other kout_2_2__60 Gb21_21.out (Apart.symm Dout_2_t_1.out)
  have kout_2_3__69 := cell_other kout_2_3__61 Gb21_21.out (Apart.symm Dout_2_t_1.out)
  replace Pb19_19 := Lib.hid (own_other Pb19_19.out Gb21_21.out (Apart.symm Dout_2_t_1.out))
  replace Ot_17 := Lib.hid (own_other Ot_17.out Gb21_21.out (Apart.symm Dt_17_t_1.out))
  clear Ot_1 Gb21_21
  have kt_1_0__70 : wb21_21.cell? ⟨w_a_0.heap.size, 0, none⟩ = some (.int .i64 a_id) := Pb21_21.out.cells rfl 0 _ rfl
  have kt_1_1__71 : wb21_21.cell? ⟨w_a_0.heap.size, 1, none⟩ = some (.int .i64 a_year) := Pb21_21.out.cells rfl 1 _ rfl
  have kt_1_2__72 : wb21_21.cell? ⟨w_a_0.heap.size, 2, none⟩ = some (.string a_town) := Pb21_21.out.cells rfl 2 _ rfl
  have kt_1_3__73 : wb21_21.cell? ⟨w_a_0.heap.size, 3, none⟩ = some (.slice At_17 t_17.length ct_17) := Pb21_21.out.cells rfl 3 _ rfl
  have hR_ := ret_hid H
  simp only [Go.Proofs.YtpaakpbbahbhcaaDoor.PSighting.Sighting.mk.injEq] at hR_
  obtain ⟨rfl, rfl, rfl, rfl⟩ := hR_
  go_wp2_with fail
  (try simp only [Exit.inBlock, Exit.then])
  refine bodyPost_ret (v := .agg #[.int .i64 a_id, .int .i64 a_year, .string a_town, .slice At_17 t_17.length ct_17]) ?hr_ ?hd_ ?_
  case hd_ => rfl
  case hr_ => simp [results, Tryd.results6, kt_1_0__70, kt_1_1__71, kt_1_2__72, kt_1_3__73, go_sem]
  exact ⟨At_17, ct_17, rfl, Ot_17.out, HBwb21_21.out⟩
end Go.Proofs.YtpaakpbbahbhcaaDoor.GlToSighting
