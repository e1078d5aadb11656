/- loop.example/g01062/laws.FnExactDoAgree as a plain function, and the contract of the program's: where the plain one has an answer, the program has it. Conditions: slices read as lists. -/
import Derived.Test.YtfbdaedoofkcbaaChecked
import Derived.Test.YtfbdaedoofkcbaaGoM
import Derived.Test.YtfbdaedoofkcbaaGoRBlock
import Derived.Test.YtfbdaedoofkcbaaPBlock
import Derived.Test.YtfbdaedoofkcbaaGlSzBlock
import Derived.Test.YtfbdaedoofkcbaaGlToBlock
import Derived.Test.YtfbdaedoofkcbaaGsDoAgree
import Derived.Test.YtfbdaedoofkcbaaGiDoAgree
import Derived.Test.YtfbdaedoofkcbaaGlEqBlock
import Derived.WalkKit
import Derived.WalkSpells
import Derived.WalkLawsBesides
import Derived.BigQuiet
import Derived.OwnWalk
import Derived.Deep.LoopGhost
import Derived.Deep.QuietTactic
import Derived.IntWalk
import Derived.Lib.QuietBelow
import Derived.Deep.RegionHeld3
namespace Go.Proofs.Ytfbdaedoofkcbaa.GlFnExactDoAgree
set_option linter.unusedVariables false
set_option linter.unusedSimpArgs false
open Go.RowKit
open Go.Proofs.Ytfbdaedoofkcbaa.Rowed Go.Proofs.Ytfbdaedoofkcbaa.Turn Go.Proofs.Ytfbdaedoofkcbaa.Aid Go.Proofs.Ytfbdaedoofkcbaa.GoP Go.Proofs.Ytfbdaedoofkcbaa.GoM

def P (fuel : Nat) (aA_rows : (List ByteArray)) (aB_rows : (List ByteArray)) (aDown : Int) (aRight : Int) : Option (Bool) :=
  Option.bind (Go.Proofs.Ytfbdaedoofkcbaa.GlSzBlock.P aA_rows 1048576) fun (t_6 : Int) =>
  letK (decide (t_6 < 0)) fun (t_9 : Bool) =>
  iteK t_9
  (some true)
  (Option.bind (Go.Proofs.Ytfbdaedoofkcbaa.GlSzBlock.P aB_rows t_6) fun (t_13 : Int) =>
  letK (decide (t_13 < 0)) fun (t_16 : Bool) =>
  iteK t_16
  (some true)
  (Option.bind (Go.Proofs.Ytfbdaedoofkcbaa.GlToBlock.P aA_rows) fun (t_19 : Go.Proofs.Ytfbdaedoofkcbaa.PBlock.Block) =>
  unBlock t_19 fun (t_19_rows : (List ByteArray)) =>
  Option.bind (Go.Proofs.Ytfbdaedoofkcbaa.GlToBlock.P aB_rows) fun (t_21 : Go.Proofs.Ytfbdaedoofkcbaa.PBlock.Block) =>
  unBlock t_21 fun (t_21_rows : (List ByteArray)) =>
  bind2 (Go.Proofs.Ytfbdaedoofkcbaa.GsDoAgree.P fuel t_19_rows t_21_rows aDown aRight) fun (t_24a : Bool) (t_24b : Bool) =>
  Option.bind (Go.Proofs.Ytfbdaedoofkcbaa.GlToBlock.P aA_rows) fun (t_31 : Go.Proofs.Ytfbdaedoofkcbaa.PBlock.Block) =>
  unBlock t_31 fun (t_31_rows : (List ByteArray)) =>
  Option.bind (Go.Proofs.Ytfbdaedoofkcbaa.GlToBlock.P aB_rows) fun (t_35 : Go.Proofs.Ytfbdaedoofkcbaa.PBlock.Block) =>
  unBlock t_35 fun (t_35_rows : (List ByteArray)) =>
  bind2 (Go.Proofs.Ytfbdaedoofkcbaa.GiDoAgree.P t_31_rows t_35_rows aDown aRight) fun (t_42a : Bool) (t_42b : Bool) =>
  letK (t_42a != t_24a) fun (t_50 : Bool) =>
  joinK (fun (t_55 : Bool) =>
  iteK t_55
  (some false)
  (Option.bind (Go.Proofs.Ytfbdaedoofkcbaa.GlToBlock.P aA_rows) fun (t_59 : Go.Proofs.Ytfbdaedoofkcbaa.PBlock.Block) =>
  unBlock t_59 fun (t_59_rows : (List ByteArray)) =>
  Option.bind (Go.Proofs.Ytfbdaedoofkcbaa.GlEqBlock.P t_31_rows t_59_rows) fun (t_60 : Bool) =>
  letK (!t_60) fun (t_61 : Bool) =>
  iteK t_61
  (some false)
  (Option.bind (Go.Proofs.Ytfbdaedoofkcbaa.GlToBlock.P aB_rows) fun (t_65 : Go.Proofs.Ytfbdaedoofkcbaa.PBlock.Block) =>
  unBlock t_65 fun (t_65_rows : (List ByteArray)) =>
  Option.bind (Go.Proofs.Ytfbdaedoofkcbaa.GlEqBlock.P t_35_rows t_65_rows) fun (t_66 : Bool) =>
  letK (!t_66) fun (t_67 : Bool) =>
  iteK t_67
  (some false)
  (some true)))) fun jt_55 => iteK t_50 (appK jt_55 true) (letK (t_42b != t_24b) fun (t_54 : Bool) =>
  appK jt_55 t_54)))

set_option maxRecDepth 100000 in
set_option maxHeartbeats 2000000 in
theorem C (fuel : Nat) (aA_rows : (List ByteArray)) (aB_rows : (List ByteArray)) (aDown : Int) (aRight : Int) (A0_0 : Option Addr) (c0_0 : Nat) (A1_0 : Option Addr) (c1_0 : Nat)  (w : World) (M0_0 : Hid (Cells w 1 A0_0 aA_rows.length (aA_rows.map Value.string))) (N0_0 : Hid (aA_rows.length ≤ 9223372036854775807)) (M1_0 : Hid (Cells w 1 A1_0 aB_rows.length (aB_rows.map Value.string))) (N1_0 : Hid (aB_rows.length ≤ 9223372036854775807))  {r : Bool} (H : Hid (P fuel aA_rows aB_rows aDown aRight = some r)) :
    Calls Try.prog 10 #[.agg #[.slice A0_0 aA_rows.length c0_0], .agg #[.slice A1_0 aB_rows.length c1_0], .int .i64 aDown, .int .i64 aRight] w (Gives (.bool r) w) := by
  have HB := Lib.hid (Below.refl w.heap.size w)
  unfold P at H
  have N0_0o := N0_0.out
  have N1_0o := N1_0.out
  go_enter Try.func10, Try.ntmps10
  obtain ⟨w_aA_0, hw_aA_0⟩ : ∃ x, w.alloc (.cells #[.slice A0_0 aA_rows.length c0_0] 24) = x := ⟨_, rfl⟩
  have bw_aA_0 : Below w.heap.size w w_aA_0 := by rw [← hw_aA_0]; exact (Below.refl _ _).alloc (Nat.le_refl _) _
  have HBw_aA_0 := Lib.hid (Below.step HB.out bw_aA_0)
  clear bw_aA_0
  have kaA_0_0 : w_aA_0.cell? ⟨w.heap.size, 0, none⟩ = some (.slice A0_0 aA_rows.length c0_0) := by rw [← hw_aA_0]; exact box_new _ _ _ 0 _ rfl
  obtain ⟨w_aB_1, hw_aB_1⟩ : ∃ x, w_aA_0.alloc (.cells #[.slice A1_0 aB_rows.length c1_0] 24) = x := ⟨_, rfl⟩
  have bw_aB_1 : Below w_aA_0.heap.size w_aA_0 w_aB_1 := by rw [← hw_aB_1]; exact (Below.refl _ _).alloc (Nat.le_refl _) _
  have HBw_aB_1 := Lib.hid (Below.step HBw_aA_0.out bw_aB_1)
  have kaA_0_0__15 := cell_below bw_aB_1 kaA_0_0
  clear bw_aB_1
  have kaB_1_0 : w_aB_1.cell? ⟨w_aA_0.heap.size, 0, none⟩ = some (.slice A1_0 aB_rows.length c1_0) := by rw [← hw_aB_1]; exact box_new _ _ _ 0 _ rfl
  replace H := bind_hid H
  obtain ⟨t_6, qt_6, H⟩ := H
  go_wp2_with fail
  clear kaA_0_0
  go_at_call 15
  refine (Go.Proofs.Ytfbdaedoofkcbaa.GlSzBlock.C (aA_rows) (1048576) A0_0 c0_0 _ (Lib.hid (Cells.below M0_0.out HBw_aB_1.out)) N0_0 qt_6).mono ?_
  rintro e_t_6 wt_6 ⟨rfl, bt_6⟩
  have HBwt_6 := Lib.hid (Below.step HBw_aB_1.out bt_6)
  replace kaA_0_0__15 := cell_below bt_6 kaA_0_0__15
  replace kaB_1_0 := cell_below bt_6 kaB_1_0
  clear bt_6
  replace H := let_hid H
  obtain ⟨t_9, ht_9, H⟩ := H
  cases t_9 with
  | false =>
    replace H := ite_f H
    replace H := bind_hid H
    obtain ⟨t_13, qt_13, H⟩ := H
    go_wp2_with fail
    go_at_call 15
    refine (Go.Proofs.Ytfbdaedoofkcbaa.GlSzBlock.C (aB_rows) (t_6) A1_0 c1_0 _ (Lib.hid (Cells.below M1_0.out HBwt_6.out)) N1_0 qt_13).mono ?_
    rintro e_t_13 wt_13 ⟨rfl, bt_13⟩
    have HBwt_13 := Lib.hid (Below.step HBwt_6.out bt_13)
    replace kaA_0_0__15 := cell_below bt_13 kaA_0_0__15
    replace kaB_1_0 := cell_below bt_13 kaB_1_0
    clear bt_13
    replace H := let_hid H
    obtain ⟨t_16, ht_16, H⟩ := H
    cases t_16 with
    | false =>
      replace H := ite_f H
      go_wp2_with fail
      have bd8 : Below wt_13.heap.size wt_13 wt_13.drew := (Below.refl _ _).drew
      have HBwt_13.drew := Lib.hid (Below.step HBwt_13.out bd8)
      replace kaA_0_0__15 := cell_below bd8 kaA_0_0__15
      replace kaB_1_0 := cell_below bd8 kaB_1_0
      clear bd8
      replace H := bind_hid H
      obtain ⟨t_19, qt_19, H⟩ := H
      obtain ⟨t_19_rows⟩ := t_19
      replace H := unBlock_hid H
      replace H := bind_hid H
      obtain ⟨t_21, qt_21, H⟩ := H
      obtain ⟨t_21_rows⟩ := t_21
      replace H := unBlock_hid H
      replace H := bind2_hid H
      obtain ⟨t_24a, t_24b, qt_24, H⟩ := H
      go_region_held3 (fun w' => w'.cell? ⟨w.heap.size, 0, none⟩ = some (.slice A0_0 aA_rows.length c0_0) ∧ w'.cell? ⟨w_aA_0.heap.size, 0, none⟩ = some (.slice A1_0 aB_rows.length c1_0)) (first | exact ⟨kaA_0_0__15, kaB_1_0⟩)
          (first
            | (go_at_call 17
               refine (Go.Proofs.Ytfbdaedoofkcbaa.GlToBlock.C (aA_rows) A0_0 c0_0 _ (Lib.hid (Cells.below M0_0.out HBwt_13.drew.out)) N0_0 qt_19).mono ?_
               rintro e_t_19 wt_19 ⟨At_19_rows, ct_19_rows, rfl, ot_19_rows, bt_19⟩
               have Dt_19_rows_aA_0 := Lib.hid (apart_callbox ot_19_rows kaA_0_0__15)
               have Dt_19_rows_aB_1 := Lib.hid (apart_callbox ot_19_rows kaB_1_0)
               have Ot_19_rows := Lib.hid (own_lower ot_19_rows HBwt_13.drew.out.size)
               clear ot_19_rows
               have HBwt_19 := Lib.hid (Below.step HBwt_13.drew.out bt_19)
               replace kaA_0_0__15 := cell_below bt_19 kaA_0_0__15
               replace kaB_1_0 := cell_below bt_19 kaB_1_0
               clear bt_19
               clear qt_19)
            | (go_at_call 17
               refine (Go.Proofs.Ytfbdaedoofkcbaa.GlToBlock.C (aB_rows) A1_0 c1_0 _ (Lib.hid (Cells.below M1_0.out HBwt_19.out)) N1_0 qt_21).mono ?_
               rintro e_t_21 wt_21 ⟨At_21_rows, ct_21_rows, rfl, ot_21_rows, bt_21⟩
               have Dt_21_rows_t_19_rows := Lib.hid (apart_call ot_21_rows Ot_19_rows.out)
               have Dt_21_rows_aA_0 := Lib.hid (apart_callbox ot_21_rows kaA_0_0__15)
               have Dt_21_rows_aB_1 := Lib.hid (apart_callbox ot_21_rows kaB_1_0)
               have Ot_21_rows := Lib.hid (own_lower ot_21_rows HBwt_19.out.size)
               clear ot_21_rows
               have HBwt_21 := Lib.hid (Below.step HBwt_19.out bt_21)
               replace kaA_0_0__15 := cell_below bt_21 kaA_0_0__15
               replace kaB_1_0 := cell_below bt_21 kaB_1_0
               replace Ot_19_rows := Lib.hid (own_below Ot_19_rows.out bt_21)
               clear bt_21
               clear qt_21)
            | (go_at_call 45
               refine (Go.Proofs.Ytfbdaedoofkcbaa.GsDoAgree.C fuel (t_19_rows) (t_21_rows) (aDown) (aRight) At_19_rows ct_19_rows At_21_rows ct_21_rows _ (Lib.hid (own_cells Ot_19_rows.out)) (Lib.hid (own_max Ot_19_rows.out)) (Lib.hid (own_cells Ot_21_rows.out)) (Lib.hid (own_max Ot_21_rows.out)) qt_24).mono ?_
               rintro e_t_24 wt_24 ⟨rfl, bt_24⟩
               have HBwt_24 := Lib.hid (Below.step HBwt_21.out bt_24)
               replace kaA_0_0__15 := cell_below bt_24 kaA_0_0__15
               replace kaB_1_0 := cell_below bt_24 kaB_1_0
               replace Ot_19_rows := Lib.hid (own_below Ot_19_rows.out bt_24)
               replace Ot_21_rows := Lib.hid (own_below Ot_21_rows.out bt_24)
               clear bt_24
               clear qt_24))
      replace H := bind_hid H
      obtain ⟨t_31, qt_31, H⟩ := H
      obtain ⟨t_31_rows⟩ := t_31
      replace H := unBlock_hid H
      go_wp2_with fail
      go_at_call 17
      refine (Go.Proofs.Ytfbdaedoofkcbaa.GlToBlock.C (aA_rows) A0_0 c0_0 _ (Lib.hid (Cells.below M0_0.out HBwt_24.out)) N0_0 qt_31).mono ?_
      rintro e_t_31 wt_31 ⟨At_31_rows, ct_31_rows, rfl, ot_31_rows, bt_31⟩
      have Dt_31_rows_t_19_rows := Lib.hid (apart_call ot_31_rows Ot_19_rows.out)
      have Dt_31_rows_t_21_rows := Lib.hid (apart_call ot_31_rows Ot_21_rows.out)
      have Dt_31_rows_aA_0 := Lib.hid (apart_callbox ot_31_rows kaA_0_0__15)
      have Dt_31_rows_aB_1 := Lib.hid (apart_callbox ot_31_rows kaB_1_0)
      have Ot_31_rows := Lib.hid (own_lower ot_31_rows HBwt_24.out.size)
      clear ot_31_rows
      have HBwt_31 := Lib.hid (Below.step HBwt_24.out bt_31)
      replace kaA_0_0__15 := cell_below bt_31 kaA_0_0__15
      replace kaB_1_0 := cell_below bt_31 kaB_1_0
      replace Ot_19_rows := Lib.hid (own_below Ot_19_rows.out bt_31)
      replace Ot_21_rows := Lib.hid (own_below Ot_21_rows.out bt_31)
      clear bt_31
      obtain ⟨w_x0_32, hw_x0_32⟩ : ∃ x, wt_31.alloc (.cells #[.slice At_31_rows t_31_rows.length ct_31_rows] 27) = x := ⟨_, rfl⟩
      have bw_x0_32 : Below wt_31.heap.size wt_31 w_x0_32 := by rw [← hw_x0_32]; exact (Below.refl _ _).alloc (Nat.le_refl _) _
      have Dx0_32_t_19_rows := Lib.hid (apart_fresh Ot_19_rows.out)
      have Dx0_32_t_21_rows := Lib.hid (apart_fresh Ot_21_rows.out)
      have Dx0_32_t_31_rows := Lib.hid (apart_fresh Ot_31_rows.out)
      have HBw_x0_32 := Lib.hid (Below.step HBwt_31.out bw_x0_32)
      have kaA_0_0__16 := cell_below bw_x0_32 kaA_0_0__15
      have kaB_1_0__17 := cell_below bw_x0_32 kaB_1_0
      replace Ot_19_rows := Lib.hid (own_below Ot_19_rows.out bw_x0_32)
      replace Ot_21_rows := Lib.hid (own_below Ot_21_rows.out bw_x0_32)
      replace Ot_31_rows := Lib.hid (own_below Ot_31_rows.out bw_x0_32)
      clear bw_x0_32
      have kx0_32_0 : w_x0_32.cell? ⟨wt_31.heap.size, 0, none⟩ = some (.slice At_31_rows t_31_rows.length ct_31_rows) := by rw [← hw_x0_32]; exact box_new _ _ _ 0 _ rfl
      replace H := bind_hid H
      obtain ⟨t_35, qt_35, H⟩ := H
      obtain ⟨t_35_rows⟩ := t_35
      replace H := unBlock_hid H
      go_wp2_with fail
      clear kaA_0_0__15 kaB_1_0
      go_at_call 17
      refine (Go.Proofs.Ytfbdaedoofkcbaa.GlToBlock.C (aB_rows) A1_0 c1_0 _ (Lib.hid (Cells.below M1_0.out HBw_x0_32.out)) N1_0 qt_35).mono ?_
      rintro e_t_35 wt_35 ⟨At_35_rows, ct_35_rows, rfl, ot_35_rows, bt_35⟩
      have Dt_35_rows_t_19_rows := Lib.hid (apart_call ot_35_rows Ot_19_rows.out)
      have Dt_35_rows_t_21_rows := Lib.hid (apart_call ot_35_rows Ot_21_rows.out)
      have Dt_35_rows_t_31_rows := Lib.hid (apart_call ot_35_rows Ot_31_rows.out)
      have Dt_35_rows_aA_0 := Lib.hid (apart_callbox ot_35_rows kaA_0_0__16)
      have Dt_35_rows_aB_1 := Lib.hid (apart_callbox ot_35_rows kaB_1_0__17)
      have Dt_35_rows_x0_32 := Lib.hid (apart_callbox ot_35_rows kx0_32_0)
      have Ot_35_rows := Lib.hid (own_lower ot_35_rows HBw_x0_32.out.size)
      clear ot_35_rows
      have HBwt_35 := Lib.hid (Below.step HBw_x0_32.out bt_35)
      replace kaA_0_0__16 := cell_below bt_35 kaA_0_0__16
      replace kaB_1_0__17 := cell_below bt_35 kaB_1_0__17
      replace kx0_32_0 := cell_below bt_35 kx0_32_0
      replace Ot_19_rows := Lib.hid (own_below Ot_19_rows.out bt_35)
      replace Ot_21_rows := Lib.hid (own_below Ot_21_rows.out bt_35)
      replace Ot_31_rows := Lib.hid (own_below Ot_31_rows.out bt_35)
      clear bt_35
      obtain ⟨w_x1_36, hw_x1_36⟩ : ∃ x, wt_35.alloc (.cells #[.slice At_35_rows t_35_rows.length ct_35_rows] 27) = x := ⟨_, rfl⟩
      have bw_x1_36 : Below wt_35.heap.size wt_35 w_x1_36 := by rw [← hw_x1_36]; exact (Below.refl _ _).alloc (Nat.le_refl _) _
      have Dx1_36_t_19_rows := Lib.hid (apart_fresh Ot_19_rows.out)
      have Dx1_36_t_21_rows := Lib.hid (apart_fresh Ot_21_rows.out)
      have Dx1_36_t_31_rows := Lib.hid (apart_fresh Ot_31_rows.out)
      have Dx1_36_t_35_rows := Lib.hid (apart_fresh Ot_35_rows.out)
      have HBw_x1_36 := Lib.hid (Below.step HBwt_35.out bw_x1_36)
      have kaA_0_0__18 := cell_below bw_x1_36 kaA_0_0__16
      have kaB_1_0__19 := cell_below bw_x1_36 kaB_1_0__17
      have kx0_32_0__20 := cell_below bw_x1_36 kx0_32_0
      replace Ot_19_rows := Lib.hid (own_below Ot_19_rows.out bw_x1_36)
      replace Ot_21_rows := Lib.hid (own_below Ot_21_rows.out bw_x1_36)
      replace Ot_31_rows := Lib.hid (own_below Ot_31_rows.out bw_x1_36)
      replace Ot_35_rows := Lib.hid (own_below Ot_35_rows.out bw_x1_36)
      clear bw_x1_36
      have kx1_36_0 : w_x1_36.cell? ⟨wt_35.heap.size, 0, none⟩ = some (.slice At_35_rows t_35_rows.length ct_35_rows) := by rw [← hw_x1_36]; exact box_new _ _ _ 0 _ rfl
      replace H := bind2_hid H
      obtain ⟨t_42a, t_42b, qt_42, H⟩ := H
      go_wp2_with fail
      clear kaA_0_0__16 kaB_1_0__17 kx0_32_0
      go_at_call 46
      refine (Go.Proofs.Ytfbdaedoofkcbaa.GiDoAgree.C (t_31_rows) (t_35_rows) (aDown) (aRight) At_31_rows ct_31_rows At_35_rows ct_35_rows _ (Lib.hid (own_cells Ot_31_rows.out)) (Lib.hid (own_max Ot_31_rows.out)) (Lib.hid (own_cells Ot_35_rows.out)) (Lib.hid (own_max Ot_35_rows.out)) qt_42).mono ?_
      rintro e_t_42 wt_42 ⟨rfl, bt_42⟩
      have HBwt_42 := Lib.hid (Below.step HBw_x1_36.out bt_42)
      replace kaA_0_0__18 := cell_below bt_42 kaA_0_0__18
      replace kaB_1_0__19 := cell_below bt_42 kaB_1_0__19
      replace kx0_32_0__20 := cell_below bt_42 kx0_32_0__20
      replace kx1_36_0 := cell_below bt_42 kx1_36_0
      replace Ot_19_rows := Lib.hid (own_below Ot_19_rows.out bt_42)
      replace Ot_21_rows := Lib.hid (own_below Ot_21_rows.out bt_42)
      replace Ot_31_rows := Lib.hid (own_below Ot_31_rows.out bt_42)
      replace Ot_35_rows := Lib.hid (own_below Ot_35_rows.out bt_42)
      clear bt_42
      cases t_42a with
      | false =>
        cases t_24a with
        | false =>
          replace H := let_hid H
          obtain ⟨t_50, ht_50, H⟩ := H
          obtain rfl : t_50 = false := ht_50.symm
          replace H := join_hid H
          replace H := ite_f H
          cases t_42b with
          | false =>
            cases t_24b with
            | false =>
              replace H := let_hid H
              obtain ⟨t_54, ht_54, H⟩ := H
              obtain rfl : t_54 = false := ht_54.symm
              replace H := app_hid H
              replace H := ite_f H
              go_wp2_with fail
              have bd14 : Below wt_42.heap.size wt_42 wt_42.drew := (Below.refl _ _).drew
              have HBwt_42.drew := Lib.hid (Below.step HBwt_42.out bd14)
              replace kaA_0_0__18 := cell_below bd14 kaA_0_0__18
              replace kaB_1_0__19 := cell_below bd14 kaB_1_0__19
              replace kx0_32_0__20 := cell_below bd14 kx0_32_0__20
              replace kx1_36_0 := cell_below bd14 kx1_36_0
              replace Ot_19_rows := Lib.hid (own_below Ot_19_rows.out bd14)
              replace Ot_21_rows := Lib.hid (own_below Ot_21_rows.out bd14)
              replace Ot_31_rows := Lib.hid (own_below Ot_31_rows.out bd14)
              replace Ot_35_rows := Lib.hid (own_below Ot_35_rows.out bd14)
              clear bd14
              replace H := bind_hid H
              obtain ⟨t_59, qt_59, H⟩ := H
              obtain ⟨t_59_rows⟩ := t_59
              replace H := unBlock_hid H
              replace H := bind_hid H
              obtain ⟨t_60, qt_60, H⟩ := H
              cases t_60 with
              | false =>
                replace H := let_hid H
                obtain ⟨t_61, ht_61, H⟩ := H
                obtain rfl : t_61 = true := ht_61.symm
                go_region_held3 (fun w' => w'.cell? ⟨w.heap.size, 0, none⟩ = some (.slice A0_0 aA_rows.length c0_0) ∧ w'.cell? ⟨w_aA_0.heap.size, 0, none⟩ = some (.slice A1_0 aB_rows.length c1_0) ∧ w'.cell? ⟨wt_31.heap.size, 0, none⟩ = some (.slice At_31_rows t_31_rows.length ct_31_rows) ∧ w'.cell? ⟨wt_35.heap.size, 0, none⟩ = some (.slice At_35_rows t_35_rows.length ct_35_rows)) (first | exact ⟨kaA_0_0__18, kaB_1_0__19, kx0_32_0__20, kx1_36_0⟩)
                    (first
                      | (go_at_call 17
                         refine (Go.Proofs.Ytfbdaedoofkcbaa.GlToBlock.C (aA_rows) A0_0 c0_0 _ (Lib.hid (Cells.below M0_0.out HBwt_42.drew.out)) N0_0 qt_59).mono ?_
                         rintro e_t_59 wt_59 ⟨At_59_rows, ct_59_rows, rfl, ot_59_rows, bt_59⟩
                         have Dt_59_rows_t_19_rows := Lib.hid (apart_call ot_59_rows Ot_19_rows.out)
                         have Dt_59_rows_t_21_rows := Lib.hid (apart_call ot_59_rows Ot_21_rows.out)
                         have Dt_59_rows_t_31_rows := Lib.hid (apart_call ot_59_rows Ot_31_rows.out)
                         have Dt_59_rows_t_35_rows := Lib.hid (apart_call ot_59_rows Ot_35_rows.out)
                         have Dt_59_rows_aA_0 := Lib.hid (apart_callbox ot_59_rows kaA_0_0__18)
                         have Dt_59_rows_aB_1 := Lib.hid (apart_callbox ot_59_rows kaB_1_0__19)
                         have Dt_59_rows_x0_32 := Lib.hid (apart_callbox ot_59_rows kx0_32_0__20)
                         have Dt_59_rows_x1_36 := Lib.hid (apart_callbox ot_59_rows kx1_36_0)
                         have Ot_59_rows := Lib.hid (own_lower ot_59_rows HBwt_42.drew.out.size)
                         clear ot_59_rows
                         have HBwt_59 := Lib.hid (Below.step HBwt_42.drew.out bt_59)
                         replace kaA_0_0__18 := cell_below bt_59 kaA_0_0__18
                         replace kaB_1_0__19 := cell_below bt_59 kaB_1_0__19
                         replace kx0_32_0__20 := cell_below bt_59 kx0_32_0__20
                         replace kx1_36_0 := cell_below bt_59 kx1_36_0
                         replace Ot_19_rows := Lib.hid (own_below Ot_19_rows.out bt_59)
                         replace Ot_21_rows := Lib.hid (own_below Ot_21_rows.out bt_59)
                         replace Ot_31_rows := Lib.hid (own_below Ot_31_rows.out bt_59)
                         replace Ot_35_rows := Lib.hid (own_below Ot_35_rows.out bt_59)
                         clear bt_59
                         clear qt_59)
                      | (go_at_call 19
                         refine (Go.Proofs.Ytfbdaedoofkcbaa.GlEqBlock.C (t_31_rows) (t_59_rows) At_31_rows ct_31_rows At_59_rows ct_59_rows _ (Lib.hid (own_cells Ot_31_rows.out)) (Lib.hid (own_max Ot_31_rows.out)) (Lib.hid (own_cells Ot_59_rows.out)) (Lib.hid (own_max Ot_59_rows.out)) qt_60).mono ?_
                         rintro e_t_60 wt_60 ⟨rfl, bt_60⟩
                         have HBwt_60 := Lib.hid (Below.step HBwt_59.out bt_60)
                         replace kaA_0_0__18 := cell_below bt_60 kaA_0_0__18
                         replace kaB_1_0__19 := cell_below bt_60 kaB_1_0__19
                         replace kx0_32_0__20 := cell_below bt_60 kx0_32_0__20
                         replace kx1_36_0 := cell_below bt_60 kx1_36_0
                         replace Ot_19_rows := Lib.hid (own_below Ot_19_rows.out bt_60)
                         replace Ot_21_rows := Lib.hid (own_below Ot_21_rows.out bt_60)
                         replace Ot_31_rows := Lib.hid (own_below Ot_31_rows.out bt_60)
                         replace Ot_35_rows := Lib.hid (own_below Ot_35_rows.out bt_60)
                         replace Ot_59_rows := Lib.hid (own_below Ot_59_rows.out bt_60)
                         clear bt_60
                         clear qt_60))
                replace H := ite_t H
                obtain rfl := ret_hid H
                go_wp2_with fail
                go_ret
                exact ⟨rfl, HBwt_60.out⟩
              | true =>
                replace H := let_hid H
                obtain ⟨t_61, ht_61, H⟩ := H
                obtain rfl : t_61 = false := ht_61.symm
                go_region_held3 (fun w' => w'.cell? ⟨w.heap.size, 0, none⟩ = some (.slice A0_0 aA_rows.length c0_0) ∧ w'.cell? ⟨w_aA_0.heap.size, 0, none⟩ = some (.slice A1_0 aB_rows.length c1_0) ∧ w'.cell? ⟨wt_31.heap.size, 0, none⟩ = some (.slice At_31_rows t_31_rows.length ct_31_rows) ∧ w'.cell? ⟨wt_35.heap.size, 0, none⟩ = some (.slice At_35_rows t_35_rows.length ct_35_rows)) (first | exact ⟨kaA_0_0__18, kaB_1_0__19, kx0_32_0__20, kx1_36_0⟩)
                    (first
                      | (go_at_call 17
                         refine (Go.Proofs.Ytfbdaedoofkcbaa.GlToBlock.C (aA_rows) A0_0 c0_0 _ (Lib.hid (Cells.below M0_0.out HBwt_42.drew.out)) N0_0 qt_59).mono ?_
                         rintro e_t_59 wt_59 ⟨At_59_rows, ct_59_rows, rfl, ot_59_rows, bt_59⟩
                         have Dt_59_rows_t_19_rows := Lib.hid (apart_call ot_59_rows Ot_19_rows.out)
                         have Dt_59_rows_t_21_rows := Lib.hid (apart_call ot_59_rows Ot_21_rows.out)
                         have Dt_59_rows_t_31_rows := Lib.hid (apart_call ot_59_rows Ot_31_rows.out)
                         have Dt_59_rows_t_35_rows := Lib.hid (apart_call ot_59_rows Ot_35_rows.out)
                         have Dt_59_rows_aA_0 := Lib.hid (apart_callbox ot_59_rows kaA_0_0__18)
                         have Dt_59_rows_aB_1 := Lib.hid (apart_callbox ot_59_rows kaB_1_0__19)
                         have Dt_59_rows_x0_32 := Lib.hid (apart_callbox ot_59_rows kx0_32_0__20)
                         have Dt_59_rows_x1_36 := Lib.hid (apart_callbox ot_59_rows kx1_36_0)
                         have Ot_59_rows := Lib.hid (own_lower ot_59_rows HBwt_42.drew.out.size)
                         clear ot_59_rows
                         have HBwt_59 := Lib.hid (Below.step HBwt_42.drew.out bt_59)
                         replace kaA_0_0__18 := cell_below bt_59 kaA_0_0__18
                         replace kaB_1_0__19 := cell_below bt_59 kaB_1_0__19
                         replace kx0_32_0__20 := cell_below bt_59 kx0_32_0__20
                         replace kx1_36_0 := cell_below bt_59 kx1_36_0
                         replace Ot_19_rows := Lib.hid (own_below Ot_19_rows.out bt_59)
                         replace Ot_21_rows := Lib.hid (own_below Ot_21_rows.out bt_59)
                         replace Ot_31_rows := Lib.hid (own_below Ot_31_rows.out bt_59)
                         replace Ot_35_rows := Lib.hid (own_below Ot_35_rows.out bt_59)
                         clear bt_59
                         clear qt_59)
                      | (go_at_call 19
                         refine (Go.Proofs.Ytfbdaedoofkcbaa.GlEqBlock.C (t_31_rows) (t_59_rows) At_31_rows ct_31_rows At_59_rows ct_59_rows _ (Lib.hid (own_cells Ot_31_rows.out)) (Lib.hid (own_max Ot_31_rows.out)) (Lib.hid (own_cells Ot_59_rows.out)) (Lib.hid (own_max Ot_59_rows.out)) qt_60).mono ?_
                         rintro e_t_60 wt_60 ⟨rfl, bt_60⟩
                         have HBwt_60 := Lib.hid (Below.step HBwt_59.out bt_60)
                         replace kaA_0_0__18 := cell_below bt_60 kaA_0_0__18
                         replace kaB_1_0__19 := cell_below bt_60 kaB_1_0__19
                         replace kx0_32_0__20 := cell_below bt_60 kx0_32_0__20
                         replace kx1_36_0 := cell_below bt_60 kx1_36_0
                         replace Ot_19_rows := Lib.hid (own_below Ot_19_rows.out bt_60)
                         replace Ot_21_rows := Lib.hid (own_below Ot_21_rows.out bt_60)
                         replace Ot_31_rows := Lib.hid (own_below Ot_31_rows.out bt_60)
                         replace Ot_35_rows := Lib.hid (own_below Ot_35_rows.out bt_60)
                         replace Ot_59_rows := Lib.hid (own_below Ot_59_rows.out bt_60)
                         clear bt_60
                         clear qt_60))
                replace H := ite_f H
                go_wp2_with fail
                have bd16 : Below wt_60.heap.size wt_60 wt_60.drew := (Below.refl _ _).drew
                have HBwt_60.drew := Lib.hid (Below.step HBwt_60.out bd16)
                replace kaA_0_0__18 := cell_below bd16 kaA_0_0__18
                replace kaB_1_0__19 := cell_below bd16 kaB_1_0__19
                replace kx0_32_0__20 := cell_below bd16 kx0_32_0__20
                replace kx1_36_0 := cell_below bd16 kx1_36_0
                replace Ot_19_rows := Lib.hid (own_below Ot_19_rows.out bd16)
                replace Ot_21_rows := Lib.hid (own_below Ot_21_rows.out bd16)
                replace Ot_31_rows := Lib.hid (own_below Ot_31_rows.out bd16)
                replace Ot_35_rows := Lib.hid (own_below Ot_35_rows.out bd16)
                replace Ot_59_rows := Lib.hid (own_below Ot_59_rows.out bd16)
                clear bd16
                replace H := bind_hid H
                obtain ⟨t_65, qt_65, H⟩ := H
                obtain ⟨t_65_rows⟩ := t_65
                replace H := unBlock_hid H
                replace H := bind_hid H
                obtain ⟨t_66, qt_66, H⟩ := H
                cases t_66 with
                | false =>
                  replace H := let_hid H
                  obtain ⟨t_67, ht_67, H⟩ := H
                  obtain rfl : t_67 = true := ht_67.symm
                  go_region_held3 (fun w' => w'.cell? ⟨w.heap.size, 0, none⟩ = some (.slice A0_0 aA_rows.length c0_0) ∧ w'.cell? ⟨w_aA_0.heap.size, 0, none⟩ = some (.slice A1_0 aB_rows.length c1_0) ∧ w'.cell? ⟨wt_31.heap.size, 0, none⟩ = some (.slice At_31_rows t_31_rows.length ct_31_rows) ∧ w'.cell? ⟨wt_35.heap.size, 0, none⟩ = some (.slice At_35_rows t_35_rows.length ct_35_rows)) (first | exact ⟨kaA_0_0__18, kaB_1_0__19, kx0_32_0__20, kx1_36_0⟩)
                      (first
                        | (go_at_call 17
                           refine (Go.Proofs.Ytfbdaedoofkcbaa.GlToBlock.C (aB_rows) A1_0 c1_0 _ (Lib.hid (Cells.below M1_0.out HBwt_60.drew.out)) N1_0 qt_65).mono ?_
                           rintro e_t_65 wt_65 ⟨At_65_rows, ct_65_rows, rfl, ot_65_rows, bt_65⟩
                           have Dt_65_rows_t_19_rows := Lib.hid (apart_call ot_65_rows Ot_19_rows.out)
                           have Dt_65_rows_t_21_rows := Lib.hid (apart_call ot_65_rows Ot_21_rows.out)
                           have Dt_65_rows_t_31_rows := Lib.hid (apart_call ot_65_rows Ot_31_rows.out)
                           have Dt_65_rows_t_35_rows := Lib.hid (apart_call ot_65_rows Ot_35_rows.out)
                           have Dt_65_rows_t_59_rows := Lib.hid (apart_call ot_65_rows Ot_59_rows.out)
                           have Dt_65_rows_aA_0 := Lib.hid (apart_callbox ot_65_rows kaA_0_0__18)
                           have Dt_65_rows_aB_1 := Lib.hid (apart_callbox ot_65_rows kaB_1_0__19)
                           have Dt_65_rows_x0_32 := Lib.hid (apart_callbox ot_65_rows kx0_32_0__20)
                           have Dt_65_rows_x1_36 := Lib.hid (apart_callbox ot_65_rows kx1_36_0)
                           have Ot_65_rows := Lib.hid (own_lower ot_65_rows HBwt_60.drew.out.size)
                           clear ot_65_rows
                           have HBwt_65 := Lib.hid (Below.step HBwt_60.drew.out bt_65)
                           replace kaA_0_0__18 := cell_below bt_65 kaA_0_0__18
                           replace kaB_1_0__19 := cell_below bt_65 kaB_1_0__19
                           replace kx0_32_0__20 := cell_below bt_65 kx0_32_0__20
                           replace kx1_36_0 := cell_below bt_65 kx1_36_0
                           replace Ot_19_rows := Lib.hid (own_below Ot_19_rows.out bt_65)
                           replace Ot_21_rows := Lib.hid (own_below Ot_21_rows.out bt_65)
                           replace Ot_31_rows := Lib.hid (own_below Ot_31_rows.out bt_65)
                           replace Ot_35_rows := Lib.hid (own_below Ot_35_rows.out bt_65)
                           replace Ot_59_rows := Lib.hid (own_below Ot_59_rows.out bt_65)
                           clear bt_65
                           clear qt_65)
                        | (go_at_call 19
                           refine (Go.Proofs.Ytfbdaedoofkcbaa.GlEqBlock.C (t_35_rows) (t_65_rows) At_35_rows ct_35_rows At_65_rows ct_65_rows _ (Lib.hid (own_cells Ot_35_rows.out)) (Lib.hid (own_max Ot_35_rows.out)) (Lib.hid (own_cells Ot_65_rows.out)) (Lib.hid (own_max Ot_65_rows.out)) qt_66).mono ?_
                           rintro e_t_66 wt_66 ⟨rfl, bt_66⟩
                           have HBwt_66 := Lib.hid (Below.step HBwt_65.out bt_66)
                           replace kaA_0_0__18 := cell_below bt_66 kaA_0_0__18
                           replace kaB_1_0__19 := cell_below bt_66 kaB_1_0__19
                           replace kx0_32_0__20 := cell_below bt_66 kx0_32_0__20
                           replace kx1_36_0 := cell_below bt_66 kx1_36_0
                           replace Ot_19_rows := Lib.hid (own_below Ot_19_rows.out bt_66)
                           replace Ot_21_rows := Lib.hid (own_below Ot_21_rows.out bt_66)
                           replace Ot_31_rows := Lib.hid (own_below Ot_31_rows.out bt_66)
                           replace Ot_35_rows := Lib.hid (own_below Ot_35_rows.out bt_66)
                           replace Ot_59_rows := Lib.hid (own_below Ot_59_rows.out bt_66)
                           replace Ot_65_rows := Lib.hid (own_below Ot_65_rows.out bt_66)
                           clear bt_66
                           clear qt_66))
                  replace H := ite_t H
                  obtain rfl := ret_hid H
                  go_wp2_with fail
                  go_ret
                  exact ⟨rfl, HBwt_66.out⟩
                | true =>
                  replace H := let_hid H
                  obtain ⟨t_67, ht_67, H⟩ := H
                  obtain rfl : t_67 = false := ht_67.symm
                  go_region_held3 (fun w' => w'.cell? ⟨w.heap.size, 0, none⟩ = some (.slice A0_0 aA_rows.length c0_0) ∧ w'.cell? ⟨w_aA_0.heap.size, 0, none⟩ = some (.slice A1_0 aB_rows.length c1_0) ∧ w'.cell? ⟨wt_31.heap.size, 0, none⟩ = some (.slice At_31_rows t_31_rows.length ct_31_rows) ∧ w'.cell? ⟨wt_35.heap.size, 0, none⟩ = some (.slice At_35_rows t_35_rows.length ct_35_rows)) (first | exact ⟨kaA_0_0__18, kaB_1_0__19, kx0_32_0__20, kx1_36_0⟩)
                      (first
                        | (go_at_call 17
                           refine (Go.Proofs.Ytfbdaedoofkcbaa.GlToBlock.C (aB_rows) A1_0 c1_0 _ (Lib.hid (Cells.below M1_0.out HBwt_60.drew.out)) N1_0 qt_65).mono ?_
                           rintro e_t_65 wt_65 ⟨At_65_rows, ct_65_rows, rfl, ot_65_rows, bt_65⟩
                           have Dt_65_rows_t_19_rows := Lib.hid (apart_call ot_65_rows Ot_19_rows.out)
                           have Dt_65_rows_t_21_rows := Lib.hid (apart_call ot_65_rows Ot_21_rows.out)
                           have Dt_65_rows_t_31_rows := Lib.hid (apart_call ot_65_rows Ot_31_rows.out)
                           have Dt_65_rows_t_35_rows := Lib.hid (apart_call ot_65_rows Ot_35_rows.out)
                           have Dt_65_rows_t_59_rows := Lib.hid (apart_call ot_65_rows Ot_59_rows.out)
                           have Dt_65_rows_aA_0 := Lib.hid (apart_callbox ot_65_rows kaA_0_0__18)
                           have Dt_65_rows_aB_1 := Lib.hid (apart_callbox ot_65_rows kaB_1_0__19)
                           have Dt_65_rows_x0_32 := Lib.hid (apart_callbox ot_65_rows kx0_32_0__20)
                           have Dt_65_rows_x1_36 := Lib.hid (apart_callbox ot_65_rows kx1_36_0)
                           have Ot_65_rows := Lib.hid (own_lower ot_65_rows HBwt_60.drew.out.size)
                           clear ot_65_rows
                           have HBwt_65 := Lib.hid (Below.step HBwt_60.drew.out bt_65)
                           replace kaA_0_0__18 := cell_below bt_65 kaA_0_0__18
                           replace kaB_1_0__19 := cell_below bt_65 kaB_1_0__19
                           replace kx0_32_0__20 := cell_below bt_65 kx0_32_0__20
                           replace kx1_36_0 := cell_below bt_65 kx1_36_0
                           replace Ot_19_rows := Lib.hid (own_below Ot_19_rows.out bt_65)
                           replace Ot_21_rows := Lib.hid (own_below Ot_21_rows.out bt_65)
                           replace Ot_31_rows := Lib.hid (own_below Ot_31_rows.out bt_65)
                           replace Ot_35_rows := Lib.hid (own_below Ot_35_rows.out bt_65)
                           replace Ot_59_rows := Lib.hid (own_below Ot_59_rows.out bt_65)
                           clear bt_65
                           clear qt_65)
                        | (go_at_call 19
                           refine (Go.Proofs.Ytfbdaedoofkcbaa.GlEqBlock.C (t_35_rows) (t_65_rows) At_35_rows ct_35_rows At_65_rows ct_65_rows _ (Lib.hid (own_cells Ot_35_rows.out)) (Lib.hid (own_max Ot_35_rows.out)) (Lib.hid (own_cells Ot_65_rows.out)) (Lib.hid (own_max Ot_65_rows.out)) qt_66).mono ?_
                           rintro e_t_66 wt_66 ⟨rfl, bt_66⟩
                           have HBwt_66 := Lib.hid (Below.step HBwt_65.out bt_66)
                           replace kaA_0_0__18 := cell_below bt_66 kaA_0_0__18
                           replace kaB_1_0__19 := cell_below bt_66 kaB_1_0__19
                           replace kx0_32_0__20 := cell_below bt_66 kx0_32_0__20
                           replace kx1_36_0 := cell_below bt_66 kx1_36_0
                           replace Ot_19_rows := Lib.hid (own_below Ot_19_rows.out bt_66)
                           replace Ot_21_rows := Lib.hid (own_below Ot_21_rows.out bt_66)
                           replace Ot_31_rows := Lib.hid (own_below Ot_31_rows.out bt_66)
                           replace Ot_35_rows := Lib.hid (own_below Ot_35_rows.out bt_66)
                           replace Ot_59_rows := Lib.hid (own_below Ot_59_rows.out bt_66)
                           replace Ot_65_rows := Lib.hid (own_below Ot_65_rows.out bt_66)
                           clear bt_66
                           clear qt_66))
                  replace H := ite_f H
                  obtain rfl := ret_hid H
                  go_wp2_with fail
                  go_ret
                  exact ⟨rfl, HBwt_66.out⟩
            | true =>
              replace H := let_hid H
              obtain ⟨t_54, ht_54, H⟩ := H
              obtain rfl : t_54 = true := ht_54.symm
              replace H := app_hid H
              replace H := ite_t H
              obtain rfl := ret_hid H
              go_wp2_with fail
              go_ret
              exact ⟨rfl, HBwt_42.out⟩
          | true =>
            cases t_24b with
            | false =>
              replace H := let_hid H
              obtain ⟨t_54, ht_54, H⟩ := H
              obtain rfl : t_54 = true := ht_54.symm
              replace H := app_hid H
              replace H := ite_t H
              obtain rfl := ret_hid H
              go_wp2_with fail
              go_ret
              exact ⟨rfl, HBwt_42.out⟩
            | true =>
              replace H := let_hid H
              obtain ⟨t_54, ht_54, H⟩ := H
              obtain rfl : t_54 = false := ht_54.symm
              replace H := app_hid H
              replace H := ite_f H
              go_wp2_with fail
              have bd14 : Below wt_42.heap.size wt_42 wt_42.drew := (Below.refl _ _).drew
              have HBwt_42.drew := Lib.hid (Below.step HBwt_42.out bd14)
              replace kaA_0_0__18 := cell_below bd14 kaA_0_0__18
              replace kaB_1_0__19 := cell_below bd14 kaB_1_0__19
              replace kx0_32_0__20 := cell_below bd14 kx0_32_0__20
              replace kx1_36_0 := cell_below bd14 kx1_36_0
              replace Ot_19_rows := Lib.hid (own_below Ot_19_rows.out bd14)
              replace Ot_21_rows := Lib.hid (own_below Ot_21_rows.out bd14)
              replace Ot_31_rows := Lib.hid (own_below Ot_31_rows.out bd14)
              replace Ot_35_rows := Lib.hid (own_below Ot_35_rows.out bd14)
              clear bd14
              replace H := bind_hid H
              obtain ⟨t_59, qt_59, H⟩ := H
              obtain ⟨t_59_rows⟩ := t_59
              replace H := unBlock_hid H
              replace H := bind_hid H
              obtain ⟨t_60, qt_60, H⟩ := H
              cases t_60 with
              | false =>
                replace H := let_hid H
                obtain ⟨t_61, ht_61, H⟩ := H
                obtain rfl : t_61 = true := ht_61.symm
                go_region_held3 (fun w' => w'.cell? ⟨w.heap.size, 0, none⟩ = some (.slice A0_0 aA_rows.length c0_0) ∧ w'.cell? ⟨w_aA_0.heap.size, 0, none⟩ = some (.slice A1_0 aB_rows.length c1_0) ∧ w'.cell? ⟨wt_31.heap.size, 0, none⟩ = some (.slice At_31_rows t_31_rows.length ct_31_rows) ∧ w'.cell? ⟨wt_35.heap.size, 0, none⟩ = some (.slice At_35_rows t_35_rows.length ct_35_rows)) (first | exact ⟨kaA_0_0__18, kaB_1_0__19, kx0_32_0__20, kx1_36_0⟩)
                    (first
                      | (go_at_call 17
                         refine (Go.Proofs.Ytfbdaedoofkcbaa.GlToBlock.C (aA_rows) A0_0 c0_0 _ (Lib.hid (Cells.below M0_0.out HBwt_42.drew.out)) N0_0 qt_59).mono ?_
                         rintro e_t_59 wt_59 ⟨At_59_rows, ct_59_rows, rfl, ot_59_rows, bt_59⟩
                         have Dt_59_rows_t_19_rows := Lib.hid (apart_call ot_59_rows Ot_19_rows.out)
                         have Dt_59_rows_t_21_rows := Lib.hid (apart_call ot_59_rows Ot_21_rows.out)
                         have Dt_59_rows_t_31_rows := Lib.hid (apart_call ot_59_rows Ot_31_rows.out)
                         have Dt_59_rows_t_35_rows := Lib.hid (apart_call ot_59_rows Ot_35_rows.out)
                         have Dt_59_rows_aA_0 := Lib.hid (apart_callbox ot_59_rows kaA_0_0__18)
                         have Dt_59_rows_aB_1 := Lib.hid (apart_callbox ot_59_rows kaB_1_0__19)
                         have Dt_59_rows_x0_32 := Lib.hid (apart_callbox ot_59_rows kx0_32_0__20)
                         have Dt_59_rows_x1_36 := Lib.hid (apart_callbox ot_59_rows kx1_36_0)
                         have Ot_59_rows := Lib.hid (own_lower ot_59_rows HBwt_42.drew.out.size)
                         clear ot_59_rows
                         have HBwt_59 := Lib.hid (Below.step HBwt_42.drew.out bt_59)
                         replace kaA_0_0__18 := cell_below bt_59 kaA_0_0__18
                         replace kaB_1_0__19 := cell_below bt_59 kaB_1_0__19
                         replace kx0_32_0__20 := cell_below bt_59 kx0_32_0__20
                         replace kx1_36_0 := cell_below bt_59 kx1_36_0
                         replace Ot_19_rows := Lib.hid (own_below Ot_19_rows.out bt_59)
                         replace Ot_21_rows := Lib.hid (own_below Ot_21_rows.out bt_59)
                         replace Ot_31_rows := Lib.hid (own_below Ot_31_rows.out bt_59)
                         replace Ot_35_rows := Lib.hid (own_below Ot_35_rows.out bt_59)
                         clear bt_59
                         clear qt_59)
                      | (go_at_call 19
                         refine (Go.Proofs.Ytfbdaedoofkcbaa.GlEqBlock.C (t_31_rows) (t_59_rows) At_31_rows ct_31_rows At_59_rows ct_59_rows _ (Lib.hid (own_cells Ot_31_rows.out)) (Lib.hid (own_max Ot_31_rows.out)) (Lib.hid (own_cells Ot_59_rows.out)) (Lib.hid (own_max Ot_59_rows.out)) qt_60).mono ?_
                         rintro e_t_60 wt_60 ⟨rfl, bt_60⟩
                         have HBwt_60 := Lib.hid (Below.step HBwt_59.out bt_60)
                         replace kaA_0_0__18 := cell_below bt_60 kaA_0_0__18
                         replace kaB_1_0__19 := cell_below bt_60 kaB_1_0__19
                         replace kx0_32_0__20 := cell_below bt_60 kx0_32_0__20
                         replace kx1_36_0 := cell_below bt_60 kx1_36_0
                         replace Ot_19_rows := Lib.hid (own_below Ot_19_rows.out bt_60)
                         replace Ot_21_rows := Lib.hid (own_below Ot_21_rows.out bt_60)
                         replace Ot_31_rows := Lib.hid (own_below Ot_31_rows.out bt_60)
                         replace Ot_35_rows := Lib.hid (own_below Ot_35_rows.out bt_60)
                         replace Ot_59_rows := Lib.hid (own_below Ot_59_rows.out bt_60)
                         clear bt_60
                         clear qt_60))
                replace H := ite_t H
                obtain rfl := ret_hid H
                go_wp2_with fail
                go_ret
                exact ⟨rfl, HBwt_60.out⟩
              | true =>
                replace H := let_hid H
                obtain ⟨t_61, ht_61, H⟩ := H
                obtain rfl : t_61 = false := ht_61.symm
                go_region_held3 (fun w' => w'.cell? ⟨w.heap.size, 0, none⟩ = some (.slice A0_0 aA_rows.length c0_0) ∧ w'.cell? ⟨w_aA_0.heap.size, 0, none⟩ = some (.slice A1_0 aB_rows.length c1_0) ∧ w'.cell? ⟨wt_31.heap.size, 0, none⟩ = some (.slice At_31_rows t_31_rows.length ct_31_rows) ∧ w'.cell? ⟨wt_35.heap.size, 0, none⟩ = some (.slice At_35_rows t_35_rows.length ct_35_rows)) (first | exact ⟨kaA_0_0__18, kaB_1_0__19, kx0_32_0__20, kx1_36_0⟩)
                    (first
                      | (go_at_call 17
                         refine (Go.Proofs.Ytfbdaedoofkcbaa.GlToBlock.C (aA_rows) A0_0 c0_0 _ (Lib.hid (Cells.below M0_0.out HBwt_42.drew.out)) N0_0 qt_59).mono ?_
                         rintro e_t_59 wt_59 ⟨At_59_rows, ct_59_rows, rfl, ot_59_rows, bt_59⟩
                         have Dt_59_rows_t_19_rows := Lib.hid (apart_call ot_59_rows Ot_19_rows.out)
                         have Dt_59_rows_t_21_rows := Lib.hid (apart_call ot_59_rows Ot_21_rows.out)
                         have Dt_59_rows_t_31_rows := Lib.hid (apart_call ot_59_rows Ot_31_rows.out)
                         have Dt_59_rows_t_35_rows := Lib.hid (apart_call ot_59_rows Ot_35_rows.out)
                         have Dt_59_rows_aA_0 := Lib.hid (apart_callbox ot_59_rows kaA_0_0__18)
                         have Dt_59_rows_aB_1 := Lib.hid (apart_callbox ot_59_rows kaB_1_0__19)
                         have Dt_59_rows_x0_32 := Lib.hid (apart_callbox ot_59_rows kx0_32_0__20)
                         have Dt_59_rows_x1_36 := Lib.hid (apart_callbox ot_59_rows kx1_36_0)
                         have Ot_59_rows := Lib.hid (own_lower ot_59_rows HBwt_42.drew.out.size)
                         clear ot_59_rows
                         have HBwt_59 := Lib.hid (Below.step HBwt_42.drew.out bt_59)
                         replace kaA_0_0__18 := cell_below bt_59 kaA_0_0__18
                         replace kaB_1_0__19 := cell_below bt_59 kaB_1_0__19
                         replace kx0_32_0__20 := cell_below bt_59 kx0_32_0__20
                         replace kx1_36_0 := cell_below bt_59 kx1_36_0
                         replace Ot_19_rows := Lib.hid (own_below Ot_19_rows.out bt_59)
                         replace Ot_21_rows := Lib.hid (own_below Ot_21_rows.out bt_59)
                         replace Ot_31_rows := Lib.hid (own_below Ot_31_rows.out bt_59)
                         replace Ot_35_rows := Lib.hid (own_below Ot_35_rows.out bt_59)
                         clear bt_59
                         clear qt_59)
                      | (go_at_call 19
                         refine (Go.Proofs.Ytfbdaedoofkcbaa.GlEqBlock.C (t_31_rows) (t_59_rows) At_31_rows ct_31_rows At_59_rows ct_59_rows _ (Lib.hid (own_cells Ot_31_rows.out)) (Lib.hid (own_max Ot_31_rows.out)) (Lib.hid (own_cells Ot_59_rows.out)) (Lib.hid (own_max Ot_59_rows.out)) qt_60).mono ?_
                         rintro e_t_60 wt_60 ⟨rfl, bt_60⟩
                         have HBwt_60 := Lib.hid (Below.step HBwt_59.out bt_60)
                         replace kaA_0_0__18 := cell_below bt_60 kaA_0_0__18
                         replace kaB_1_0__19 := cell_below bt_60 kaB_1_0__19
                         replace kx0_32_0__20 := cell_below bt_60 kx0_32_0__20
                         replace kx1_36_0 := cell_below bt_60 kx1_36_0
                         replace Ot_19_rows := Lib.hid (own_below Ot_19_rows.out bt_60)
                         replace Ot_21_rows := Lib.hid (own_below Ot_21_rows.out bt_60)
                         replace Ot_31_rows := Lib.hid (own_below Ot_31_rows.out bt_60)
                         replace Ot_35_rows := Lib.hid (own_below Ot_35_rows.out bt_60)
                         replace Ot_59_rows := Lib.hid (own_below Ot_59_rows.out bt_60)
                         clear bt_60
                         clear qt_60))
                replace H := ite_f H
                go_wp2_with fail
                have bd16 : Below wt_60.heap.size wt_60 wt_60.drew := (Below.refl _ _).drew
                have HBwt_60.drew := Lib.hid (Below.step HBwt_60.out bd16)
                replace kaA_0_0__18 := cell_below bd16 kaA_0_0__18
                replace kaB_1_0__19 := cell_below bd16 kaB_1_0__19
                replace kx0_32_0__20 := cell_below bd16 kx0_32_0__20
                replace kx1_36_0 := cell_below bd16 kx1_36_0
                replace Ot_19_rows := Lib.hid (own_below Ot_19_rows.out bd16)
                replace Ot_21_rows := Lib.hid (own_below Ot_21_rows.out bd16)
                replace Ot_31_rows := Lib.hid (own_below Ot_31_rows.out bd16)
                replace Ot_35_rows := Lib.hid (own_below Ot_35_rows.out bd16)
                replace Ot_59_rows := Lib.hid (own_below Ot_59_rows.out bd16)
                clear bd16
                replace H := bind_hid H
                obtain ⟨t_65, qt_65, H⟩ := H
                obtain ⟨t_65_rows⟩ := t_65
                replace H := unBlock_hid H
                replace H := bind_hid H
                obtain ⟨t_66, qt_66, H⟩ := H
                cases t_66 with
                | false =>
                  replace H := let_hid H
                  obtain ⟨t_67, ht_67, H⟩ := H
                  obtain rfl : t_67 = true := ht_67.symm
                  go_region_held3 (fun w' => w'.cell? ⟨w.heap.size, 0, none⟩ = some (.slice A0_0 aA_rows.length c0_0) ∧ w'.cell? ⟨w_aA_0.heap.size, 0, none⟩ = some (.slice A1_0 aB_rows.length c1_0) ∧ w'.cell? ⟨wt_31.heap.size, 0, none⟩ = some (.slice At_31_rows t_31_rows.length ct_31_rows) ∧ w'.cell? ⟨wt_35.heap.size, 0, none⟩ = some (.slice At_35_rows t_35_rows.length ct_35_rows)) (first | exact ⟨kaA_0_0__18, kaB_1_0__19, kx0_32_0__20, kx1_36_0⟩)
                      (first
                        | (go_at_call 17
                           refine (Go.Proofs.Ytfbdaedoofkcbaa.GlToBlock.C (aB_rows) A1_0 c1_0 _ (Lib.hid (Cells.below M1_0.out HBwt_60.drew.out)) N1_0 qt_65).mono ?_
                           rintro e_t_65 wt_65 ⟨At_65_rows, ct_65_rows, rfl, ot_65_rows, bt_65⟩
                           have Dt_65_rows_t_19_rows := Lib.hid (apart_call ot_65_rows Ot_19_rows.out)
                           have Dt_65_rows_t_21_rows := Lib.hid (apart_call ot_65_rows Ot_21_rows.out)
                           have Dt_65_rows_t_31_rows := Lib.hid (apart_call ot_65_rows Ot_31_rows.out)
                           have Dt_65_rows_t_35_rows := Lib.hid (apart_call ot_65_rows Ot_35_rows.out)
                           have Dt_65_rows_t_59_rows := Lib.hid (apart_call ot_65_rows Ot_59_rows.out)
                           have Dt_65_rows_aA_0 := Lib.hid (apart_callbox ot_65_rows kaA_0_0__18)
                           have Dt_65_rows_aB_1 := Lib.hid (apart_callbox ot_65_rows kaB_1_0__19)
                           have Dt_65_rows_x0_32 := Lib.hid (apart_callbox ot_65_rows kx0_32_0__20)
                           have Dt_65_rows_x1_36 := Lib.hid (apart_callbox ot_65_rows kx1_36_0)
                           have Ot_65_rows := Lib.hid (own_lower ot_65_rows HBwt_60.drew.out.size)
                           clear ot_65_rows
                           have HBwt_65 := Lib.hid (Below.step HBwt_60.drew.out bt_65)
                           replace kaA_0_0__18 := cell_below bt_65 kaA_0_0__18
                           replace kaB_1_0__19 := cell_below bt_65 kaB_1_0__19
                           replace kx0_32_0__20 := cell_below bt_65 kx0_32_0__20
                           replace kx1_36_0 := cell_below bt_65 kx1_36_0
                           replace Ot_19_rows := Lib.hid (own_below Ot_19_rows.out bt_65)
                           replace Ot_21_rows := Lib.hid (own_below Ot_21_rows.out bt_65)
                           replace Ot_31_rows := Lib.hid (own_below Ot_31_rows.out bt_65)
                           replace Ot_35_rows := Lib.hid (own_below Ot_35_rows.out bt_65)
                           replace Ot_59_rows := Lib.hid (own_below Ot_59_rows.out bt_65)
                           clear bt_65
                           clear qt_65)
                        | (go_at_call 19
                           refine (Go.Proofs.Ytfbdaedoofkcbaa.GlEqBlock.C (t_35_rows) (t_65_rows) At_35_rows ct_35_rows At_65_rows ct_65_rows _ (Lib.hid (own_cells Ot_35_rows.out)) (Lib.hid (own_max Ot_35_rows.out)) (Lib.hid (own_cells Ot_65_rows.out)) (Lib.hid (own_max Ot_65_rows.out)) qt_66).mono ?_
                           rintro e_t_66 wt_66 ⟨rfl, bt_66⟩
                           have HBwt_66 := Lib.hid (Below.step HBwt_65.out bt_66)
                           replace kaA_0_0__18 := cell_below bt_66 kaA_0_0__18
                           replace kaB_1_0__19 := cell_below bt_66 kaB_1_0__19
                           replace kx0_32_0__20 := cell_below bt_66 kx0_32_0__20
                           replace kx1_36_0 := cell_below bt_66 kx1_36_0
                           replace Ot_19_rows := Lib.hid (own_below Ot_19_rows.out bt_66)
                           replace Ot_21_rows := Lib.hid (own_below Ot_21_rows.out bt_66)
                           replace Ot_31_rows := Lib.hid (own_below Ot_31_rows.out bt_66)
                           replace Ot_35_rows := Lib.hid (own_below Ot_35_rows.out bt_66)
                           replace Ot_59_rows := Lib.hid (own_below Ot_59_rows.out bt_66)
                           replace Ot_65_rows := Lib.hid (own_below Ot_65_rows.out bt_66)
                           clear bt_66
                           clear qt_66))
                  replace H := ite_t H
                  obtain rfl := ret_hid H
                  go_wp2_with fail
                  go_ret
                  exact ⟨rfl, HBwt_66.out⟩
                | true =>
                  replace H := let_hid H
                  obtain ⟨t_67, ht_67, H⟩ := H
                  obtain rfl : t_67 = false := ht_67.symm
                  go_region_held3 (fun w' => w'.cell? ⟨w.heap.size, 0, none⟩ = some (.slice A0_0 aA_rows.length c0_0) ∧ w'.cell? ⟨w_aA_0.heap.size, 0, none⟩ = some (.slice A1_0 aB_rows.length c1_0) ∧ w'.cell? ⟨wt_31.heap.size, 0, none⟩ = some (.slice At_31_rows t_31_rows.length ct_31_rows) ∧ w'.cell? ⟨wt_35.heap.size, 0, none⟩ = some (.slice At_35_rows t_35_rows.length ct_35_rows)) (first | exact ⟨kaA_0_0__18, kaB_1_0__19, kx0_32_0__20, kx1_36_0⟩)
                      (first
                        | (go_at_call 17
                           refine (Go.Proofs.Ytfbdaedoofkcbaa.GlToBlock.C (aB_rows) A1_0 c1_0 _ (Lib.hid (Cells.below M1_0.out HBwt_60.drew.out)) N1_0 qt_65).mono ?_
                           rintro e_t_65 wt_65 ⟨At_65_rows, ct_65_rows, rfl, ot_65_rows, bt_65⟩
                           have Dt_65_rows_t_19_rows := Lib.hid (apart_call ot_65_rows Ot_19_rows.out)
                           have Dt_65_rows_t_21_rows := Lib.hid (apart_call ot_65_rows Ot_21_rows.out)
                           have Dt_65_rows_t_31_rows := Lib.hid (apart_call ot_65_rows Ot_31_rows.out)
                           have Dt_65_rows_t_35_rows := Lib.hid (apart_call ot_65_rows Ot_35_rows.out)
                           have Dt_65_rows_t_59_rows := Lib.hid (apart_call ot_65_rows Ot_59_rows.out)
                           have Dt_65_rows_aA_0 := Lib.hid (apart_callbox ot_65_rows kaA_0_0__18)
                           have Dt_65_rows_aB_1 := Lib.hid (apart_callbox ot_65_rows kaB_1_0__19)
                           have Dt_65_rows_x0_32 := Lib.hid (apart_callbox ot_65_rows kx0_32_0__20)
                           have Dt_65_rows_x1_36 := Lib.hid (apart_callbox ot_65_rows kx1_36_0)
                           have Ot_65_rows := Lib.hid (own_lower ot_65_rows HBwt_60.drew.out.size)
                           clear ot_65_rows
                           have HBwt_65 := Lib.hid (Below.step HBwt_60.drew.out bt_65)
                           replace kaA_0_0__18 := cell_below bt_65 kaA_0_0__18
                           replace kaB_1_0__19 := cell_below bt_65 kaB_1_0__19
                           replace kx0_32_0__20 := cell_below bt_65 kx0_32_0__20
                           replace kx1_36_0 := cell_below bt_65 kx1_36_0
                           replace Ot_19_rows := Lib.hid (own_below Ot_19_rows.out bt_65)
                           replace Ot_21_rows := Lib.hid (own_below Ot_21_rows.out bt_65)
                           replace Ot_31_rows := Lib.hid (own_below Ot_31_rows.out bt_65)
                           replace Ot_35_rows := Lib.hid (own_below Ot_35_rows.out bt_65)
                           replace Ot_59_rows := Lib.hid (own_below Ot_59_rows.out bt_65)
                           clear bt_65
                           clear qt_65)
                        | (go_at_call 19
                           refine (Go.Proofs.Ytfbdaedoofkcbaa.GlEqBlock.C (t_35_rows) (t_65_rows) At_35_rows ct_35_rows At_65_rows ct_65_rows _ (Lib.hid (own_cells Ot_35_rows.out)) (Lib.hid (own_max Ot_35_rows.out)) (Lib.hid (own_cells Ot_65_rows.out)) (Lib.hid (own_max Ot_65_rows.out)) qt_66).mono ?_
                           rintro e_t_66 wt_66 ⟨rfl, bt_66⟩
                           have HBwt_66 := Lib.hid (Below.step HBwt_65.out bt_66)
                           replace kaA_0_0__18 := cell_below bt_66 kaA_0_0__18
                           replace kaB_1_0__19 := cell_below bt_66 kaB_1_0__19
                           replace kx0_32_0__20 := cell_below bt_66 kx0_32_0__20
                           replace kx1_36_0 := cell_below bt_66 kx1_36_0
                           replace Ot_19_rows := Lib.hid (own_below Ot_19_rows.out bt_66)
                           replace Ot_21_rows := Lib.hid (own_below Ot_21_rows.out bt_66)
                           replace Ot_31_rows := Lib.hid (own_below Ot_31_rows.out bt_66)
                           replace Ot_35_rows := Lib.hid (own_below Ot_35_rows.out bt_66)
                           replace Ot_59_rows := Lib.hid (own_below Ot_59_rows.out bt_66)
                           replace Ot_65_rows := Lib.hid (own_below Ot_65_rows.out bt_66)
                           clear bt_66
                           clear qt_66))
                  replace H := ite_f H
                  obtain rfl := ret_hid H
                  go_wp2_with fail
                  go_ret
                  exact ⟨rfl, HBwt_66.out⟩
        | true =>
          replace H := let_hid H
          obtain ⟨t_50, ht_50, H⟩ := H
          obtain rfl : t_50 = true := ht_50.symm
          replace H := join_hid H
          replace H := ite_t H
          replace H := app_hid H
          replace H := ite_t H
          obtain rfl := ret_hid H
          go_wp2_with fail
          go_ret
          exact ⟨rfl, HBwt_42.out⟩
      | true =>
        cases t_24a with
        | false =>
          replace H := let_hid H
          obtain ⟨t_50, ht_50, H⟩ := H
          obtain rfl : t_50 = true := ht_50.symm
          replace H := join_hid H
          replace H := ite_t H
          replace H := app_hid H
          replace H := ite_t H
          obtain rfl := ret_hid H
          go_wp2_with fail
          go_ret
          exact ⟨rfl, HBwt_42.out⟩
        | true =>
          replace H := let_hid H
          obtain ⟨t_50, ht_50, H⟩ := H
          obtain rfl : t_50 = false := ht_50.symm
          replace H := join_hid H
          replace H := ite_f H
          cases t_42b with
          | false =>
            cases t_24b with
            | false =>
              replace H := let_hid H
              obtain ⟨t_54, ht_54, H⟩ := H
              obtain rfl : t_54 = false := ht_54.symm
              replace H := app_hid H
              replace H := ite_f H
              go_wp2_with fail
              have bd14 : Below wt_42.heap.size wt_42 wt_42.drew := (Below.refl _ _).drew
              have HBwt_42.drew := Lib.hid (Below.step HBwt_42.out bd14)
              replace kaA_0_0__18 := cell_below bd14 kaA_0_0__18
              replace kaB_1_0__19 := cell_below bd14 kaB_1_0__19
              replace kx0_32_0__20 := cell_below bd14 kx0_32_0__20
              replace kx1_36_0 := cell_below bd14 kx1_36_0
              replace Ot_19_rows := Lib.hid (own_below Ot_19_rows.out bd14)
              replace Ot_21_rows := Lib.hid (own_below Ot_21_rows.out bd14)
              replace Ot_31_rows := Lib.hid (own_below Ot_31_rows.out bd14)
              replace Ot_35_rows := Lib.hid (own_below Ot_35_rows.out bd14)
              clear bd14
              replace H := bind_hid H
              obtain ⟨t_59, qt_59, H⟩ := H
              obtain ⟨t_59_rows⟩ := t_59
              replace H := unBlock_hid H
              replace H := bind_hid H
              obtain ⟨t_60, qt_60, H⟩ := H
              cases t_60 with
              | false =>
                replace H := let_hid H
                obtain ⟨t_61, ht_61, H⟩ := H
                obtain rfl : t_61 = true := ht_61.symm
                go_region_held3 (fun w' => w'.cell? ⟨w.heap.size, 0, none⟩ = some (.slice A0_0 aA_rows.length c0_0) ∧ w'.cell? ⟨w_aA_0.heap.size, 0, none⟩ = some (.slice A1_0 aB_rows.length c1_0) ∧ w'.cell? ⟨wt_31.heap.size, 0, none⟩ = some (.slice At_31_rows t_31_rows.length ct_31_rows) ∧ w'.cell? ⟨wt_35.heap.size, 0, none⟩ = some (.slice At_35_rows t_35_rows.length ct_35_rows)) (first | exact ⟨kaA_0_0__18, kaB_1_0__19, kx0_32_0__20, kx1_36_0⟩)
                    (first
                      | (go_at_call 17
                         refine (Go.Proofs.Ytfbdaedoofkcbaa.GlToBlock.C (aA_rows) A0_0 c0_0 _ (Lib.hid (Cells.below M0_0.out HBwt_42.drew.out)) N0_0 qt_59).mono ?_
                         rintro e_t_59 wt_59 ⟨At_59_rows, ct_59_rows, rfl, ot_59_rows, bt_59⟩
                         have Dt_59_rows_t_19_rows := Lib.hid (apart_call ot_59_rows Ot_19_rows.out)
                         have Dt_59_rows_t_21_rows := Lib.hid (apart_call ot_59_rows Ot_21_rows.out)
                         have Dt_59_rows_t_31_rows := Lib.hid (apart_call ot_59_rows Ot_31_rows.out)
                         have Dt_59_rows_t_35_rows := Lib.hid (apart_call ot_59_rows Ot_35_rows.out)
                         have Dt_59_rows_aA_0 := Lib.hid (apart_callbox ot_59_rows kaA_0_0__18)
                         have Dt_59_rows_aB_1 := Lib.hid (apart_callbox ot_59_rows kaB_1_0__19)
                         have Dt_59_rows_x0_32 := Lib.hid (apart_callbox ot_59_rows kx0_32_0__20)
                         have Dt_59_rows_x1_36 := Lib.hid (apart_callbox ot_59_rows kx1_36_0)
                         have Ot_59_rows := Lib.hid (own_lower ot_59_rows HBwt_42.drew.out.size)
                         clear ot_59_rows
                         have HBwt_59 := Lib.hid (Below.step HBwt_42.drew.out bt_59)
                         replace kaA_0_0__18 := cell_below bt_59 kaA_0_0__18
                         replace kaB_1_0__19 := cell_below bt_59 kaB_1_0__19
                         replace kx0_32_0__20 := cell_below bt_59 kx0_32_0__20
                         replace kx1_36_0 := cell_below bt_59 kx1_36_0
                         replace Ot_19_rows := Lib.hid (own_below Ot_19_rows.out bt_59)
                         replace Ot_21_rows := Lib.hid (own_below Ot_21_rows.out bt_59)
                         replace Ot_31_rows := Lib.hid (own_below Ot_31_rows.out bt_59)
                         replace Ot_35_rows := Lib.hid (own_below Ot_35_rows.out bt_59)
                         clear bt_59
                         clear qt_59)
                      | (go_at_call 19
                         refine (Go.Proofs.Ytfbdaedoofkcbaa.GlEqBlock.C (t_31_rows) (t_59_rows) At_31_rows ct_31_rows At_59_rows ct_59_rows _ (Lib.hid (own_cells Ot_31_rows.out)) (Lib.hid (own_max Ot_31_rows.out)) (Lib.hid (own_cells Ot_59_rows.out)) (Lib.hid (own_max Ot_59_rows.out)) qt_60).mono ?_
                         rintro e_t_60 wt_60 ⟨rfl, bt_60⟩
                         have HBwt_60 := Lib.hid (Below.step HBwt_59.out bt_60)
                         replace kaA_0_0__18 := cell_below bt_60 kaA_0_0__18
                         replace kaB_1_0__19 := cell_below bt_60 kaB_1_0__19
                         replace kx0_32_0__20 := cell_below bt_60 kx0_32_0__20
                         replace kx1_36_0 := cell_below bt_60 kx1_36_0
                         replace Ot_19_rows := Lib.hid (own_below Ot_19_rows.out bt_60)
                         replace Ot_21_rows := Lib.hid (own_below Ot_21_rows.out bt_60)
                         replace Ot_31_rows := Lib.hid (own_below Ot_31_rows.out bt_60)
                         replace Ot_35_rows := Lib.hid (own_below Ot_35_rows.out bt_60)
                         replace Ot_59_rows := Lib.hid (own_below Ot_59_rows.out bt_60)
                         clear bt_60
                         clear qt_60))
                replace H := ite_t H
                obtain rfl := ret_hid H
                go_wp2_with fail
                go_ret
                exact ⟨rfl, HBwt_60.out⟩
              | true =>
                replace H := let_hid H
                obtain ⟨t_61, ht_61, H⟩ := H
                obtain rfl : t_61 = false := ht_61.symm
                go_region_held3 (fun w' => w'.cell? ⟨w.heap.size, 0, none⟩ = some (.slice A0_0 aA_rows.length c0_0) ∧ w'.cell? ⟨w_aA_0.heap.size, 0, none⟩ = some (.slice A1_0 aB_rows.length c1_0) ∧ w'.cell? ⟨wt_31.heap.size, 0, none⟩ = some (.slice At_31_rows t_31_rows.length ct_31_rows) ∧ w'.cell? ⟨wt_35.heap.size, 0, none⟩ = some (.slice At_35_rows t_35_rows.length ct_35_rows)) (first | exact ⟨kaA_0_0__18, kaB_1_0__19, kx0_32_0__20, kx1_36_0⟩)
                    (first
                      | (go_at_call 17
                         refine (Go.Proofs.Ytfbdaedoofkcbaa.GlToBlock.C (aA_rows) A0_0 c0_0 _ (Lib.hid (Cells.below M0_0.out HBwt_42.drew.out)) N0_0 qt_59).mono ?_
                         rintro e_t_59 wt_59 ⟨At_59_rows, ct_59_rows, rfl, ot_59_rows, bt_59⟩
                         have Dt_59_rows_t_19_rows := Lib.hid (apart_call ot_59_rows Ot_19_rows.out)
                         have Dt_59_rows_t_21_rows := Lib.hid (apart_call ot_59_rows Ot_21_rows.out)
                         have Dt_59_rows_t_31_rows := Lib.hid (apart_call ot_59_rows Ot_31_rows.out)
                         have Dt_59_rows_t_35_rows := Lib.hid (apart_call ot_59_rows Ot_35_rows.out)
                         have Dt_59_rows_aA_0 := Lib.hid (apart_callbox ot_59_rows kaA_0_0__18)
                         have Dt_59_rows_aB_1 := Lib.hid (apart_callbox ot_59_rows kaB_1_0__19)
                         have Dt_59_rows_x0_32 := Lib.hid (apart_callbox ot_59_rows kx0_32_0__20)
                         have Dt_59_rows_x1_36 := Lib.hid (apart_callbox ot_59_rows kx1_36_0)
                         have Ot_59_rows := Lib.hid (own_lower ot_59_rows HBwt_42.drew.out.size)
                         clear ot_59_rows
                         have HBwt_59 := Lib.hid (Below.step HBwt_42.drew.out bt_59)
                         replace kaA_0_0__18 := cell_below bt_59 kaA_0_0__18
                         replace kaB_1_0__19 := cell_below bt_59 kaB_1_0__19
                         replace kx0_32_0__20 := cell_below bt_59 kx0_32_0__20
                         replace kx1_36_0 := cell_below bt_59 kx1_36_0
                         replace Ot_19_rows := Lib.hid (own_below Ot_19_rows.out bt_59)
                         replace Ot_21_rows := Lib.hid (own_below Ot_21_rows.out bt_59)
                         replace Ot_31_rows := Lib.hid (own_below Ot_31_rows.out bt_59)
                         replace Ot_35_rows := Lib.hid (own_below Ot_35_rows.out bt_59)
                         clear bt_59
                         clear qt_59)
                      | (go_at_call 19
                         refine (Go.Proofs.Ytfbdaedoofkcbaa.GlEqBlock.C (t_31_rows) (t_59_rows) At_31_rows ct_31_rows At_59_rows ct_59_rows _ (Lib.hid (own_cells Ot_31_rows.out)) (Lib.hid (own_max Ot_31_rows.out)) (Lib.hid (own_cells Ot_59_rows.out)) (Lib.hid (own_max Ot_59_rows.out)) qt_60).mono ?_
                         rintro e_t_60 wt_60 ⟨rfl, bt_60⟩
                         have HBwt_60 := Lib.hid (Below.step HBwt_59.out bt_60)
                         replace kaA_0_0__18 := cell_below bt_60 kaA_0_0__18
                         replace kaB_1_0__19 := cell_below bt_60 kaB_1_0__19
                         replace kx0_32_0__20 := cell_below bt_60 kx0_32_0__20
                         replace kx1_36_0 := cell_below bt_60 kx1_36_0
                         replace Ot_19_rows := Lib.hid (own_below Ot_19_rows.out bt_60)
                         replace Ot_21_rows := Lib.hid (own_below Ot_21_rows.out bt_60)
                         replace Ot_31_rows := Lib.hid (own_below Ot_31_rows.out bt_60)
                         replace Ot_35_rows := Lib.hid (own_below Ot_35_rows.out bt_60)
                         replace Ot_59_rows := Lib.hid (own_below Ot_59_rows.out bt_60)
                         clear bt_60
                         clear qt_60))
                replace H := ite_f H
                go_wp2_with fail
                have bd16 : Below wt_60.heap.size wt_60 wt_60.drew := (Below.refl _ _).drew
                have HBwt_60.drew := Lib.hid (Below.step HBwt_60.out bd16)
                replace kaA_0_0__18 := cell_below bd16 kaA_0_0__18
                replace kaB_1_0__19 := cell_below bd16 kaB_1_0__19
                replace kx0_32_0__20 := cell_below bd16 kx0_32_0__20
                replace kx1_36_0 := cell_below bd16 kx1_36_0
                replace Ot_19_rows := Lib.hid (own_below Ot_19_rows.out bd16)
                replace Ot_21_rows := Lib.hid (own_below Ot_21_rows.out bd16)
                replace Ot_31_rows := Lib.hid (own_below Ot_31_rows.out bd16)
                replace Ot_35_rows := Lib.hid (own_below Ot_35_rows.out bd16)
                replace Ot_59_rows := Lib.hid (own_below Ot_59_rows.out bd16)
                clear bd16
                replace H := bind_hid H
                obtain ⟨t_65, qt_65, H⟩ := H
                obtain ⟨t_65_rows⟩ := t_65
                replace H := unBlock_hid H
                replace H := bind_hid H
                obtain ⟨t_66, qt_66, H⟩ := H
                cases t_66 with
                | false =>
                  replace H := let_hid H
                  obtain ⟨t_67, ht_67, H⟩ := H
                  obtain rfl : t_67 = true := ht_67.symm
                  go_region_held3 (fun w' => w'.cell? ⟨w.heap.size, 0, none⟩ = some (.slice A0_0 aA_rows.length c0_0) ∧ w'.cell? ⟨w_aA_0.heap.size, 0, none⟩ = some (.slice A1_0 aB_rows.length c1_0) ∧ w'.cell? ⟨wt_31.heap.size, 0, none⟩ = some (.slice At_31_rows t_31_rows.length ct_31_rows) ∧ w'.cell? ⟨wt_35.heap.size, 0, none⟩ = some (.slice At_35_rows t_35_rows.length ct_35_rows)) (first | exact ⟨kaA_0_0__18, kaB_1_0__19, kx0_32_0__20, kx1_36_0⟩)
                      (first
                        | (go_at_call 17
                           refine (Go.Proofs.Ytfbdaedoofkcbaa.GlToBlock.C (aB_rows) A1_0 c1_0 _ (Lib.hid (Cells.below M1_0.out HBwt_60.drew.out)) N1_0 qt_65).mono ?_
                           rintro e_t_65 wt_65 ⟨At_65_rows, ct_65_rows, rfl, ot_65_rows, bt_65⟩
                           have Dt_65_rows_t_19_rows := Lib.hid (apart_call ot_65_rows Ot_19_rows.out)
                           have Dt_65_rows_t_21_rows := Lib.hid (apart_call ot_65_rows Ot_21_rows.out)
                           have Dt_65_rows_t_31_rows := Lib.hid (apart_call ot_65_rows Ot_31_rows.out)
                           have Dt_65_rows_t_35_rows := Lib.hid (apart_call ot_65_rows Ot_35_rows.out)
                           have Dt_65_rows_t_59_rows := Lib.hid (apart_call ot_65_rows Ot_59_rows.out)
                           have Dt_65_rows_aA_0 := Lib.hid (apart_callbox ot_65_rows kaA_0_0__18)
                           have Dt_65_rows_aB_1 := Lib.hid (apart_callbox ot_65_rows kaB_1_0__19)
                           have Dt_65_rows_x0_32 := Lib.hid (apart_callbox ot_65_rows kx0_32_0__20)
                           have Dt_65_rows_x1_36 := Lib.hid (apart_callbox ot_65_rows kx1_36_0)
                           have Ot_65_rows := Lib.hid (own_lower ot_65_rows HBwt_60.drew.out.size)
                           clear ot_65_rows
                           have HBwt_65 := Lib.hid (Below.step HBwt_60.drew.out bt_65)
                           replace kaA_0_0__18 := cell_below bt_65 kaA_0_0__18
                           replace kaB_1_0__19 := cell_below bt_65 kaB_1_0__19
                           replace kx0_32_0__20 := cell_below bt_65 kx0_32_0__20
                           replace kx1_36_0 := cell_below bt_65 kx1_36_0
                           replace Ot_19_rows := Lib.hid (own_below Ot_19_rows.out bt_65)
                           replace Ot_21_rows := Lib.hid (own_below Ot_21_rows.out bt_65)
                           replace Ot_31_rows := Lib.hid (own_below Ot_31_rows.out bt_65)
                           replace Ot_35_rows := Lib.hid (own_below Ot_35_rows.out bt_65)
                           replace Ot_59_rows := Lib.hid (own_below Ot_59_rows.out bt_65)
                           clear bt_65
                           clear qt_65)
                        | (go_at_call 19
                           refine (Go.Proofs.Ytfbdaedoofkcbaa.GlEqBlock.C (t_35_rows) (t_65_rows) At_35_rows ct_35_rows At_65_rows ct_65_rows _ (Lib.hid (own_cells Ot_35_rows.out)) (Lib.hid (own_max Ot_35_rows.out)) (Lib.hid (own_cells Ot_65_rows.out)) (Lib.hid (own_max Ot_65_rows.out)) qt_66).mono ?_
                           rintro e_t_66 wt_66 ⟨rfl, bt_66⟩
                           have HBwt_66 := Lib.hid (Below.step HBwt_65.out bt_66)
                           replace kaA_0_0__18 := cell_below bt_66 kaA_0_0__18
                           replace kaB_1_0__19 := cell_below bt_66 kaB_1_0__19
                           replace kx0_32_0__20 := cell_below bt_66 kx0_32_0__20
                           replace kx1_36_0 := cell_below bt_66 kx1_36_0
                           replace Ot_19_rows := Lib.hid (own_below Ot_19_rows.out bt_66)
                           replace Ot_21_rows := Lib.hid (own_below Ot_21_rows.out bt_66)
                           replace Ot_31_rows := Lib.hid (own_below Ot_31_rows.out bt_66)
                           replace Ot_35_rows := Lib.hid (own_below Ot_35_rows.out bt_66)
                           replace Ot_59_rows := Lib.hid (own_below Ot_59_rows.out bt_66)
                           replace Ot_65_rows := Lib.hid (own_below Ot_65_rows.out bt_66)
                           clear bt_66
                           clear qt_66))
                  replace H := ite_t H
                  obtain rfl := ret_hid H
                  go_wp2_with fail
                  go_ret
                  exact ⟨rfl, HBwt_66.out⟩
                | true =>
                  replace H := let_hid H
                  obtain ⟨t_67, ht_67, H⟩ := H
                  obtain rfl : t_67 = false := ht_67.symm
                  go_region_held3 (fun w' => w'.cell? ⟨w.heap.size, 0, none⟩ = some (.slice A0_0 aA_rows.length c0_0) ∧ w'.cell? ⟨w_aA_0.heap.size, 0, none⟩ = some (.slice A1_0 aB_rows.length c1_0) ∧ w'.cell? ⟨wt_31.heap.size, 0, none⟩ = some (.slice At_31_rows t_31_rows.length ct_31_rows) ∧ w'.cell? ⟨wt_35.heap.size, 0, none⟩ = some (.slice At_35_rows t_35_rows.length ct_35_rows)) (first | exact ⟨kaA_0_0__18, kaB_1_0__19, kx0_32_0__20, kx1_36_0⟩)
                      (first
                        | (go_at_call 17
                           refine (Go.Proofs.Ytfbdaedoofkcbaa.GlToBlock.C (aB_rows) A1_0 c1_0 _ (Lib.hid (Cells.below M1_0.out HBwt_60.drew.out)) N1_0 qt_65).mono ?_
                           rintro e_t_65 wt_65 ⟨At_65_rows, ct_65_rows, rfl, ot_65_rows, bt_65⟩
                           have Dt_65_rows_t_19_rows := Lib.hid (apart_call ot_65_rows Ot_19_rows.out)
                           have Dt_65_rows_t_21_rows := Lib.hid (apart_call ot_65_rows Ot_21_rows.out)
                           have Dt_65_rows_t_31_rows := Lib.hid (apart_call ot_65_rows Ot_31_rows.out)
                           have Dt_65_rows_t_35_rows := Lib.hid (apart_call ot_65_rows Ot_35_rows.out)
                           have Dt_65_rows_t_59_rows := Lib.hid (apart_call ot_65_rows Ot_59_rows.out)
                           have Dt_65_rows_aA_0 := Lib.hid (apart_callbox ot_65_rows kaA_0_0__18)
                           have Dt_65_rows_aB_1 := Lib.hid (apart_callbox ot_65_rows kaB_1_0__19)
                           have Dt_65_rows_x0_32 := Lib.hid (apart_callbox ot_65_rows kx0_32_0__20)
                           have Dt_65_rows_x1_36 := Lib.hid (apart_callbox ot_65_rows kx1_36_0)
                           have Ot_65_rows := Lib.hid (own_lower ot_65_rows HBwt_60.drew.out.size)
                           clear ot_65_rows
                           have HBwt_65 := Lib.hid (Below.step HBwt_60.drew.out bt_65)
                           replace kaA_0_0__18 := cell_below bt_65 kaA_0_0__18
                           replace kaB_1_0__19 := cell_below bt_65 kaB_1_0__19
                           replace kx0_32_0__20 := cell_below bt_65 kx0_32_0__20
                           replace kx1_36_0 := cell_below bt_65 kx1_36_0
                           replace Ot_19_rows := Lib.hid (own_below Ot_19_rows.out bt_65)
                           replace Ot_21_rows := Lib.hid (own_below Ot_21_rows.out bt_65)
                           replace Ot_31_rows := Lib.hid (own_below Ot_31_rows.out bt_65)
                           replace Ot_35_rows := Lib.hid (own_below Ot_35_rows.out bt_65)
                           replace Ot_59_rows := Lib.hid (own_below Ot_59_rows.out bt_65)
                           clear bt_65
                           clear qt_65)
                        | (go_at_call 19
                           refine (Go.Proofs.Ytfbdaedoofkcbaa.GlEqBlock.C (t_35_rows) (t_65_rows) At_35_rows ct_35_rows At_65_rows ct_65_rows _ (Lib.hid (own_cells Ot_35_rows.out)) (Lib.hid (own_max Ot_35_rows.out)) (Lib.hid (own_cells Ot_65_rows.out)) (Lib.hid (own_max Ot_65_rows.out)) qt_66).mono ?_
                           rintro e_t_66 wt_66 ⟨rfl, bt_66⟩
                           have HBwt_66 := Lib.hid (Below.step HBwt_65.out bt_66)
                           replace kaA_0_0__18 := cell_below bt_66 kaA_0_0__18
                           replace kaB_1_0__19 := cell_below bt_66 kaB_1_0__19
                           replace kx0_32_0__20 := cell_below bt_66 kx0_32_0__20
                           replace kx1_36_0 := cell_below bt_66 kx1_36_0
                           replace Ot_19_rows := Lib.hid (own_below Ot_19_rows.out bt_66)
                           replace Ot_21_rows := Lib.hid (own_below Ot_21_rows.out bt_66)
                           replace Ot_31_rows := Lib.hid (own_below Ot_31_rows.out bt_66)
                           replace Ot_35_rows := Lib.hid (own_below Ot_35_rows.out bt_66)
                           replace Ot_59_rows := Lib.hid (own_below Ot_59_rows.out bt_66)
                           replace Ot_65_rows := Lib.hid (own_below Ot_65_rows.out bt_66)
                           clear bt_66
                           clear qt_66))
                  replace H := ite_f H
                  obtain rfl := ret_hid H
                  go_wp2_with fail
                  go_ret
                  exact ⟨rfl, HBwt_66.out⟩
            | true =>
              replace H := let_hid H
              obtain ⟨t_54, ht_54, H⟩ := H
              obtain rfl : t_54 = true := ht_54.symm
              replace H := app_hid H
              replace H := ite_t H
              obtain rfl := ret_hid H
              go_wp2_with fail
              go_ret
              exact ⟨rfl, HBwt_42.out⟩
          | true =>
            cases t_24b with
            | false =>
              replace H := let_hid H
              obtain ⟨t_54, ht_54, H⟩ := H
              obtain rfl : t_54 = true := ht_54.symm
              replace H := app_hid H
              replace H := ite_t H
              obtain rfl := ret_hid H
              go_wp2_with fail
              go_ret
              exact ⟨rfl, HBwt_42.out⟩
            | true =>
              replace H := let_hid H
              obtain ⟨t_54, ht_54, H⟩ := H
              obtain rfl : t_54 = false := ht_54.symm
              replace H := app_hid H
              replace H := ite_f H
              go_wp2_with fail
              have bd14 : Below wt_42.heap.size wt_42 wt_42.drew := (Below.refl _ _).drew
              have HBwt_42.drew := Lib.hid (Below.step HBwt_42.out bd14)
              replace kaA_0_0__18 := cell_below bd14 kaA_0_0__18
              replace kaB_1_0__19 := cell_below bd14 kaB_1_0__19
              replace kx0_32_0__20 := cell_below bd14 kx0_32_0__20
              replace kx1_36_0 := cell_below bd14 kx1_36_0
              replace Ot_19_rows := Lib.hid (own_below Ot_19_rows.out bd14)
              replace Ot_21_rows := Lib.hid (own_below Ot_21_rows.out bd14)
              replace Ot_31_rows := Lib.hid (own_below Ot_31_rows.out bd14)
              replace Ot_35_rows := Lib.hid (own_below Ot_35_rows.out bd14)
              clear bd14
              replace H := bind_hid H
              obtain ⟨t_59, qt_59, H⟩ := H
              obtain ⟨t_59_rows⟩ := t_59
              replace H := unBlock_hid H
              replace H := bind_hid H
              obtain ⟨t_60, qt_60, H⟩ := H
              cases t_60 with
              | false =>
                replace H := let_hid H
                obtain ⟨t_61, ht_61, H⟩ := H
                obtain rfl : t_61 = true := ht_61.symm
                go_region_held3 (fun w' => w'.cell? ⟨w.heap.size, 0, none⟩ = some (.slice A0_0 aA_rows.length c0_0) ∧ w'.cell? ⟨w_aA_0.heap.size, 0, none⟩ = some (.slice A1_0 aB_rows.length c1_0) ∧ w'.cell? ⟨wt_31.heap.size, 0, none⟩ = some (.slice At_31_rows t_31_rows.length ct_31_rows) ∧ w'.cell? ⟨wt_35.heap.size, 0, none⟩ = some (.slice At_35_rows t_35_rows.length ct_35_rows)) (first | exact ⟨kaA_0_0__18, kaB_1_0__19, kx0_32_0__20, kx1_36_0⟩)
                    (first
                      | (go_at_call 17
                         refine (Go.Proofs.Ytfbdaedoofkcbaa.GlToBlock.C (aA_rows) A0_0 c0_0 _ (Lib.hid (Cells.below M0_0.out HBwt_42.drew.out)) N0_0 qt_59).mono ?_
                         rintro e_t_59 wt_59 ⟨At_59_rows, ct_59_rows, rfl, ot_59_rows, bt_59⟩
                         have Dt_59_rows_t_19_rows := Lib.hid (apart_call ot_59_rows Ot_19_rows.out)
                         have Dt_59_rows_t_21_rows := Lib.hid (apart_call ot_59_rows Ot_21_rows.out)
                         have Dt_59_rows_t_31_rows := Lib.hid (apart_call ot_59_rows Ot_31_rows.out)
                         have Dt_59_rows_t_35_rows := Lib.hid (apart_call ot_59_rows Ot_35_rows.out)
                         have Dt_59_rows_aA_0 := Lib.hid (apart_callbox ot_59_rows kaA_0_0__18)
                         have Dt_59_rows_aB_1 := Lib.hid (apart_callbox ot_59_rows kaB_1_0__19)
                         have Dt_59_rows_x0_32 := Lib.hid (apart_callbox ot_59_rows kx0_32_0__20)
                         have Dt_59_rows_x1_36 := Lib.hid (apart_callbox ot_59_rows kx1_36_0)
                         have Ot_59_rows := Lib.hid (own_lower ot_59_rows HBwt_42.drew.out.size)
                         clear ot_59_rows
                         have HBwt_59 := Lib.hid (Below.step HBwt_42.drew.out bt_59)
                         replace kaA_0_0__18 := cell_below bt_59 kaA_0_0__18
                         replace kaB_1_0__19 := cell_below bt_59 kaB_1_0__19
                         replace kx0_32_0__20 := cell_below bt_59 kx0_32_0__20
                         replace kx1_36_0 := cell_below bt_59 kx1_36_0
                         replace Ot_19_rows := Lib.hid (own_below Ot_19_rows.out bt_59)
                         replace Ot_21_rows := Lib.hid (own_below Ot_21_rows.out bt_59)
                         replace Ot_31_rows := Lib.hid (own_below Ot_31_rows.out bt_59)
                         replace Ot_35_rows := Lib.hid (own_below Ot_35_rows.out bt_59)
                         clear bt_59
                         clear qt_59)
                      | (go_at_call 19
                         refine (Go.Proofs.Ytfbdaedoofkcbaa.GlEqBlock.C (t_31_rows) (t_59_rows) At_31_rows ct_31_rows At_59_rows ct_59_rows _ (Lib.hid (own_cells Ot_31_rows.out)) (Lib.hid (own_max Ot_31_rows.out)) (Lib.hid (own_cells Ot_59_rows.out)) (Lib.hid (own_max Ot_59_rows.out)) qt_60).mono ?_
                         rintro e_t_60 wt_60 ⟨rfl, bt_60⟩
                         have HBwt_60 := Lib.hid (Below.step HBwt_59.out bt_60)
                         replace kaA_0_0__18 := cell_below bt_60 kaA_0_0__18
                         replace kaB_1_0__19 := cell_below bt_60 kaB_1_0__19
                         replace kx0_32_0__20 := cell_below bt_60 kx0_32_0__20
                         replace kx1_36_0 := cell_below bt_60 kx1_36_0
                         replace Ot_19_rows := Lib.hid (own_below Ot_19_rows.out bt_60)
                         replace Ot_21_rows := Lib.hid (own_below Ot_21_rows.out bt_60)
                         replace Ot_31_rows := Lib.hid (own_below Ot_31_rows.out bt_60)
                         replace Ot_35_rows := Lib.hid (own_below Ot_35_rows.out bt_60)
                         replace Ot_59_rows := Lib.hid (own_below Ot_59_rows.out bt_60)
                         clear bt_60
                         clear qt_60))
                replace H := ite_t H
                obtain rfl := ret_hid H
                go_wp2_with fail
                go_ret
                exact ⟨rfl, HBwt_60.out⟩
              | true =>
                replace H := let_hid H
                obtain ⟨t_61, ht_61, H⟩ := H
                obtain rfl : t_61 = false := ht_61.symm
                go_region_held3 (fun w' => w'.cell? ⟨w.heap.size, 0, none⟩ = some (.slice A0_0 aA_rows.length c0_0) ∧ w'.cell? ⟨w_aA_0.heap.size, 0, none⟩ = some (.slice A1_0 aB_rows.length c1_0) ∧ w'.cell? ⟨wt_31.heap.size, 0, none⟩ = some (.slice At_31_rows t_31_rows.length ct_31_rows) ∧ w'.cell? ⟨wt_35.heap.size, 0, none⟩ = some (.slice At_35_rows t_35_rows.length ct_35_rows)) (first | exact ⟨kaA_0_0__18, kaB_1_0__19, kx0_32_0__20, kx1_36_0⟩)
                    (first
                      | (go_at_call 17
                         refine (Go.Proofs.Ytfbdaedoofkcbaa.GlToBlock.C (aA_rows) A0_0 c0_0 _ (Lib.hid (Cells.below M0_0.out HBwt_42.drew.out)) N0_0 qt_59).mono ?_
                         rintro e_t_59 wt_59 ⟨At_59_rows, ct_59_rows, rfl, ot_59_rows, bt_59⟩
                         have Dt_59_rows_t_19_rows := Lib.hid (apart_call ot_59_rows Ot_19_rows.out)
                         have Dt_59_rows_t_21_rows := Lib.hid (apart_call ot_59_rows Ot_21_rows.out)
                         have Dt_59_rows_t_31_rows := Lib.hid (apart_call ot_59_rows Ot_31_rows.out)
                         have Dt_59_rows_t_35_rows := Lib.hid (apart_call ot_59_rows Ot_35_rows.out)
                         have Dt_59_rows_aA_0 := Lib.hid (apart_callbox ot_59_rows kaA_0_0__18)
                         have Dt_59_rows_aB_1 := Lib.hid (apart_callbox ot_59_rows kaB_1_0__19)
                         have Dt_59_rows_x0_32 := Lib.hid (apart_callbox ot_59_rows kx0_32_0__20)
                         have Dt_59_rows_x1_36 := Lib.hid (apart_callbox ot_59_rows kx1_36_0)
                         have Ot_59_rows := Lib.hid (own_lower ot_59_rows HBwt_42.drew.out.size)
                         clear ot_59_rows
                         have HBwt_59 := Lib.hid (Below.step HBwt_42.drew.out bt_59)
                         replace kaA_0_0__18 := cell_below bt_59 kaA_0_0__18
                         replace kaB_1_0__19 := cell_below bt_59 kaB_1_0__19
                         replace kx0_32_0__20 := cell_below bt_59 kx0_32_0__20
                         replace kx1_36_0 := cell_below bt_59 kx1_36_0
                         replace Ot_19_rows := Lib.hid (own_below Ot_19_rows.out bt_59)
                         replace Ot_21_rows := Lib.hid (own_below Ot_21_rows.out bt_59)
                         replace Ot_31_rows := Lib.hid (own_below Ot_31_rows.out bt_59)
                         replace Ot_35_rows := Lib.hid (own_below Ot_35_rows.out bt_59)
                         clear bt_59
                         clear qt_59)
                      | (go_at_call 19
                         refine (Go.Proofs.Ytfbdaedoofkcbaa.GlEqBlock.C (t_31_rows) (t_59_rows) At_31_rows ct_31_rows At_59_rows ct_59_rows _ (Lib.hid (own_cells Ot_31_rows.out)) (Lib.hid (own_max Ot_31_rows.out)) (Lib.hid (own_cells Ot_59_rows.out)) (Lib.hid (own_max Ot_59_rows.out)) qt_60).mono ?_
                         rintro e_t_60 wt_60 ⟨rfl, bt_60⟩
                         have HBwt_60 := Lib.hid (Below.step HBwt_59.out bt_60)
                         replace kaA_0_0__18 := cell_below bt_60 kaA_0_0__18
                         replace kaB_1_0__19 := cell_below bt_60 kaB_1_0__19
                         replace kx0_32_0__20 := cell_below bt_60 kx0_32_0__20
                         replace kx1_36_0 := cell_below bt_60 kx1_36_0
                         replace Ot_19_rows := Lib.hid (own_below Ot_19_rows.out bt_60)
                         replace Ot_21_rows := Lib.hid (own_below Ot_21_rows.out bt_60)
                         replace Ot_31_rows := Lib.hid (own_below Ot_31_rows.out bt_60)
                         replace Ot_35_rows := Lib.hid (own_below Ot_35_rows.out bt_60)
                         replace Ot_59_rows := Lib.hid (own_below Ot_59_rows.out bt_60)
                         clear bt_60
                         clear qt_60))
                replace H := ite_f H
                go_wp2_with fail
                have bd16 : Below wt_60.heap.size wt_60 wt_60.drew := (Below.refl _ _).drew
                have HBwt_60.drew := Lib.hid (Below.step HBwt_60.out bd16)
                replace kaA_0_0__18 := cell_below bd16 kaA_0_0__18
                replace kaB_1_0__19 := cell_below bd16 kaB_1_0__19
                replace kx0_32_0__20 := cell_below bd16 kx0_32_0__20
                replace kx1_36_0 := cell_below bd16 kx1_36_0
                replace Ot_19_rows := Lib.hid (own_below Ot_19_rows.out bd16)
                replace Ot_21_rows := Lib.hid (own_below Ot_21_rows.out bd16)
                replace Ot_31_rows := Lib.hid (own_below Ot_31_rows.out bd16)
                replace Ot_35_rows := Lib.hid (own_below Ot_35_rows.out bd16)
                replace Ot_59_rows := Lib.hid (own_below Ot_59_rows.out bd16)
                clear bd16
                replace H := bind_hid H
                obtain ⟨t_65, qt_65, H⟩ := H
                obtain ⟨t_65_rows⟩ := t_65
                replace H := unBlock_hid H
                replace H := bind_hid H
                obtain ⟨t_66, qt_66, H⟩ := H
                cases t_66 with
                | false =>
                  replace H := let_hid H
                  obtain ⟨t_67, ht_67, H⟩ := H
                  obtain rfl : t_67 = true := ht_67.symm
                  go_region_held3 (fun w' => w'.cell? ⟨w.heap.size, 0, none⟩ = some (.slice A0_0 aA_rows.length c0_0) ∧ w'.cell? ⟨w_aA_0.heap.size, 0, none⟩ = some (.slice A1_0 aB_rows.length c1_0) ∧ w'.cell? ⟨wt_31.heap.size, 0, none⟩ = some (.slice At_31_rows t_31_rows.length ct_31_rows) ∧ w'.cell? ⟨wt_35.heap.size, 0, none⟩ = some (.slice At_35_rows t_35_rows.length ct_35_rows)) (first | exact ⟨kaA_0_0__18, kaB_1_0__19, kx0_32_0__20, kx1_36_0⟩)
                      (first
                        | (go_at_call 17
                           refine (Go.Proofs.Ytfbdaedoofkcbaa.GlToBlock.C (aB_rows) A1_0 c1_0 _ (Lib.hid (Cells.below M1_0.out HBwt_60.drew.out)) N1_0 qt_65).mono ?_
                           rintro e_t_65 wt_65 ⟨At_65_rows, ct_65_rows, rfl, ot_65_rows, bt_65⟩
                           have Dt_65_rows_t_19_rows := Lib.hid (apart_call ot_65_rows Ot_19_rows.out)
                           have Dt_65_rows_t_21_rows := Lib.hid (apart_call ot_65_rows Ot_21_rows.out)
                           have Dt_65_rows_t_31_rows := Lib.hid (apart_call ot_65_rows Ot_31_rows.out)
                           have Dt_65_rows_t_35_rows := Lib.hid (apart_call ot_65_rows Ot_35_rows.out)
                           have Dt_65_rows_t_59_rows := Lib.hid (apart_call ot_65_rows Ot_59_rows.out)
                           have Dt_65_rows_aA_0 := Lib.hid (apart_callbox ot_65_rows kaA_0_0__18)
                           have Dt_65_rows_aB_1 := Lib.hid (apart_callbox ot_65_rows kaB_1_0__19)
                           have Dt_65_rows_x0_32 := Lib.hid (apart_callbox ot_65_rows kx0_32_0__20)
                           have Dt_65_rows_x1_36 := Lib.hid (apart_callbox ot_65_rows kx1_36_0)
                           have Ot_65_rows := Lib.hid (own_lower ot_65_rows HBwt_60.drew.out.size)
                           clear ot_65_rows
                           have HBwt_65 := Lib.hid (Below.step HBwt_60.drew.out bt_65)
                           replace kaA_0_0__18 := cell_below bt_65 kaA_0_0__18
                           replace kaB_1_0__19 := cell_below bt_65 kaB_1_0__19
                           replace kx0_32_0__20 := cell_below bt_65 kx0_32_0__20
                           replace kx1_36_0 := cell_below bt_65 kx1_36_0
                           replace Ot_19_rows := Lib.hid (own_below Ot_19_rows.out bt_65)
                           replace Ot_21_rows := Lib.hid (own_below Ot_21_rows.out bt_65)
                           replace Ot_31_rows := Lib.hid (own_below Ot_31_rows.out bt_65)
                           replace Ot_35_rows := Lib.hid (own_below Ot_35_rows.out bt_65)
                           replace Ot_59_rows := Lib.hid (own_below Ot_59_rows.out bt_65)
                           clear bt_65
                           clear qt_65)
                        | (go_at_call 19
                           refine (Go.Proofs.Ytfbdaedoofkcbaa.GlEqBlock.C (t_35_rows) (t_65_rows) At_35_rows ct_35_rows At_65_rows ct_65_rows _ (Lib.hid (own_cells Ot_35_rows.out)) (Lib.hid (own_max Ot_35_rows.out)) (Lib.hid (own_cells Ot_65_rows.out)) (Lib.hid (own_max Ot_65_rows.out)) qt_66).mono ?_
                           rintro e_t_66 wt_66 ⟨rfl, bt_66⟩
                           have HBwt_66 := Lib.hid (Below.step HBwt_65.out bt_66)
                           replace kaA_0_0__18 := cell_below bt_66 kaA_0_0__18
                           replace kaB_1_0__19 := cell_below bt_66 kaB_1_0__19
                           replace kx0_32_0__20 := cell_below bt_66 kx0_32_0__20
                           replace kx1_36_0 := cell_below bt_66 kx1_36_0
                           replace Ot_19_rows := Lib.hid (own_below Ot_19_rows.out bt_66)
                           replace Ot_21_rows := Lib.hid (own_below Ot_21_rows.out bt_66)
                           replace Ot_31_rows := Lib.hid (own_below Ot_31_rows.out bt_66)
                           replace Ot_35_rows := Lib.hid (own_below Ot_35_rows.out bt_66)
                           replace Ot_59_rows := Lib.hid (own_below Ot_59_rows.out bt_66)
                           replace Ot_65_rows := Lib.hid (own_below Ot_65_rows.out bt_66)
                           clear bt_66
                           clear qt_66))
                  replace H := ite_t H
                  obtain rfl := ret_hid H
                  go_wp2_with fail
                  go_ret
                  exact ⟨rfl, HBwt_66.out⟩
                | true =>
                  replace H := let_hid H
                  obtain ⟨t_67, ht_67, H⟩ := H
                  obtain rfl : t_67 = false := ht_67.symm
                  go_region_held3 (fun w' => w'.cell? ⟨w.heap.size, 0, none⟩ = some (.slice A0_0 aA_rows.length c0_0) ∧ w'.cell? ⟨w_aA_0.heap.size, 0, none⟩ = some (.slice A1_0 aB_rows.length c1_0) ∧ w'.cell? ⟨wt_31.heap.size, 0, none⟩ = some (.slice At_31_rows t_31_rows.length ct_31_rows) ∧ w'.cell? ⟨wt_35.heap.size, 0, none⟩ = some (.slice At_35_rows t_35_rows.length ct_35_rows)) (first | exact ⟨kaA_0_0__18, kaB_1_0__19, kx0_32_0__20, kx1_36_0⟩)
                      (first
                        | (go_at_call 17
                           refine (Go.Proofs.Ytfbdaedoofkcbaa.GlToBlock.C (aB_rows) A1_0 c1_0 _ (Lib.hid (Cells.below M1_0.out HBwt_60.drew.out)) N1_0 qt_65).mono ?_
                           rintro e_t_65 wt_65 ⟨At_65_rows, ct_65_rows, rfl, ot_65_rows, bt_65⟩
                           have Dt_65_rows_t_19_rows := Lib.hid (apart_call ot_65_rows Ot_19_rows.out)
                           have Dt_65_rows_t_21_rows := Lib.hid (apart_call ot_65_rows Ot_21_rows.out)
                           have Dt_65_rows_t_31_rows := Lib.hid (apart_call ot_65_rows Ot_31_rows.out)
                           have Dt_65_rows_t_35_rows := Lib.hid (apart_call ot_65_rows Ot_35_rows.out)
                           have Dt_65_rows_t_59_rows := Lib.hid (apart_call ot_65_rows Ot_59_rows.out)
                           have Dt_65_rows_aA_0 := Lib.hid (apart_callbox ot_65_rows kaA_0_0__18)
                           have Dt_65_rows_aB_1 := Lib.hid (apart_callbox ot_65_rows kaB_1_0__19)
                           have Dt_65_rows_x0_32 := Lib.hid (apart_callbox ot_65_rows kx0_32_0__20)
                           have Dt_65_rows_x1_36 := Lib.hid (apart_callbox ot_65_rows kx1_36_0)
                           have Ot_65_rows := Lib.hid (own_lower ot_65_rows HBwt_60.drew.out.size)
                           clear ot_65_rows
                           have HBwt_65 := Lib.hid (Below.step HBwt_60.drew.out bt_65)
                           replace kaA_0_0__18 := cell_below bt_65 kaA_0_0__18
                           replace kaB_1_0__19 := cell_below bt_65 kaB_1_0__19
                           replace kx0_32_0__20 := cell_below bt_65 kx0_32_0__20
                           replace kx1_36_0 := cell_below bt_65 kx1_36_0
                           replace Ot_19_rows := Lib.hid (own_below Ot_19_rows.out bt_65)
                           replace Ot_21_rows := Lib.hid (own_below Ot_21_rows.out bt_65)
                           replace Ot_31_rows := Lib.hid (own_below Ot_31_rows.out bt_65)
                           replace Ot_35_rows := Lib.hid (own_below Ot_35_rows.out bt_65)
                           replace Ot_59_rows := Lib.hid (own_below Ot_59_rows.out bt_65)
                           clear bt_65
                           clear qt_65)
                        | (go_at_call 19
                           refine (Go.Proofs.Ytfbdaedoofkcbaa.GlEqBlock.C (t_35_rows) (t_65_rows) At_35_rows ct_35_rows At_65_rows ct_65_rows _ (Lib.hid (own_cells Ot_35_rows.out)) (Lib.hid (own_max Ot_35_rows.out)) (Lib.hid (own_cells Ot_65_rows.out)) (Lib.hid (own_max Ot_65_rows.out)) qt_66).mono ?_
                           rintro e_t_66 wt_66 ⟨rfl, bt_66⟩
                           have HBwt_66 := Lib.hid (Below.step HBwt_65.out bt_66)
                           replace kaA_0_0__18 := cell_below bt_66 kaA_0_0__18
                           replace kaB_1_0__19 := cell_below bt_66 kaB_1_0__19
                           replace kx0_32_0__20 := cell_below bt_66 kx0_32_0__20
                           replace kx1_36_0 := cell_below bt_66 kx1_36_0
                           replace Ot_19_rows := Lib.hid (own_below Ot_19_rows.out bt_66)
                           replace Ot_21_rows := Lib.hid (own_below Ot_21_rows.out bt_66)
                           replace Ot_31_rows := Lib.hid (own_below Ot_31_rows.out bt_66)
                           replace Ot_35_rows := Lib.hid (own_below Ot_35_rows.out bt_66)
                           replace Ot_59_rows := Lib.hid (own_below Ot_59_rows.out bt_66)
                           replace Ot_65_rows := Lib.hid (own_below Ot_65_rows.out bt_66)
                           clear bt_66
                           clear qt_66))
                  replace H := ite_f H
                  obtain rfl := ret_hid H
                  go_wp2_with fail
                  go_ret
                  exact ⟨rfl, HBwt_66.out⟩
    | true =>
      replace H := ite_t H
      obtain rfl := ret_hid H
      go_wp2_with fail
      go_ret
      exact ⟨rfl, HBwt_13.out⟩
  | true =>
    replace H := ite_t H
    obtain rfl := ret_hid H
    go_wp2_with fail
    go_ret
    exact ⟨rfl, HBwt_6.out⟩
end Go.Proofs.Ytfbdaedoofkcbaa.GlFnExactDoAgree
