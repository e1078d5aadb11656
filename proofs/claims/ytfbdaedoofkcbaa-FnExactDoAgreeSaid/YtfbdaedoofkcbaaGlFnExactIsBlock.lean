/- loop.example/g01062/laws.FnExactIsBlock as a plain function, and the contract of the program's: where the plain one has an answer, the program has it. Conditions: slices read as lists. -/
import Derived.Test.YtfbdaedoofkcbaaChecked
import Derived.Test.YtfbdaedoofkcbaaGoM
import Derived.Test.YtfbdaedoofkcbaaGoRBlock
import Derived.Test.YtfbdaedoofkcbaaPBlock
import Derived.Test.YtfbdaedoofkcbaaGlSzBlock
import Derived.Test.YtfbdaedoofkcbaaGlToBlock
import Derived.Test.YtfbdaedoofkcbaaGsIsBlock
import Derived.Test.YtfbdaedoofkcbaaGiIsBlock
import Derived.Test.YtfbdaedoofkcbaaGlEqBlock
import Derived.WalkKit
import Derived.WalkSpells
import Derived.WalkLawsBesides
import Derived.BigQuiet
import Derived.OwnWalk
import Derived.Deep.LoopGhost
import Derived.Deep.QuietTactic
import Derived.IntWalk
import Derived.Lib.QuietBelow
import Derived.Deep.RegionHeld3
namespace Go.Proofs.Ytfbdaedoofkcbaa.GlFnExactIsBlock
set_option linter.unusedVariables false
set_option linter.unusedSimpArgs false
open Go.RowKit
open Go.Proofs.Ytfbdaedoofkcbaa.Rowed Go.Proofs.Ytfbdaedoofkcbaa.Turn Go.Proofs.Ytfbdaedoofkcbaa.Aid Go.Proofs.Ytfbdaedoofkcbaa.GoP Go.Proofs.Ytfbdaedoofkcbaa.GoM

def P (fuel : Nat) (aB_rows : (List ByteArray)) : Option (Bool) :=
  Option.bind (Go.Proofs.Ytfbdaedoofkcbaa.GlSzBlock.P aB_rows 1048576) fun (t_5 : Int) =>
  letK (decide (t_5 < 0)) fun (t_8 : Bool) =>
  iteK t_8
  (some true)
  (Option.bind (Go.Proofs.Ytfbdaedoofkcbaa.GlToBlock.P aB_rows) fun (t_11 : Go.Proofs.Ytfbdaedoofkcbaa.PBlock.Block) =>
  unBlock t_11 fun (t_11_rows : (List ByteArray)) =>
  Option.bind (Go.Proofs.Ytfbdaedoofkcbaa.GsIsBlock.P fuel t_11_rows) fun (t_12 : Bool) =>
  Option.bind (Go.Proofs.Ytfbdaedoofkcbaa.GlToBlock.P aB_rows) fun (t_15 : Go.Proofs.Ytfbdaedoofkcbaa.PBlock.Block) =>
  unBlock t_15 fun (t_15_rows : (List ByteArray)) =>
  Option.bind (Go.Proofs.Ytfbdaedoofkcbaa.GiIsBlock.P t_15_rows) fun (t_19 : Bool) =>
  letK (t_19 != t_12) fun (t_23 : Bool) =>
  iteK t_23
  (some false)
  (Option.bind (Go.Proofs.Ytfbdaedoofkcbaa.GlToBlock.P aB_rows) fun (t_27 : Go.Proofs.Ytfbdaedoofkcbaa.PBlock.Block) =>
  unBlock t_27 fun (t_27_rows : (List ByteArray)) =>
  Option.bind (Go.Proofs.Ytfbdaedoofkcbaa.GlEqBlock.P t_15_rows t_27_rows) fun (t_28 : Bool) =>
  letK (!t_28) fun (t_29 : Bool) =>
  iteK t_29
  (some false)
  (some true)))

set_option maxRecDepth 100000 in
set_option maxHeartbeats 2000000 in
theorem C (fuel : Nat) (aB_rows : (List ByteArray)) (A0_0 : Option Addr) (c0_0 : Nat)  (w : World) (M0_0 : Hid (Cells w 1 A0_0 aB_rows.length (aB_rows.map Value.string))) (N0_0 : Hid (aB_rows.length ≤ 9223372036854775807))  {r : Bool} (H : Hid (P fuel aB_rows = some r)) :
    Calls Try.prog 3 #[.agg #[.slice A0_0 aB_rows.length c0_0]] w (Gives (.bool r) w) := by
  have HB := Lib.hid (Below.refl w.heap.size w)
  unfold P at H
  have N0_0o := N0_0.out
  go_enter Try.func3, Try.ntmps3
  obtain ⟨w_aB_0, hw_aB_0⟩ : ∃ x, w.alloc (.cells #[.slice A0_0 aB_rows.length c0_0] 24) = x := ⟨_, rfl⟩
  have bw_aB_0 : Below w.heap.size w w_aB_0 := by rw [← hw_aB_0]; exact (Below.refl _ _).alloc (Nat.le_refl _) _
  have HBw_aB_0 := Lib.hid (Below.step HB.out bw_aB_0)
  clear bw_aB_0
  have kaB_0_0 : w_aB_0.cell? ⟨w.heap.size, 0, none⟩ = some (.slice A0_0 aB_rows.length c0_0) := by rw [← hw_aB_0]; exact box_new _ _ _ 0 _ rfl
  replace H := bind_hid H
  obtain ⟨t_5, qt_5, H⟩ := H
  go_wp2_with fail
  go_at_call 15
  refine (Go.Proofs.Ytfbdaedoofkcbaa.GlSzBlock.C (aB_rows) (1048576) A0_0 c0_0 _ (Lib.hid (Cells.below M0_0.out HBw_aB_0.out)) N0_0 qt_5).mono ?_
  rintro e_t_5 wt_5 ⟨rfl, bt_5⟩
  have HBwt_5 := Lib.hid (Below.step HBw_aB_0.out bt_5)
  replace kaB_0_0 := cell_below bt_5 kaB_0_0
  clear bt_5
  replace H := let_hid H
  obtain ⟨t_8, ht_8, H⟩ := H
  cases t_8 with
  | false =>
    replace H := ite_f H
    replace H := bind_hid H
    obtain ⟨t_11, qt_11, H⟩ := H
    obtain ⟨t_11_rows⟩ := t_11
    replace H := unBlock_hid H
    go_wp2_with fail
    go_at_call 17
    refine (Go.Proofs.Ytfbdaedoofkcbaa.GlToBlock.C (aB_rows) A0_0 c0_0 _ (Lib.hid (Cells.below M0_0.out HBwt_5.out)) N0_0 qt_11).mono ?_
    rintro e_t_11 wt_11 ⟨At_11_rows, ct_11_rows, rfl, ot_11_rows, bt_11⟩
    have Dt_11_rows_aB_0 := Lib.hid (apart_callbox ot_11_rows kaB_0_0)
    have Ot_11_rows := Lib.hid (own_lower ot_11_rows HBwt_5.out.size)
    clear ot_11_rows
    have HBwt_11 := Lib.hid (Below.step HBwt_5.out bt_11)
    replace kaB_0_0 := cell_below bt_11 kaB_0_0
    clear bt_11
    replace H := bind_hid H
    obtain ⟨t_12, qt_12, H⟩ := H
    go_wp2_with fail
    go_at_call 16
    refine (Go.Proofs.Ytfbdaedoofkcbaa.GsIsBlock.C fuel (t_11_rows) At_11_rows ct_11_rows _ (Lib.hid (own_cells Ot_11_rows.out)) (Lib.hid (own_max Ot_11_rows.out)) qt_12).mono ?_
    rintro e_t_12 wt_12 ⟨rfl, bt_12⟩
    have HBwt_12 := Lib.hid (Below.step HBwt_11.out bt_12)
    replace kaB_0_0 := cell_below bt_12 kaB_0_0
    replace Ot_11_rows := Lib.hid (own_below Ot_11_rows.out bt_12)
    clear bt_12
    replace H := bind_hid H
    obtain ⟨t_15, qt_15, H⟩ := H
    obtain ⟨t_15_rows⟩ := t_15
    replace H := unBlock_hid H
    go_wp2_with fail
    go_at_call 17
    refine (Go.Proofs.Ytfbdaedoofkcbaa.GlToBlock.C (aB_rows) A0_0 c0_0 _ (Lib.hid (Cells.below M0_0.out HBwt_12.out)) N0_0 qt_15).mono ?_
    rintro e_t_15 wt_15 ⟨At_15_rows, ct_15_rows, rfl, ot_15_rows, bt_15⟩
    have Dt_15_rows_t_11_rows := Lib.hid (apart_call ot_15_rows Ot_11_rows.out)
    have Dt_15_rows_aB_0 := Lib.hid (apart_callbox ot_15_rows kaB_0_0)
    have Ot_15_rows := Lib.hid (own_lower ot_15_rows HBwt_12.out.size)
    clear ot_15_rows
    have HBwt_15 := Lib.hid (Below.step HBwt_12.out bt_15)
    replace kaB_0_0 := cell_below bt_15 kaB_0_0
    replace Ot_11_rows := Lib.hid (own_below Ot_11_rows.out bt_15)
    clear bt_15
    obtain ⟨w_x0_16, hw_x0_16⟩ : ∃ x, wt_15.alloc (.cells #[.slice At_15_rows t_15_rows.length ct_15_rows] 27) = x := ⟨_, rfl⟩
    have bw_x0_16 : Below wt_15.heap.size wt_15 w_x0_16 := by rw [← hw_x0_16]; exact (Below.refl _ _).alloc (Nat.le_refl _) _
    have Dx0_16_t_11_rows := Lib.hid (apart_fresh Ot_11_rows.out)
    have Dx0_16_t_15_rows := Lib.hid (apart_fresh Ot_15_rows.out)
    have HBw_x0_16 := Lib.hid (Below.step HBwt_15.out bw_x0_16)
    have kaB_0_0__12 := cell_below bw_x0_16 kaB_0_0
    replace Ot_11_rows := Lib.hid (own_below Ot_11_rows.out bw_x0_16)
    replace Ot_15_rows := Lib.hid (own_below Ot_15_rows.out bw_x0_16)
    clear bw_x0_16
    have kx0_16_0 : w_x0_16.cell? ⟨wt_15.heap.size, 0, none⟩ = some (.slice At_15_rows t_15_rows.length ct_15_rows) := by rw [← hw_x0_16]; exact box_new _ _ _ 0 _ rfl
    replace H := bind_hid H
    obtain ⟨t_19, qt_19, H⟩ := H
    go_wp2_with fail
    clear kaB_0_0
    go_at_call 18
    refine (Go.Proofs.Ytfbdaedoofkcbaa.GiIsBlock.C (t_15_rows) At_15_rows ct_15_rows _ (Lib.hid (own_cells Ot_15_rows.out)) (Lib.hid (own_max Ot_15_rows.out)) qt_19).mono ?_
    rintro e_t_19 wt_19 ⟨rfl, bt_19⟩
    have HBwt_19 := Lib.hid (Below.step HBw_x0_16.out bt_19)
    replace kaB_0_0__12 := cell_below bt_19 kaB_0_0__12
    replace kx0_16_0 := cell_below bt_19 kx0_16_0
    replace Ot_11_rows := Lib.hid (own_below Ot_11_rows.out bt_19)
    replace Ot_15_rows := Lib.hid (own_below Ot_15_rows.out bt_19)
    clear bt_19
    cases t_19 with
    | false =>
      cases t_12 with
      | false =>
        replace H := let_hid H
        obtain ⟨t_23, ht_23, H⟩ := H
        obtain rfl : t_23 = false := ht_23.symm
        replace H := ite_f H
        go_wp2_with fail
        have bd10 : Below wt_19.heap.size wt_19 wt_19.drew := (Below.refl _ _).drew
        have HBwt_19.drew := Lib.hid (Below.step HBwt_19.out bd10)
        replace kaB_0_0__12 := cell_below bd10 kaB_0_0__12
        replace kx0_16_0 := cell_below bd10 kx0_16_0
        replace Ot_11_rows := Lib.hid (own_below Ot_11_rows.out bd10)
        replace Ot_15_rows := Lib.hid (own_below Ot_15_rows.out bd10)
        clear bd10
        replace H := bind_hid H
        obtain ⟨t_27, qt_27, H⟩ := H
        obtain ⟨t_27_rows⟩ := t_27
        replace H := unBlock_hid H
        replace H := bind_hid H
        obtain ⟨t_28, qt_28, H⟩ := H
        cases t_28 with
        | false =>
          replace H := let_hid H
          obtain ⟨t_29, ht_29, H⟩ := H
          obtain rfl : t_29 = true := ht_29.symm
          go_region_held3 (fun w' => w'.cell? ⟨w.heap.size, 0, none⟩ = some (.slice A0_0 aB_rows.length c0_0) ∧ w'.cell? ⟨wt_15.heap.size, 0, none⟩ = some (.slice At_15_rows t_15_rows.length ct_15_rows)) (first | exact ⟨kaB_0_0__12, kx0_16_0⟩)
              (first
                | (go_at_call 17
                   refine (Go.Proofs.Ytfbdaedoofkcbaa.GlToBlock.C (aB_rows) A0_0 c0_0 _ (Lib.hid (Cells.below M0_0.out HBwt_19.drew.out)) N0_0 qt_27).mono ?_
                   rintro e_t_27 wt_27 ⟨At_27_rows, ct_27_rows, rfl, ot_27_rows, bt_27⟩
                   have Dt_27_rows_t_11_rows := Lib.hid (apart_call ot_27_rows Ot_11_rows.out)
                   have Dt_27_rows_t_15_rows := Lib.hid (apart_call ot_27_rows Ot_15_rows.out)
                   have Dt_27_rows_aB_0 := Lib.hid (apart_callbox ot_27_rows kaB_0_0__12)
                   have Dt_27_rows_x0_16 := Lib.hid (apart_callbox ot_27_rows kx0_16_0)
                   have Ot_27_rows := Lib.hid (own_lower ot_27_rows HBwt_19.drew.out.size)
                   clear ot_27_rows
                   have HBwt_27 := Lib.hid (Below.step HBwt_19.drew.out bt_27)
                   replace kaB_0_0__12 := cell_below bt_27 kaB_0_0__12
                   replace kx0_16_0 := cell_below bt_27 kx0_16_0
                   replace Ot_11_rows := Lib.hid (own_below Ot_11_rows.out bt_27)
                   replace Ot_15_rows := Lib.hid (own_below Ot_15_rows.out bt_27)
                   clear bt_27
                   clear qt_27)
                | (go_at_call 19
                   refine (Go.Proofs.Ytfbdaedoofkcbaa.GlEqBlock.C (t_15_rows) (t_27_rows) At_15_rows ct_15_rows At_27_rows ct_27_rows _ (Lib.hid (own_cells Ot_15_rows.out)) (Lib.hid (own_max Ot_15_rows.out)) (Lib.hid (own_cells Ot_27_rows.out)) (Lib.hid (own_max Ot_27_rows.out)) qt_28).mono ?_
                   rintro e_t_28 wt_28 ⟨rfl, bt_28⟩
                   have HBwt_28 := Lib.hid (Below.step HBwt_27.out bt_28)
                   replace kaB_0_0__12 := cell_below bt_28 kaB_0_0__12
                   replace kx0_16_0 := cell_below bt_28 kx0_16_0
                   replace Ot_11_rows := Lib.hid (own_below Ot_11_rows.out bt_28)
                   replace Ot_15_rows := Lib.hid (own_below Ot_15_rows.out bt_28)
                   replace Ot_27_rows := Lib.hid (own_below Ot_27_rows.out bt_28)
                   clear bt_28
                   clear qt_28))
          replace H := ite_t H
          obtain rfl := ret_hid H
          go_wp2_with fail
          go_ret
          exact ⟨rfl, HBwt_28.out⟩
        | true =>
          replace H := let_hid H
          obtain ⟨t_29, ht_29, H⟩ := H
          obtain rfl : t_29 = false := ht_29.symm
          go_region_held3 (fun w' => w'.cell? ⟨w.heap.size, 0, none⟩ = some (.slice A0_0 aB_rows.length c0_0) ∧ w'.cell? ⟨wt_15.heap.size, 0, none⟩ = some (.slice At_15_rows t_15_rows.length ct_15_rows)) (first | exact ⟨kaB_0_0__12, kx0_16_0⟩)
              (first
                | (go_at_call 17
                   refine (Go.Proofs.Ytfbdaedoofkcbaa.GlToBlock.C (aB_rows) A0_0 c0_0 _ (Lib.hid (Cells.below M0_0.out HBwt_19.drew.out)) N0_0 qt_27).mono ?_
                   rintro e_t_27 wt_27 ⟨At_27_rows, ct_27_rows, rfl, ot_27_rows, bt_27⟩
                   have Dt_27_rows_t_11_rows := Lib.hid (apart_call ot_27_rows Ot_11_rows.out)
                   have Dt_27_rows_t_15_rows := Lib.hid (apart_call ot_27_rows Ot_15_rows.out)
                   have Dt_27_rows_aB_0 := Lib.hid (apart_callbox ot_27_rows kaB_0_0__12)
                   have Dt_27_rows_x0_16 := Lib.hid (apart_callbox ot_27_rows kx0_16_0)
                   have Ot_27_rows := Lib.hid (own_lower ot_27_rows HBwt_19.drew.out.size)
                   clear ot_27_rows
                   have HBwt_27 := Lib.hid (Below.step HBwt_19.drew.out bt_27)
                   replace kaB_0_0__12 := cell_below bt_27 kaB_0_0__12
                   replace kx0_16_0 := cell_below bt_27 kx0_16_0
                   replace Ot_11_rows := Lib.hid (own_below Ot_11_rows.out bt_27)
                   replace Ot_15_rows := Lib.hid (own_below Ot_15_rows.out bt_27)
                   clear bt_27
                   clear qt_27)
                | (go_at_call 19
                   refine (Go.Proofs.Ytfbdaedoofkcbaa.GlEqBlock.C (t_15_rows) (t_27_rows) At_15_rows ct_15_rows At_27_rows ct_27_rows _ (Lib.hid (own_cells Ot_15_rows.out)) (Lib.hid (own_max Ot_15_rows.out)) (Lib.hid (own_cells Ot_27_rows.out)) (Lib.hid (own_max Ot_27_rows.out)) qt_28).mono ?_
                   rintro e_t_28 wt_28 ⟨rfl, bt_28⟩
                   have HBwt_28 := Lib.hid (Below.step HBwt_27.out bt_28)
                   replace kaB_0_0__12 := cell_below bt_28 kaB_0_0__12
                   replace kx0_16_0 := cell_below bt_28 kx0_16_0
                   replace Ot_11_rows := Lib.hid (own_below Ot_11_rows.out bt_28)
                   replace Ot_15_rows := Lib.hid (own_below Ot_15_rows.out bt_28)
                   replace Ot_27_rows := Lib.hid (own_below Ot_27_rows.out bt_28)
                   clear bt_28
                   clear qt_28))
          replace H := ite_f H
          obtain rfl := ret_hid H
          go_wp2_with fail
          go_ret
          exact ⟨rfl, HBwt_28.out⟩
      | true =>
        replace H := let_hid H
        obtain ⟨t_23, ht_23, H⟩ := H
        obtain rfl : t_23 = true := ht_23.symm
        replace H := ite_t H
        obtain rfl := ret_hid H
        go_wp2_with fail
        go_ret
        exact ⟨rfl, HBwt_19.out⟩
    | true =>
      cases t_12 with
      | false =>
        replace H := let_hid H
        obtain ⟨t_23, ht_23, H⟩ := H
        obtain rfl : t_23 = true := ht_23.symm
        replace H := ite_t H
        obtain rfl := ret_hid H
        go_wp2_with fail
        go_ret
        exact ⟨rfl, HBwt_19.out⟩
      | true =>
        replace H := let_hid H
        obtain ⟨t_23, ht_23, H⟩ := H
        obtain rfl : t_23 = false := ht_23.symm
        replace H := ite_f H
        go_wp2_with fail
        have bd10 : Below wt_19.heap.size wt_19 wt_19.drew := (Below.refl _ _).drew
        have HBwt_19.drew := Lib.hid (Below.step HBwt_19.out bd10)
        replace kaB_0_0__12 := cell_below bd10 kaB_0_0__12
        replace kx0_16_0 := cell_below bd10 kx0_16_0
        replace Ot_11_rows := Lib.hid (own_below Ot_11_rows.out bd10)
        replace Ot_15_rows := Lib.hid (own_below Ot_15_rows.out bd10)
        clear bd10
        replace H := bind_hid H
        obtain ⟨t_27, qt_27, H⟩ := H
        obtain ⟨t_27_rows⟩ := t_27
        replace H := unBlock_hid H
        replace H := bind_hid H
        obtain ⟨t_28, qt_28, H⟩ := H
        cases t_28 with
        | false =>
          replace H := let_hid H
          obtain ⟨t_29, ht_29, H⟩ := H
          obtain rfl : t_29 = true := ht_29.symm
          go_region_held3 (fun w' => w'.cell? ⟨w.heap.size, 0, none⟩ = some (.slice A0_0 aB_rows.length c0_0) ∧ w'.cell? ⟨wt_15.heap.size, 0, none⟩ = some (.slice At_15_rows t_15_rows.length ct_15_rows)) (first | exact ⟨kaB_0_0__12, kx0_16_0⟩)
              (first
                | (go_at_call 17
                   refine (Go.Proofs.Ytfbdaedoofkcbaa.GlToBlock.C (aB_rows) A0_0 c0_0 _ (Lib.hid (Cells.below M0_0.out HBwt_19.drew.out)) N0_0 qt_27).mono ?_
                   rintro e_t_27 wt_27 ⟨At_27_rows, ct_27_rows, rfl, ot_27_rows, bt_27⟩
                   have Dt_27_rows_t_11_rows := Lib.hid (apart_call ot_27_rows Ot_11_rows.out)
                   have Dt_27_rows_t_15_rows := Lib.hid (apart_call ot_27_rows Ot_15_rows.out)
                   have Dt_27_rows_aB_0 := Lib.hid (apart_callbox ot_27_rows kaB_0_0__12)
                   have Dt_27_rows_x0_16 := Lib.hid (apart_callbox ot_27_rows kx0_16_0)
                   have Ot_27_rows := Lib.hid (own_lower ot_27_rows HBwt_19.drew.out.size)
                   clear ot_27_rows
                   have HBwt_27 := Lib.hid (Below.step HBwt_19.drew.out bt_27)
                   replace kaB_0_0__12 := cell_below bt_27 kaB_0_0__12
                   replace kx0_16_0 := cell_below bt_27 kx0_16_0
                   replace Ot_11_rows := Lib.hid (own_below Ot_11_rows.out bt_27)
                   replace Ot_15_rows := Lib.hid (own_below Ot_15_rows.out bt_27)
                   clear bt_27
                   clear qt_27)
                | (go_at_call 19
                   refine (Go.Proofs.Ytfbdaedoofkcbaa.GlEqBlock.C (t_15_rows) (t_27_rows) At_15_rows ct_15_rows At_27_rows ct_27_rows _ (Lib.hid (own_cells Ot_15_rows.out)) (Lib.hid (own_max Ot_15_rows.out)) (Lib.hid (own_cells Ot_27_rows.out)) (Lib.hid (own_max Ot_27_rows.out)) qt_28).mono ?_
                   rintro e_t_28 wt_28 ⟨rfl, bt_28⟩
                   have HBwt_28 := Lib.hid (Below.step HBwt_27.out bt_28)
                   replace kaB_0_0__12 := cell_below bt_28 kaB_0_0__12
                   replace kx0_16_0 := cell_below bt_28 kx0_16_0
                   replace Ot_11_rows := Lib.hid (own_below Ot_11_rows.out bt_28)
                   replace Ot_15_rows := Lib.hid (own_below Ot_15_rows.out bt_28)
                   replace Ot_27_rows := Lib.hid (own_below Ot_27_rows.out bt_28)
                   clear bt_28
                   clear qt_28))
          replace H := ite_t H
          obtain rfl := ret_hid H
          go_wp2_with fail
          go_ret
          exact ⟨rfl, HBwt_28.out⟩
        | true =>
          replace H := let_hid H
          obtain ⟨t_29, ht_29, H⟩ := H
          obtain rfl : t_29 = false := ht_29.symm
          go_region_held3 (fun w' => w'.cell? ⟨w.heap.size, 0, none⟩ = some (.slice A0_0 aB_rows.length c0_0) ∧ w'.cell? ⟨wt_15.heap.size, 0, none⟩ = some (.slice At_15_rows t_15_rows.length ct_15_rows)) (first | exact ⟨kaB_0_0__12, kx0_16_0⟩)
              (first
                | (go_at_call 17
                   refine (Go.Proofs.Ytfbdaedoofkcbaa.GlToBlock.C (aB_rows) A0_0 c0_0 _ (Lib.hid (Cells.below M0_0.out HBwt_19.drew.out)) N0_0 qt_27).mono ?_
                   rintro e_t_27 wt_27 ⟨At_27_rows, ct_27_rows, rfl, ot_27_rows, bt_27⟩
                   have Dt_27_rows_t_11_rows := Lib.hid (apart_call ot_27_rows Ot_11_rows.out)
                   have Dt_27_rows_t_15_rows := Lib.hid (apart_call ot_27_rows Ot_15_rows.out)
                   have Dt_27_rows_aB_0 := Lib.hid (apart_callbox ot_27_rows kaB_0_0__12)
                   have Dt_27_rows_x0_16 := Lib.hid (apart_callbox ot_27_rows kx0_16_0)
                   have Ot_27_rows := Lib.hid (own_lower ot_27_rows HBwt_19.drew.out.size)
                   clear ot_27_rows
                   have HBwt_27 := Lib.hid (Below.step HBwt_19.drew.out bt_27)
                   replace kaB_0_0__12 := cell_below bt_27 kaB_0_0__12
                   replace kx0_16_0 := cell_below bt_27 kx0_16_0
                   replace Ot_11_rows := Lib.hid (own_below Ot_11_rows.out bt_27)
                   replace Ot_15_rows := Lib.hid (own_below Ot_15_rows.out bt_27)
                   clear bt_27
                   clear qt_27)
                | (go_at_call 19
                   refine (Go.Proofs.Ytfbdaedoofkcbaa.GlEqBlock.C (t_15_rows) (t_27_rows) At_15_rows ct_15_rows At_27_rows ct_27_rows _ (Lib.hid (own_cells Ot_15_rows.out)) (Lib.hid (own_max Ot_15_rows.out)) (Lib.hid (own_cells Ot_27_rows.out)) (Lib.hid (own_max Ot_27_rows.out)) qt_28).mono ?_
                   rintro e_t_28 wt_28 ⟨rfl, bt_28⟩
                   have HBwt_28 := Lib.hid (Below.step HBwt_27.out bt_28)
                   replace kaB_0_0__12 := cell_below bt_28 kaB_0_0__12
                   replace kx0_16_0 := cell_below bt_28 kx0_16_0
                   replace Ot_11_rows := Lib.hid (own_below Ot_11_rows.out bt_28)
                   replace Ot_15_rows := Lib.hid (own_below Ot_15_rows.out bt_28)
                   replace Ot_27_rows := Lib.hid (own_below Ot_27_rows.out bt_28)
                   clear bt_28
                   clear qt_28))
          replace H := ite_f H
          obtain rfl := ret_hid H
          go_wp2_with fail
          go_ret
          exact ⟨rfl, HBwt_28.out⟩
  | true =>
    replace H := ite_t H
    obtain rfl := ret_hid H
    go_wp2_with fail
    go_ret
    exact ⟨rfl, HBwt_5.out⟩
end Go.Proofs.Ytfbdaedoofkcbaa.GlFnExactIsBlock
