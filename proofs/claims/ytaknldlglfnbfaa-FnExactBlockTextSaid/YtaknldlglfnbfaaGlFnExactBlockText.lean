/- loop.example/g01062/laws.FnExactBlockText as a plain function, and the contract of the program's: where the plain one has an answer, the program has it. Conditions: slices read as lists. -/
import Derived.Test.YtaknldlglfnbfaaChecked
import Derived.Test.YtaknldlglfnbfaaGoM
import Derived.Test.YtaknldlglfnbfaaGoRBlock
import Derived.Test.YtaknldlglfnbfaaPBlock
import Derived.Test.YtaknldlglfnbfaaGlSzBlock
import Derived.Test.YtaknldlglfnbfaaGlToBlock
import Derived.Test.YtaknldlglfnbfaaGsBlockText
import Derived.Test.YtaknldlglfnbfaaGiBlockText
import Derived.Test.YtaknldlglfnbfaaGlEqBlock
import Derived.WalkKit
import Derived.WalkSpells
import Derived.WalkLawsBesides
import Derived.BigQuiet
import Derived.OwnWalk
import Derived.Deep.LoopGhost
import Derived.Deep.QuietTactic
import Derived.IntWalk
import Derived.Lib.QuietBelow
import Derived.Deep.RegionHeld3
namespace Go.Proofs.Ytaknldlglfnbfaa.GlFnExactBlockText
set_option linter.unusedVariables false
set_option linter.unusedSimpArgs false
open Go.RowKit
open Go.Proofs.Ytaknldlglfnbfaa.Rowed Go.Proofs.Ytaknldlglfnbfaa.Turn Go.Proofs.Ytaknldlglfnbfaa.Aid Go.Proofs.Ytaknldlglfnbfaa.GoP Go.Proofs.Ytaknldlglfnbfaa.GoM

def P (fuel : Nat) (aB_rows : (List ByteArray)) : Option (Bool) :=
  Option.bind (Go.Proofs.Ytaknldlglfnbfaa.GlSzBlock.P aB_rows 1048576) fun (t_5 : Int) =>
  letK (decide (t_5 < 0)) fun (t_8 : Bool) =>
  iteK t_8
  (some true)
  (Option.bind (Go.Proofs.Ytaknldlglfnbfaa.GlToBlock.P aB_rows) fun (t_11 : Go.Proofs.Ytaknldlglfnbfaa.PBlock.Block) =>
  unBlock t_11 fun (t_11_rows : (List ByteArray)) =>
  bind2 (Go.Proofs.Ytaknldlglfnbfaa.GsBlockText.P fuel t_11_rows) fun (t_12a : ByteArray) (t_12b : Bool) =>
  Option.bind (Go.Proofs.Ytaknldlglfnbfaa.GlToBlock.P aB_rows) fun (t_19 : Go.Proofs.Ytaknldlglfnbfaa.PBlock.Block) =>
  unBlock t_19 fun (t_19_rows : (List ByteArray)) =>
  bind2 (Go.Proofs.Ytaknldlglfnbfaa.GiBlockText.P t_19_rows) fun (t_23a : ByteArray) (t_23b : Bool) =>
  letK (!(t_23a.toList == t_12a.toList)) fun (t_31 : Bool) =>
  joinK (fun (t_36 : Bool) =>
  iteK t_36
  (some false)
  (Option.bind (Go.Proofs.Ytaknldlglfnbfaa.GlToBlock.P aB_rows) fun (t_40 : Go.Proofs.Ytaknldlglfnbfaa.PBlock.Block) =>
  unBlock t_40 fun (t_40_rows : (List ByteArray)) =>
  Option.bind (Go.Proofs.Ytaknldlglfnbfaa.GlEqBlock.P t_19_rows t_40_rows) fun (t_41 : Bool) =>
  letK (!t_41) fun (t_42 : Bool) =>
  iteK t_42
  (some false)
  (some true))) fun jt_36 => iteK t_31 (appK jt_36 true) (letK (t_23b != t_12b) fun (t_35 : Bool) =>
  appK jt_36 t_35))

set_option maxRecDepth 100000 in
set_option maxHeartbeats 2000000 in
theorem C (fuel : Nat) (aB_rows : (List ByteArray)) (A0_0 : Option Addr) (c0_0 : Nat)  (w : World) (M0_0 : Hid (Cells w 1 A0_0 aB_rows.length (aB_rows.map Value.string))) (N0_0 : Hid (aB_rows.length ≤ 9223372036854775807))  {r : Bool} (H : Hid (P fuel aB_rows = some r)) :
    Calls Try.prog 12 #[.agg #[.slice A0_0 aB_rows.length c0_0]] w (Gives (.bool r) w) := by
  have HB := Lib.hid (Below.refl w.heap.size w)
  unfold P at H
  have N0_0o := N0_0.out
  go_enter Try.func12, Try.ntmps12
  obtain ⟨w_aB_0, hw_aB_0⟩ : ∃ x, w.alloc (.cells #[.slice A0_0 aB_rows.length c0_0] 53) = x := ⟨_, rfl⟩
  have bw_aB_0 : Below w.heap.size w w_aB_0 := by rw [← hw_aB_0]; exact (Below.refl _ _).alloc (Nat.le_refl _) _
  have HBw_aB_0 := Lib.hid (Below.step HB.out bw_aB_0)
  clear bw_aB_0
  have kaB_0_0 : w_aB_0.cell? ⟨w.heap.size, 0, none⟩ = some (.slice A0_0 aB_rows.length c0_0) := by rw [← hw_aB_0]; exact box_new _ _ _ 0 _ rfl
  replace H := bind_hid H
  obtain ⟨t_5, qt_5, H⟩ := H
  go_wp2_with fail
  go_at_call 37
  refine (Go.Proofs.Ytaknldlglfnbfaa.GlSzBlock.C (aB_rows) (1048576) A0_0 c0_0 _  (Lib.hid (Cells.below M0_0.out HBw_aB_0.out)) N0_0 qt_5).mono ?_
  rintro e_t_5 wt_5 ⟨rfl, bt_5⟩
  have HBwt_5 := Lib.hid (Below.step HBw_aB_0.out bt_5)
  replace kaB_0_0 := cell_below bt_5 kaB_0_0
  clear bt_5
  replace H := let_hid H
  obtain ⟨t_8, ht_8, H⟩ := H
  cases t_8 with
  | false =>
    replace H := ite_f H
    replace H := bind_hid H
    obtain ⟨t_11, qt_11, H⟩ := H
    obtain ⟨t_11_rows⟩ := t_11
    replace H := unBlock_hid H
    go_wp2_with fail
    go_at_call 40
    refine (Go.Proofs.Ytaknldlglfnbfaa.GlToBlock.C (aB_rows) A0_0 c0_0 _  (Lib.hid (Cells.below M0_0.out HBwt_5.out)) N0_0 qt_11).mono ?_
    rintro e_t_11 wt_11 ⟨At_11_rows, ct_11_rows, rfl, ot_11_rows, bt_11⟩
    have Dt_11_rows_aB_0 := Lib.hid (apart_callbox ot_11_rows kaB_0_0)
    have Ot_11_rows := Lib.hid (own_lower ot_11_rows HBwt_5.out.size)
    clear ot_11_rows
    have HBwt_11 := Lib.hid (Below.step HBwt_5.out bt_11)
    replace kaB_0_0 := cell_below bt_11 kaB_0_0
    clear bt_11
    replace H := bind2_hid H
    obtain ⟨t_12a, t_12b, qt_12, H⟩ := H
    go_wp2_with fail
    go_at_call 61
    refine (Go.Proofs.Ytaknldlglfnbfaa.GsBlockText.C fuel (t_11_rows) At_11_rows ct_11_rows _  (Lib.hid (own_cells Ot_11_rows.out)) (Lib.hid (own_max Ot_11_rows.out)) qt_12).mono ?_
    rintro e_t_12 wt_12 ⟨rfl, bt_12⟩
    have HBwt_12 := Lib.hid (Below.step HBwt_11.out bt_12)
    replace kaB_0_0 := cell_below bt_12 kaB_0_0
    replace Ot_11_rows := Lib.hid (own_below Ot_11_rows.out bt_12)
    clear bt_12
    replace H := bind_hid H
    obtain ⟨t_19, qt_19, H⟩ := H
    obtain ⟨t_19_rows⟩ := t_19
    replace H := unBlock_hid H
    go_wp2_with fail
    go_at_call 40
    refine (Go.Proofs.Ytaknldlglfnbfaa.GlToBlock.C (aB_rows) A0_0 c0_0 _  (Lib.hid (Cells.below M0_0.out HBwt_12.out)) N0_0 qt_19).mono ?_
    rintro e_t_19 wt_19 ⟨At_19_rows, ct_19_rows, rfl, ot_19_rows, bt_19⟩
    have Dt_19_rows_t_11_rows := Lib.hid (apart_call ot_19_rows Ot_11_rows.out)
    have Dt_19_rows_aB_0 := Lib.hid (apart_callbox ot_19_rows kaB_0_0)
    have Ot_19_rows := Lib.hid (own_lower ot_19_rows HBwt_12.out.size)
    clear ot_19_rows
    have HBwt_19 := Lib.hid (Below.step HBwt_12.out bt_19)
    replace kaB_0_0 := cell_below bt_19 kaB_0_0
    replace Ot_11_rows := Lib.hid (own_below Ot_11_rows.out bt_19)
    clear bt_19
    obtain ⟨w_x0_20, hw_x0_20⟩ : ∃ x, wt_19.alloc (.cells #[.slice At_19_rows t_19_rows.length ct_19_rows] 57) = x := ⟨_, rfl⟩
    have bw_x0_20 : Below wt_19.heap.size wt_19 w_x0_20 := by rw [← hw_x0_20]; exact (Below.refl _ _).alloc (Nat.le_refl _) _
    have Dx0_20_t_11_rows := Lib.hid (apart_fresh Ot_11_rows.out)
    have Dx0_20_t_19_rows := Lib.hid (apart_fresh Ot_19_rows.out)
    have HBw_x0_20 := Lib.hid (Below.step HBwt_19.out bw_x0_20)
    have kaB_0_0__18 := cell_below bw_x0_20 kaB_0_0
    replace Ot_11_rows := Lib.hid (own_below Ot_11_rows.out bw_x0_20)
    replace Ot_19_rows := Lib.hid (own_below Ot_19_rows.out bw_x0_20)
    clear bw_x0_20
    have kx0_20_0 : w_x0_20.cell? ⟨wt_19.heap.size, 0, none⟩ = some (.slice At_19_rows t_19_rows.length ct_19_rows) := by rw [← hw_x0_20]; exact box_new _ _ _ 0 _ rfl
    replace H := bind2_hid H
    obtain ⟨t_23a, t_23b, qt_23, H⟩ := H
    go_wp2_with fail
    clear kaB_0_0
    go_at_call 62
    refine (Go.Proofs.Ytaknldlglfnbfaa.GiBlockText.C (t_19_rows) At_19_rows ct_19_rows _  (Lib.hid (own_cells Ot_19_rows.out)) (Lib.hid (own_max Ot_19_rows.out)) (Lib.hid (own_room Ot_19_rows.out)) qt_23).mono ?_
    rintro e_t_23 wt_23 ⟨rfl, bt_23⟩
    have HBwt_23 := Lib.hid (Below.step HBw_x0_20.out bt_23)
    replace kaB_0_0__18 := cell_below bt_23 kaB_0_0__18
    replace kx0_20_0 := cell_below bt_23 kx0_20_0
    replace Ot_11_rows := Lib.hid (own_below Ot_11_rows.out bt_23)
    replace Ot_19_rows := Lib.hid (own_below Ot_19_rows.out bt_23)
    clear bt_23
    replace H := let_hid H
    obtain ⟨t_31, ht_31, H⟩ := H
    replace H := join_hid H
    cases t_31 with
    | false =>
      replace H := ite_f H
      cases t_23b with
      | false =>
        cases t_12b with
        | false =>
          replace H := let_hid H
          obtain ⟨t_35, ht_35, H⟩ := H
          obtain rfl : t_35 = false := ht_35.symm
          replace H := app_hid H
          replace H := ite_f H
          go_wp2_with fail
          have bd10 : Below wt_23.heap.size wt_23 wt_23.drew := (Below.refl _ _).drew
          have HBwt_23.drew := Lib.hid (Below.step HBwt_23.out bd10)
          replace kaB_0_0__18 := cell_below bd10 kaB_0_0__18
          replace kx0_20_0 := cell_below bd10 kx0_20_0
          replace Ot_11_rows := Lib.hid (own_below Ot_11_rows.out bd10)
          replace Ot_19_rows := Lib.hid (own_below Ot_19_rows.out bd10)
          clear bd10
          replace H := bind_hid H
          obtain ⟨t_40, qt_40, H⟩ := H
          obtain ⟨t_40_rows⟩ := t_40
          replace H := unBlock_hid H
          replace H := bind_hid H
          obtain ⟨t_41, qt_41, H⟩ := H
          cases t_41 with
          | false =>
            replace H := let_hid H
            obtain ⟨t_42, ht_42, H⟩ := H
            obtain rfl : t_42 = true := ht_42.symm
            go_region_held3 (fun w' => w'.cell? ⟨w.heap.size, 0, none⟩ = some (.slice A0_0 aB_rows.length c0_0) ∧ w'.cell? ⟨wt_19.heap.size, 0, none⟩ = some (.slice At_19_rows t_19_rows.length ct_19_rows)) (first | exact ⟨kaB_0_0__18, kx0_20_0⟩)
                (first
                  | (go_at_call 40
                     refine (Go.Proofs.Ytaknldlglfnbfaa.GlToBlock.C (aB_rows) A0_0 c0_0 _  (Lib.hid (Cells.below M0_0.out HBwt_23.drew.out)) N0_0 qt_40).mono ?_
                     rintro e_t_40 wt_40 ⟨At_40_rows, ct_40_rows, rfl, ot_40_rows, bt_40⟩
                     have Dt_40_rows_t_11_rows := Lib.hid (apart_call ot_40_rows Ot_11_rows.out)
                     have Dt_40_rows_t_19_rows := Lib.hid (apart_call ot_40_rows Ot_19_rows.out)
                     have Dt_40_rows_aB_0 := Lib.hid (apart_callbox ot_40_rows kaB_0_0__18)
                     have Dt_40_rows_x0_20 := Lib.hid (apart_callbox ot_40_rows kx0_20_0)
                     have Ot_40_rows := Lib.hid (own_lower ot_40_rows HBwt_23.drew.out.size)
                     clear ot_40_rows
                     have HBwt_40 := Lib.hid (Below.step HBwt_23.drew.out bt_40)
                     replace kaB_0_0__18 := cell_below bt_40 kaB_0_0__18
                     replace kx0_20_0 := cell_below bt_40 kx0_20_0
                     replace Ot_11_rows := Lib.hid (own_below Ot_11_rows.out bt_40)
                     replace Ot_19_rows := Lib.hid (own_below Ot_19_rows.out bt_40)
                     clear bt_40
                     clear qt_40)
                  | (go_at_call 42
                     refine (Go.Proofs.Ytaknldlglfnbfaa.GlEqBlock.C (t_19_rows) (t_40_rows) At_19_rows ct_19_rows At_40_rows ct_40_rows _  (Lib.hid (own_cells Ot_19_rows.out)) (Lib.hid (own_max Ot_19_rows.out)) (Lib.hid (own_cells Ot_40_rows.out)) (Lib.hid (own_max Ot_40_rows.out)) qt_41).mono ?_
                     rintro e_t_41 wt_41 ⟨rfl, bt_41⟩
                     have HBwt_41 := Lib.hid (Below.step HBwt_40.out bt_41)
                     replace kaB_0_0__18 := cell_below bt_41 kaB_0_0__18
                     replace kx0_20_0 := cell_below bt_41 kx0_20_0
                     replace Ot_11_rows := Lib.hid (own_below Ot_11_rows.out bt_41)
                     replace Ot_19_rows := Lib.hid (own_below Ot_19_rows.out bt_41)
                     replace Ot_40_rows := Lib.hid (own_below Ot_40_rows.out bt_41)
                     clear bt_41
                     clear qt_41))
            replace H := ite_t H
            obtain rfl := ret_hid H
            go_wp2_with fail
            go_ret
            exact ⟨rfl, HBwt_41.out⟩
          | true =>
            replace H := let_hid H
            obtain ⟨t_42, ht_42, H⟩ := H
            obtain rfl : t_42 = false := ht_42.symm
            go_region_held3 (fun w' => w'.cell? ⟨w.heap.size, 0, none⟩ = some (.slice A0_0 aB_rows.length c0_0) ∧ w'.cell? ⟨wt_19.heap.size, 0, none⟩ = some (.slice At_19_rows t_19_rows.length ct_19_rows)) (first | exact ⟨kaB_0_0__18, kx0_20_0⟩)
                (first
                  | (go_at_call 40
                     refine (Go.Proofs.Ytaknldlglfnbfaa.GlToBlock.C (aB_rows) A0_0 c0_0 _  (Lib.hid (Cells.below M0_0.out HBwt_23.drew.out)) N0_0 qt_40).mono ?_
                     rintro e_t_40 wt_40 ⟨At_40_rows, ct_40_rows, rfl, ot_40_rows, bt_40⟩
                     have Dt_40_rows_t_11_rows := Lib.hid (apart_call ot_40_rows Ot_11_rows.out)
                     have Dt_40_rows_t_19_rows := Lib.hid (apart_call ot_40_rows Ot_19_rows.out)
                     have Dt_40_rows_aB_0 := Lib.hid (apart_callbox ot_40_rows kaB_0_0__18)
                     have Dt_40_rows_x0_20 := Lib.hid (apart_callbox ot_40_rows kx0_20_0)
                     have Ot_40_rows := Lib.hid (own_lower ot_40_rows HBwt_23.drew.out.size)
                     clear ot_40_rows
                     have HBwt_40 := Lib.hid (Below.step HBwt_23.drew.out bt_40)
                     replace kaB_0_0__18 := cell_below bt_40 kaB_0_0__18
                     replace kx0_20_0 := cell_below bt_40 kx0_20_0
                     replace Ot_11_rows := Lib.hid (own_below Ot_11_rows.out bt_40)
                     replace Ot_19_rows := Lib.hid (own_below Ot_19_rows.out bt_40)
                     clear bt_40
                     clear qt_40)
                  | (go_at_call 42
                     refine (Go.Proofs.Ytaknldlglfnbfaa.GlEqBlock.C (t_19_rows) (t_40_rows) At_19_rows ct_19_rows At_40_rows ct_40_rows _  (Lib.hid (own_cells Ot_19_rows.out)) (Lib.hid (own_max Ot_19_rows.out)) (Lib.hid (own_cells Ot_40_rows.out)) (Lib.hid (own_max Ot_40_rows.out)) qt_41).mono ?_
                     rintro e_t_41 wt_41 ⟨rfl, bt_41⟩
                     have HBwt_41 := Lib.hid (Below.step HBwt_40.out bt_41)
                     replace kaB_0_0__18 := cell_below bt_41 kaB_0_0__18
                     replace kx0_20_0 := cell_below bt_41 kx0_20_0
                     replace Ot_11_rows := Lib.hid (own_below Ot_11_rows.out bt_41)
                     replace Ot_19_rows := Lib.hid (own_below Ot_19_rows.out bt_41)
                     replace Ot_40_rows := Lib.hid (own_below Ot_40_rows.out bt_41)
                     clear bt_41
                     clear qt_41))
            replace H := ite_f H
            obtain rfl := ret_hid H
            go_wp2_with fail
            go_ret
            exact ⟨rfl, HBwt_41.out⟩
        | true =>
          replace H := let_hid H
          obtain ⟨t_35, ht_35, H⟩ := H
          obtain rfl : t_35 = true := ht_35.symm
          replace H := app_hid H
          replace H := ite_t H
          obtain rfl := ret_hid H
          go_wp2_with fail
          go_ret
          exact ⟨rfl, HBwt_23.out⟩
      | true =>
        cases t_12b with
        | false =>
          replace H := let_hid H
          obtain ⟨t_35, ht_35, H⟩ := H
          obtain rfl : t_35 = true := ht_35.symm
          replace H := app_hid H
          replace H := ite_t H
          obtain rfl := ret_hid H
          go_wp2_with fail
          go_ret
          exact ⟨rfl, HBwt_23.out⟩
        | true =>
          replace H := let_hid H
          obtain ⟨t_35, ht_35, H⟩ := H
          obtain rfl : t_35 = false := ht_35.symm
          replace H := app_hid H
          replace H := ite_f H
          go_wp2_with fail
          have bd10 : Below wt_23.heap.size wt_23 wt_23.drew := (Below.refl _ _).drew
          have HBwt_23.drew := Lib.hid (Below.step HBwt_23.out bd10)
          replace kaB_0_0__18 := cell_below bd10 kaB_0_0__18
          replace kx0_20_0 := cell_below bd10 kx0_20_0
          replace Ot_11_rows := Lib.hid (own_below Ot_11_rows.out bd10)
          replace Ot_19_rows := Lib.hid (own_below Ot_19_rows.out bd10)
          clear bd10
          replace H := bind_hid H
          obtain ⟨t_40, qt_40, H⟩ := H
          obtain ⟨t_40_rows⟩ := t_40
          replace H := unBlock_hid H
          replace H := bind_hid H
          obtain ⟨t_41, qt_41, H⟩ := H
          cases t_41 with
          | false =>
            replace H := let_hid H
            obtain ⟨t_42, ht_42, H⟩ := H
            obtain rfl : t_42 = true := ht_42.symm
            go_region_held3 (fun w' => w'.cell? ⟨w.heap.size, 0, none⟩ = some (.slice A0_0 aB_rows.length c0_0) ∧ w'.cell? ⟨wt_19.heap.size, 0, none⟩ = some (.slice At_19_rows t_19_rows.length ct_19_rows)) (first | exact ⟨kaB_0_0__18, kx0_20_0⟩)
                (first
                  | (go_at_call 40
                     refine (Go.Proofs.Ytaknldlglfnbfaa.GlToBlock.C (aB_rows) A0_0 c0_0 _  (Lib.hid (Cells.below M0_0.out HBwt_23.drew.out)) N0_0 qt_40).mono ?_
                     rintro e_t_40 wt_40 ⟨At_40_rows, ct_40_rows, rfl, ot_40_rows, bt_40⟩
                     have Dt_40_rows_t_11_rows := Lib.hid (apart_call ot_40_rows Ot_11_rows.out)
                     have Dt_40_rows_t_19_rows := Lib.hid (apart_call ot_40_rows Ot_19_rows.out)
                     have Dt_40_rows_aB_0 := Lib.hid (apart_callbox ot_40_rows kaB_0_0__18)
                     have Dt_40_rows_x0_20 := Lib.hid (apart_callbox ot_40_rows kx0_20_0)
                     have Ot_40_rows := Lib.hid (own_lower ot_40_rows HBwt_23.drew.out.size)
                     clear ot_40_rows
                     have HBwt_40 := Lib.hid (Below.step HBwt_23.drew.out bt_40)
                     replace kaB_0_0__18 := cell_below bt_40 kaB_0_0__18
                     replace kx0_20_0 := cell_below bt_40 kx0_20_0
                     replace Ot_11_rows := Lib.hid (own_below Ot_11_rows.out bt_40)
                     replace Ot_19_rows := Lib.hid (own_below Ot_19_rows.out bt_40)
                     clear bt_40
                     clear qt_40)
                  | (go_at_call 42
                     refine (Go.Proofs.Ytaknldlglfnbfaa.GlEqBlock.C (t_19_rows) (t_40_rows) At_19_rows ct_19_rows At_40_rows ct_40_rows _  (Lib.hid (own_cells Ot_19_rows.out)) (Lib.hid (own_max Ot_19_rows.out)) (Lib.hid (own_cells Ot_40_rows.out)) (Lib.hid (own_max Ot_40_rows.out)) qt_41).mono ?_
                     rintro e_t_41 wt_41 ⟨rfl, bt_41⟩
                     have HBwt_41 := Lib.hid (Below.step HBwt_40.out bt_41)
                     replace kaB_0_0__18 := cell_below bt_41 kaB_0_0__18
                     replace kx0_20_0 := cell_below bt_41 kx0_20_0
                     replace Ot_11_rows := Lib.hid (own_below Ot_11_rows.out bt_41)
                     replace Ot_19_rows := Lib.hid (own_below Ot_19_rows.out bt_41)
                     replace Ot_40_rows := Lib.hid (own_below Ot_40_rows.out bt_41)
                     clear bt_41
                     clear qt_41))
            replace H := ite_t H
            obtain rfl := ret_hid H
            go_wp2_with fail
            go_ret
            exact ⟨rfl, HBwt_41.out⟩
          | true =>
            replace H := let_hid H
            obtain ⟨t_42, ht_42, H⟩ := H
            obtain rfl : t_42 = false := ht_42.symm
            go_region_held3 (fun w' => w'.cell? ⟨w.heap.size, 0, none⟩ = some (.slice A0_0 aB_rows.length c0_0) ∧ w'.cell? ⟨wt_19.heap.size, 0, none⟩ = some (.slice At_19_rows t_19_rows.length ct_19_rows)) (first | exact ⟨kaB_0_0__18, kx0_20_0⟩)
                (first
                  | (go_at_call 40
                     refine (Go.Proofs.Ytaknldlglfnbfaa.GlToBlock.C (aB_rows) A0_0 c0_0 _  (Lib.hid (Cells.below M0_0.out HBwt_23.drew.out)) N0_0 qt_40).mono ?_
                     rintro e_t_40 wt_40 ⟨At_40_rows, ct_40_rows, rfl, ot_40_rows, bt_40⟩
                     have Dt_40_rows_t_11_rows := Lib.hid (apart_call ot_40_rows Ot_11_rows.out)
                     have Dt_40_rows_t_19_rows := Lib.hid (apart_call ot_40_rows Ot_19_rows.out)
                     have Dt_40_rows_aB_0 := Lib.hid (apart_callbox ot_40_rows kaB_0_0__18)
                     have Dt_40_rows_x0_20 := Lib.hid (apart_callbox ot_40_rows kx0_20_0)
                     have Ot_40_rows := Lib.hid (own_lower ot_40_rows HBwt_23.drew.out.size)
                     clear ot_40_rows
                     have HBwt_40 := Lib.hid (Below.step HBwt_23.drew.out bt_40)
                     replace kaB_0_0__18 := cell_below bt_40 kaB_0_0__18
                     replace kx0_20_0 := cell_below bt_40 kx0_20_0
                     replace Ot_11_rows := Lib.hid (own_below Ot_11_rows.out bt_40)
                     replace Ot_19_rows := Lib.hid (own_below Ot_19_rows.out bt_40)
                     clear bt_40
                     clear qt_40)
                  | (go_at_call 42
                     refine (Go.Proofs.Ytaknldlglfnbfaa.GlEqBlock.C (t_19_rows) (t_40_rows) At_19_rows ct_19_rows At_40_rows ct_40_rows _  (Lib.hid (own_cells Ot_19_rows.out)) (Lib.hid (own_max Ot_19_rows.out)) (Lib.hid (own_cells Ot_40_rows.out)) (Lib.hid (own_max Ot_40_rows.out)) qt_41).mono ?_
                     rintro e_t_41 wt_41 ⟨rfl, bt_41⟩
                     have HBwt_41 := Lib.hid (Below.step HBwt_40.out bt_41)
                     replace kaB_0_0__18 := cell_below bt_41 kaB_0_0__18
                     replace kx0_20_0 := cell_below bt_41 kx0_20_0
                     replace Ot_11_rows := Lib.hid (own_below Ot_11_rows.out bt_41)
                     replace Ot_19_rows := Lib.hid (own_below Ot_19_rows.out bt_41)
                     replace Ot_40_rows := Lib.hid (own_below Ot_40_rows.out bt_41)
                     clear bt_41
                     clear qt_41))
            replace H := ite_f H
            obtain rfl := ret_hid H
            go_wp2_with fail
            go_ret
            exact ⟨rfl, HBwt_41.out⟩
    | true =>
      replace H := ite_t H
      replace H := app_hid H
      replace H := ite_t H
      obtain rfl := ret_hid H
      go_wp2_with fail
      go_ret
      exact ⟨rfl, HBwt_23.out⟩
  | true =>
    replace H := ite_t H
    obtain rfl := ret_hid H
    go_wp2_with fail
    go_ret
    exact ⟨rfl, HBwt_5.out⟩
end Go.Proofs.Ytaknldlglfnbfaa.GlFnExactBlockText
