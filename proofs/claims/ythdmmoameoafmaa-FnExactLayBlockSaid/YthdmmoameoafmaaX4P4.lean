/- Texts on which the proofs of several laws stand, one behind the other (4 of 5). No condition of their own. -/
import Derived.Test.YthdmmoameoafmaaChecked
import Derived.Test.YthdmmoameoafmaaX4P1
import Derived.Test.YthdmmoameoafmaaX4P2
import Derived.Test.YthdmmoameoafmaaX4P3
import Derived.WalkKit
import Derived.WalkSpells
import Derived.WalkLawsBesides
import Derived.BigQuiet
import Derived.OwnWalk
import Derived.Deep.LoopGhost
import Derived.Deep.QuietTactic
import Derived.IntWalk
import Derived.Lib.QuietBelow
import Derived.Deep.RegionHeld3
/- loop.example/g01062/laws.FnExactLayBlock as a plain function, and the contract of the program's: where the plain one has an answer, the program has it. Conditions: slices read as lists. -/
namespace Go.Proofs.Ythdmmoameoafmaa.GlFnExactLayBlock
set_option linter.unusedVariables false
set_option linter.unusedSimpArgs false
open Go.RowKit
open Go.Proofs.Ythdmmoameoafmaa.Rowed Go.Proofs.Ythdmmoameoafmaa.Turn Go.Proofs.Ythdmmoameoafmaa.Aid Go.Proofs.Ythdmmoameoafmaa.GoP Go.Proofs.Ythdmmoameoafmaa.GoM

def P (fuel : Nat) (aSheet : (List ByteArray)) (aB_rows : (List ByteArray)) (aRow : Int) (aCol : Int) : Option (Bool) :=
  Option.bind (Go.Proofs.Ythdmmoameoafmaa.GlSzStringS.P aSheet 1048576) fun (t_5 : Int) =>
  letK (decide (t_5 < 0)) fun (t_8 : Bool) =>
  iteK t_8
  (some true)
  (Option.bind (Go.Proofs.Ythdmmoameoafmaa.GlSzBlock.P aB_rows t_5) fun (t_12 : Int) =>
  letK (decide (t_12 < 0)) fun (t_15 : Bool) =>
  iteK t_15
  (some true)
  (Option.bind (Go.Proofs.Ythdmmoameoafmaa.GlToStringS.P aSheet) fun (t_18 : (List ByteArray)) =>
  Option.bind (Go.Proofs.Ythdmmoameoafmaa.GlToBlock.P aB_rows) fun (t_20 : Go.Proofs.Ythdmmoameoafmaa.PBlock.Block) =>
  unBlock t_20 fun (t_20_rows : (List ByteArray)) =>
  bind2 (Go.Proofs.Ythdmmoameoafmaa.GsLayBlock.P fuel t_18 t_20_rows aRow aCol) fun (t_23a : (List ByteArray)) (t_23b : Bool) =>
  Option.bind (Go.Proofs.Ythdmmoameoafmaa.GlToStringS.P aSheet) fun (t_30 : (List ByteArray)) =>
  Option.bind (Go.Proofs.Ythdmmoameoafmaa.GlToBlock.P aB_rows) fun (t_33 : Go.Proofs.Ythdmmoameoafmaa.PBlock.Block) =>
  unBlock t_33 fun (t_33_rows : (List ByteArray)) =>
  bind2 (Go.Proofs.Ythdmmoameoafmaa.GiLayBlock.P t_30 t_33_rows aRow aCol) fun (t_40a : (List ByteArray)) (t_40b : Bool) =>
  Option.bind (Go.Proofs.Ythdmmoameoafmaa.GlEqStringS.P t_40a t_23a) fun (t_48 : Bool) =>
  letK (!t_48) fun (t_49 : Bool) =>
  joinK (fun (t_54 : Bool) =>
  iteK t_54
  (some false)
  (Option.bind (Go.Proofs.Ythdmmoameoafmaa.GlToStringS.P aSheet) fun (t_58 : (List ByteArray)) =>
  Option.bind (Go.Proofs.Ythdmmoameoafmaa.GlEqStringS.P t_30 t_58) fun (t_59 : Bool) =>
  letK (!t_59) fun (t_60 : Bool) =>
  iteK t_60
  (some false)
  (Option.bind (Go.Proofs.Ythdmmoameoafmaa.GlToBlock.P aB_rows) fun (t_64 : Go.Proofs.Ythdmmoameoafmaa.PBlock.Block) =>
  unBlock t_64 fun (t_64_rows : (List ByteArray)) =>
  Option.bind (Go.Proofs.Ythdmmoameoafmaa.GlEqBlock.P t_33_rows t_64_rows) fun (t_65 : Bool) =>
  letK (!t_65) fun (t_66 : Bool) =>
  iteK t_66
  (some false)
  (bind2 (Go.Proofs.Ythdmmoameoafmaa.GlMarkStringS.P t_30 1) fun (t_71 : Int) (lt_71 : (List ByteArray)) =>
  bind2 (Go.Proofs.Ythdmmoameoafmaa.GlMarkBlock.P t_33_rows t_71) fun (t_75 : Int) (lt_75 : (List ByteArray)) =>
  letK (decide (t_75 < 0)) fun (t_78 : Bool) =>
  joinK (fun (t_84 : Bool) =>
  joinK (fun (t_89 : Bool) =>
  iteK t_89
  (some false)
  (bind2 (Go.Proofs.Ythdmmoameoafmaa.GlMarkStringS.P t_40a 1) fun (t_94 : Int) (lt_94 : (List ByteArray)) =>
  Option.bind (Go.Proofs.Ythdmmoameoafmaa.GlHeldStringS.P lt_94 1) fun (t_99 : Int) =>
  letK (decide (t_99 < 0)) fun (t_102 : Bool) =>
  iteK t_102
  (some false)
  (letK (t_99 != t_94) fun (t_106 : Bool) =>
  iteK t_106
  (some false)
  (Option.bind (Go.Proofs.Ythdmmoameoafmaa.GlToStringS.P aSheet) fun (t_109 : (List ByteArray)) =>
  Option.bind (Go.Proofs.Ythdmmoameoafmaa.GlToBlock.P aB_rows) fun (t_111 : Go.Proofs.Ythdmmoameoafmaa.PBlock.Block) =>
  unBlock t_111 fun (t_111_rows : (List ByteArray)) =>
  bind2 (Go.Proofs.Ythdmmoameoafmaa.GiLayBlock.P t_109 t_111_rows aRow aCol) fun (t_114a : (List ByteArray)) (t_114b : Bool) =>
  Option.bind (Go.Proofs.Ythdmmoameoafmaa.GlEqStringS.P t_114a t_23a) fun (t_122 : Bool) =>
  letK (!t_122) fun (t_123 : Bool) =>
  joinK (fun (t_128 : Bool) =>
  iteK t_128
  (some false)
  (Option.bind (Go.Proofs.Ythdmmoameoafmaa.GlHeldStringS.P lt_94 1) fun (t_133 : Int) =>
  letK (decide (t_133 < 0)) fun (t_136 : Bool) =>
  iteK t_136
  (some false)
  (letK (t_133 != t_94) fun (t_140 : Bool) =>
  iteK t_140
  (some false)
  (some true)))) fun jt_128 => iteK t_123 (appK jt_128 true) (letK (!(t_114b == t_23b)) fun (t_127 : Bool) =>
  appK jt_128 t_127))))) fun jt_89 => iteK t_84 (appK jt_89 true) (letK (!(t_40b == t_23b)) fun (t_88 : Bool) =>
  appK jt_89 t_88)) fun jt_84 => iteK t_78 (appK jt_84 true) (Option.bind (Go.Proofs.Ythdmmoameoafmaa.GlEqStringS.P t_40a t_23a) fun (t_82 : Bool) =>
  letK (!t_82) fun (t_83 : Bool) =>
  appK jt_84 t_83))))) fun jt_54 => iteK t_49 (appK jt_54 true) (letK (!(t_40b == t_23b)) fun (t_53 : Bool) =>
  appK jt_54 t_53)))

set_option maxRecDepth 100000 in
set_option maxHeartbeats 2000000 in
theorem C (fuel : Nat) (aSheet : (List ByteArray)) (aB_rows : (List ByteArray)) (aRow : Int) (aCol : Int) (A0 : Option Addr) (c0 : Nat) (A1_0 : Option Addr) (c1_0 : Nat)  (w : World) (M0 : Hid (Cells w 1 A0 aSheet.length (aSheet.map Value.string))) (N0 : Hid (aSheet.length ≤ 9223372036854775807)) (M1_0 : Hid (Cells w 1 A1_0 aB_rows.length (aB_rows.map Value.string))) (N1_0 : Hid (aB_rows.length ≤ 9223372036854775807))  {r : Bool} (H : Hid (P fuel aSheet aB_rows aRow aCol = some r)) :
    Calls Try.prog 3 #[.slice A0 aSheet.length c0, .agg #[.slice A1_0 aB_rows.length c1_0], .int .i64 aRow, .int .i64 aCol] w (Gives (.bool r) w) := by
  have HB := Lib.hid (Below.refl w.heap.size w)
  unfold P at H
  have N0o := N0.out
  have N1_0o := N1_0.out
  go_enter Try.func3, Try.ntmps3
  obtain ⟨w_aB_0, hw_aB_0⟩ : ∃ x, w.alloc (.cells #[.slice A1_0 aB_rows.length c1_0] 24) = x := ⟨_, rfl⟩
  have bw_aB_0 : Below w.heap.size w w_aB_0 := by rw [← hw_aB_0]; exact (Below.refl _ _).alloc (Nat.le_refl _) _
  have HBw_aB_0 := Lib.hid (Below.step HB.out bw_aB_0)
  clear bw_aB_0
  have kaB_0_0 : w_aB_0.cell? ⟨w.heap.size, 0, none⟩ = some (.slice A1_0 aB_rows.length c1_0) := by rw [← hw_aB_0]; exact box_new _ _ _ 0 _ rfl
  replace H := bind_hid H
  obtain ⟨t_5, qt_5, H⟩ := H
  go_wp2_with fail
  go_at_call 4
  refine (Go.Proofs.Ythdmmoameoafmaa.GlSzStringS.C (aSheet) (1048576) A0 c0 _   (Lib.hid (Cells.below M0.out HBw_aB_0.out)) N0 qt_5).mono ?_
  rintro e_t_5 wt_5 ⟨rfl, bt_5⟩
  have HBwt_5 := Lib.hid (Below.step HBw_aB_0.out bt_5)
  replace kaB_0_0 := cell_below bt_5 kaB_0_0
  clear bt_5
  replace H := let_hid H
  obtain ⟨t_8, ht_8, H⟩ := H
  cases t_8 with
  | false =>
    replace H := ite_f H
    replace H := bind_hid H
    obtain ⟨t_12, qt_12, H⟩ := H
    go_wp2_with fail
    go_at_call 5
    refine (Go.Proofs.Ythdmmoameoafmaa.GlSzBlock.C (aB_rows) (t_5) A1_0 c1_0 _   (Lib.hid (Cells.below M1_0.out HBwt_5.out)) N1_0 qt_12).mono ?_
    rintro e_t_12 wt_12 ⟨rfl, bt_12⟩
    have HBwt_12 := Lib.hid (Below.step HBwt_5.out bt_12)
    replace kaB_0_0 := cell_below bt_12 kaB_0_0
    clear bt_12
    replace H := let_hid H
    obtain ⟨t_15, ht_15, H⟩ := H
    cases t_15 with
    | false =>
      replace H := ite_f H
      go_wp2_with fail
      have bd8 : Below wt_12.heap.size wt_12 wt_12.drew := (Below.refl _ _).drew
      have HBwt_12.drew := Lib.hid (Below.step HBwt_12.out bd8)
      replace kaB_0_0 := cell_below bd8 kaB_0_0
      clear bd8
      replace H := bind_hid H
      obtain ⟨t_18, qt_18, H⟩ := H
      replace H := bind_hid H
      obtain ⟨t_20, qt_20, H⟩ := H
      obtain ⟨t_20_rows⟩ := t_20
      replace H := unBlock_hid H
      replace H := bind2_hid H
      obtain ⟨t_23a, t_23b, qt_23, H⟩ := H
      go_region_held3 (fun w' => w'.cell? ⟨w.heap.size, 0, none⟩ = some (.slice A1_0 aB_rows.length c1_0)) (first | exact kaB_0_0)
          (first
            | (go_at_call 7
               refine (Go.Proofs.Ythdmmoameoafmaa.GlToStringS.C (aSheet) A0 c0 _   (Lib.hid (Cells.below M0.out HBwt_12.drew.out)) N0 qt_18).mono ?_
               rintro e_t_18 wt_18 ⟨At_18, ct_18, rfl, ot_18, bt_18⟩
               have Dt_18_aB_0 := Lib.hid (apart_callbox ot_18 kaB_0_0)
               have Ot_18 := Lib.hid (own_lower ot_18 HBwt_12.drew.out.size)
               clear ot_18
               have HBwt_18 := Lib.hid (Below.step HBwt_12.drew.out bt_18)
               replace kaB_0_0 := cell_below bt_18 kaB_0_0
               clear bt_18
               clear qt_18)
            | (go_at_call 8
               refine (Go.Proofs.Ythdmmoameoafmaa.GlToBlock.C (aB_rows) A1_0 c1_0 _   (Lib.hid (Cells.below M1_0.out HBwt_18.out)) N1_0 qt_20).mono ?_
               rintro e_t_20 wt_20 ⟨At_20_rows, ct_20_rows, rfl, ot_20_rows, bt_20⟩
               have Dt_20_rows_t_18 := Lib.hid (apart_call ot_20_rows Ot_18.out)
               have Dt_20_rows_aB_0 := Lib.hid (apart_callbox ot_20_rows kaB_0_0)
               have Ot_20_rows := Lib.hid (own_lower ot_20_rows HBwt_18.out.size)
               clear ot_20_rows
               have HBwt_20 := Lib.hid (Below.step HBwt_18.out bt_20)
               replace kaB_0_0 := cell_below bt_20 kaB_0_0
               replace Ot_18 := Lib.hid (own_below Ot_18.out bt_20)
               clear bt_20
               clear qt_20)
            | (go_at_call 6
               refine (Go.Proofs.Ythdmmoameoafmaa.GsLayBlock.C fuel (t_18) (t_20_rows) (aRow) (aCol) At_18 ct_18 At_20_rows ct_20_rows _   (Lib.hid (own_cells Ot_18.out)) (Lib.hid (own_max Ot_18.out)) (Lib.hid (own_cells Ot_20_rows.out)) (Lib.hid (own_max Ot_20_rows.out)) qt_23).mono ?_
               rintro e_t_23 wt_23 ⟨At_23a, ct_23a, rfl, ot_23a, bt_23⟩
               have Dt_23a_t_18 := Lib.hid (apart_call ot_23a Ot_18.out)
               have Dt_23a_t_20_rows := Lib.hid (apart_call ot_23a Ot_20_rows.out)
               have Dt_23a_aB_0 := Lib.hid (apart_callbox ot_23a kaB_0_0)
               have Ot_23a := Lib.hid (own_lower ot_23a HBwt_20.out.size)
               clear ot_23a
               have HBwt_23 := Lib.hid (Below.step HBwt_20.out bt_23)
               replace kaB_0_0 := cell_below bt_23 kaB_0_0
               replace Ot_18 := Lib.hid (own_below Ot_18.out bt_23)
               replace Ot_20_rows := Lib.hid (own_below Ot_20_rows.out bt_23)
               clear bt_23
               clear qt_23))
      replace H := bind_hid H
      obtain ⟨t_30, qt_30, H⟩ := H
      go_wp2_with fail
      go_at_call 7
      refine (Go.Proofs.Ythdmmoameoafmaa.GlToStringS.C (aSheet) A0 c0 _   (Lib.hid (Cells.below M0.out HBwt_23.out)) N0 qt_30).mono ?_
      rintro e_t_30 wt_30 ⟨At_30, ct_30, rfl, ot_30, bt_30⟩
      have Dt_30_t_18 := Lib.hid (apart_call ot_30 Ot_18.out)
      have Dt_30_t_20_rows := Lib.hid (apart_call ot_30 Ot_20_rows.out)
      have Dt_30_t_23a := Lib.hid (apart_call ot_30 Ot_23a.out)
      have Dt_30_aB_0 := Lib.hid (apart_callbox ot_30 kaB_0_0)
      have Ot_30 := Lib.hid (own_lower ot_30 HBwt_23.out.size)
      clear ot_30
      have HBwt_30 := Lib.hid (Below.step HBwt_23.out bt_30)
      replace kaB_0_0 := cell_below bt_30 kaB_0_0
      replace Ot_18 := Lib.hid (own_below Ot_18.out bt_30)
      replace Ot_20_rows := Lib.hid (own_below Ot_20_rows.out bt_30)
      replace Ot_23a := Lib.hid (own_below Ot_23a.out bt_30)
      clear bt_30
      replace H := bind_hid H
      obtain ⟨t_33, qt_33, H⟩ := H
      obtain ⟨t_33_rows⟩ := t_33
      replace H := unBlock_hid H
      go_wp2_with fail
      go_at_call 8
      refine (Go.Proofs.Ythdmmoameoafmaa.GlToBlock.C (aB_rows) A1_0 c1_0 _   (Lib.hid (Cells.below M1_0.out HBwt_30.out)) N1_0 qt_33).mono ?_
      rintro e_t_33 wt_33 ⟨At_33_rows, ct_33_rows, rfl, ot_33_rows, bt_33⟩
      have Dt_33_rows_t_18 := Lib.hid (apart_call ot_33_rows Ot_18.out)
      have Dt_33_rows_t_20_rows := Lib.hid (apart_call ot_33_rows Ot_20_rows.out)
      have Dt_33_rows_t_23a := Lib.hid (apart_call ot_33_rows Ot_23a.out)
      have Dt_33_rows_t_30 := Lib.hid (apart_call ot_33_rows Ot_30.out)
      have Dt_33_rows_aB_0 := Lib.hid (apart_callbox ot_33_rows kaB_0_0)
      have Ot_33_rows := Lib.hid (own_lower ot_33_rows HBwt_30.out.size)
      clear ot_33_rows
      have HBwt_33 := Lib.hid (Below.step HBwt_30.out bt_33)
      replace kaB_0_0 := cell_below bt_33 kaB_0_0
      replace Ot_18 := Lib.hid (own_below Ot_18.out bt_33)
      replace Ot_20_rows := Lib.hid (own_below Ot_20_rows.out bt_33)
      replace Ot_23a := Lib.hid (own_below Ot_23a.out bt_33)
      replace Ot_30 := Lib.hid (own_below Ot_30.out bt_33)
      clear bt_33
      obtain ⟨w_x1_34, hw_x1_34⟩ : ∃ x, wt_33.alloc (.cells #[.slice At_33_rows t_33_rows.length ct_33_rows] 30) = x := ⟨_, rfl⟩
      have bw_x1_34 : Below wt_33.heap.size wt_33 w_x1_34 := by rw [← hw_x1_34]; exact (Below.refl _ _).alloc (Nat.le_refl _) _
      have Dx1_34_t_18 := Lib.hid (apart_fresh Ot_18.out)
      have Dx1_34_t_20_rows := Lib.hid (apart_fresh Ot_20_rows.out)
      have Dx1_34_t_23a := Lib.hid (apart_fresh Ot_23a.out)
      have Dx1_34_t_30 := Lib.hid (apart_fresh Ot_30.out)
      have Dx1_34_t_33_rows := Lib.hid (apart_fresh Ot_33_rows.out)
      have HBw_x1_34 := Lib.hid (Below.step HBwt_33.out bw_x1_34)
      have kaB_0_0__29 := cell_below bw_x1_34 kaB_0_0
      replace Ot_18 := Lib.hid (own_below Ot_18.out bw_x1_34)
      replace Ot_20_rows := Lib.hid (own_below Ot_20_rows.out bw_x1_34)
      replace Ot_23a := Lib.hid (own_below Ot_23a.out bw_x1_34)
      replace Ot_30 := Lib.hid (own_below Ot_30.out bw_x1_34)
      replace Ot_33_rows := Lib.hid (own_below Ot_33_rows.out bw_x1_34)
      clear bw_x1_34
      have kx1_34_0 : w_x1_34.cell? ⟨wt_33.heap.size, 0, none⟩ = some (.slice At_33_rows t_33_rows.length ct_33_rows) := by rw [← hw_x1_34]; exact box_new _ _ _ 0 _ rfl
      replace H := bind2_hid H
      obtain ⟨t_40a, t_40b, qt_40, H⟩ := H
      go_wp2_with fail
      clear kaB_0_0
      go_at_call 9
      refine (Go.Proofs.Ythdmmoameoafmaa.GiLayBlock.C (t_30) (t_33_rows) (aRow) (aCol) At_30 ct_30 At_33_rows ct_33_rows _   (Lib.hid (own_cells Ot_30.out)) (Lib.hid (own_max Ot_30.out)) (Lib.hid (own_room Ot_30.out)) (Lib.hid (own_cells Ot_33_rows.out)) (Lib.hid (own_max Ot_33_rows.out)) (Lib.hid (own_room Ot_33_rows.out)) qt_40).mono ?_
      rintro e_t_40 wt_40 ⟨At_40a, ct_40a, rfl, ot_40a, bt_40⟩
      have Dt_40a_t_18 := Lib.hid (apart_call ot_40a Ot_18.out)
      have Dt_40a_t_20_rows := Lib.hid (apart_call ot_40a Ot_20_rows.out)
      have Dt_40a_t_23a := Lib.hid (apart_call ot_40a Ot_23a.out)
      have Dt_40a_t_30 := Lib.hid (apart_call ot_40a Ot_30.out)
      have Dt_40a_t_33_rows := Lib.hid (apart_call ot_40a Ot_33_rows.out)
      have Dt_40a_aB_0 := Lib.hid (apart_callbox ot_40a kaB_0_0__29)
      have Dt_40a_x1_34 := Lib.hid (apart_callbox ot_40a kx1_34_0)
      have Ot_40a := Lib.hid (own_lower ot_40a HBw_x1_34.out.size)
      clear ot_40a
      have HBwt_40 := Lib.hid (Below.step HBw_x1_34.out bt_40)
      replace kaB_0_0__29 := cell_below bt_40 kaB_0_0__29
      replace kx1_34_0 := cell_below bt_40 kx1_34_0
      replace Ot_18 := Lib.hid (own_below Ot_18.out bt_40)
      replace Ot_20_rows := Lib.hid (own_below Ot_20_rows.out bt_40)
      replace Ot_23a := Lib.hid (own_below Ot_23a.out bt_40)
      replace Ot_30 := Lib.hid (own_below Ot_30.out bt_40)
      replace Ot_33_rows := Lib.hid (own_below Ot_33_rows.out bt_40)
      clear bt_40
      replace H := bind_hid H
      obtain ⟨t_48, qt_48, H⟩ := H
      go_wp2_with fail
      go_at_call 10
      refine (Go.Proofs.Ythdmmoameoafmaa.GlEqStringS.C (t_40a) (t_23a) At_40a ct_40a At_23a ct_23a _   (Lib.hid (own_cells Ot_40a.out)) (Lib.hid (own_max Ot_40a.out)) (Lib.hid (own_cells Ot_23a.out)) (Lib.hid (own_max Ot_23a.out)) qt_48).mono ?_
      rintro e_t_48 wt_48 ⟨rfl, bt_48⟩
      have HBwt_48 := Lib.hid (Below.step HBwt_40.out bt_48)
      replace kaB_0_0__29 := cell_below bt_48 kaB_0_0__29
      replace kx1_34_0 := cell_below bt_48 kx1_34_0
      replace Ot_18 := Lib.hid (own_below Ot_18.out bt_48)
      replace Ot_20_rows := Lib.hid (own_below Ot_20_rows.out bt_48)
      replace Ot_23a := Lib.hid (own_below Ot_23a.out bt_48)
      replace Ot_30 := Lib.hid (own_below Ot_30.out bt_48)
      replace Ot_33_rows := Lib.hid (own_below Ot_33_rows.out bt_48)
      replace Ot_40a := Lib.hid (own_below Ot_40a.out bt_48)
      clear bt_48
      cases t_48 with
      | false =>
        replace H := let_hid H
        obtain ⟨t_49, ht_49, H⟩ := H
        obtain rfl : t_49 = true := ht_49.symm
        replace H := join_hid H
        replace H := ite_t H
        replace H := app_hid H
        replace H := ite_t H
        obtain rfl := ret_hid H
        go_wp2_with fail
        go_ret
        exact ⟨rfl, HBwt_48.out⟩
      | true =>
        replace H := let_hid H
        obtain ⟨t_49, ht_49, H⟩ := H
        obtain rfl : t_49 = false := ht_49.symm
        replace H := join_hid H
        replace H := ite_f H
        replace H := let_hid H
        obtain ⟨t_53, ht_53, H⟩ := H
        replace H := app_hid H
        cases t_53 with
        | false =>
          replace H := ite_f H
          replace H := bind_hid H
          obtain ⟨t_58, qt_58, H⟩ := H
          go_wp2_with fail
          go_at_call 7
          refine (Go.Proofs.Ythdmmoameoafmaa.GlToStringS.C (aSheet) A0 c0 _   (Lib.hid (Cells.below M0.out HBwt_48.out)) N0 qt_58).mono ?_
          rintro e_t_58 wt_58 ⟨At_58, ct_58, rfl, ot_58, bt_58⟩
          have Dt_58_t_18 := Lib.hid (apart_call ot_58 Ot_18.out)
          have Dt_58_t_20_rows := Lib.hid (apart_call ot_58 Ot_20_rows.out)
          have Dt_58_t_23a := Lib.hid (apart_call ot_58 Ot_23a.out)
          have Dt_58_t_30 := Lib.hid (apart_call ot_58 Ot_30.out)
          have Dt_58_t_33_rows := Lib.hid (apart_call ot_58 Ot_33_rows.out)
          have Dt_58_t_40a := Lib.hid (apart_call ot_58 Ot_40a.out)
          have Dt_58_aB_0 := Lib.hid (apart_callbox ot_58 kaB_0_0__29)
          have Dt_58_x1_34 := Lib.hid (apart_callbox ot_58 kx1_34_0)
          have Ot_58 := Lib.hid (own_lower ot_58 HBwt_48.out.size)
          clear ot_58
          have HBwt_58 := Lib.hid (Below.step HBwt_48.out bt_58)
          replace kaB_0_0__29 := cell_below bt_58 kaB_0_0__29
          replace kx1_34_0 := cell_below bt_58 kx1_34_0
          replace Ot_18 := Lib.hid (own_below Ot_18.out bt_58)
          replace Ot_20_rows := Lib.hid (own_below Ot_20_rows.out bt_58)
          replace Ot_23a := Lib.hid (own_below Ot_23a.out bt_58)
          replace Ot_30 := Lib.hid (own_below Ot_30.out bt_58)
          replace Ot_33_rows := Lib.hid (own_below Ot_33_rows.out bt_58)
          replace Ot_40a := Lib.hid (own_below Ot_40a.out bt_58)
          clear bt_58
          replace H := bind_hid H
          obtain ⟨t_59, qt_59, H⟩ := H
          go_wp2_with fail
          go_at_call 10
          refine (Go.Proofs.Ythdmmoameoafmaa.GlEqStringS.C (t_30) (t_58) At_30 ct_30 At_58 ct_58 _   (Lib.hid (own_cells Ot_30.out)) (Lib.hid (own_max Ot_30.out)) (Lib.hid (own_cells Ot_58.out)) (Lib.hid (own_max Ot_58.out)) qt_59).mono ?_
          rintro e_t_59 wt_59 ⟨rfl, bt_59⟩
          have HBwt_59 := Lib.hid (Below.step HBwt_58.out bt_59)
          replace kaB_0_0__29 := cell_below bt_59 kaB_0_0__29
          replace kx1_34_0 := cell_below bt_59 kx1_34_0
          replace Ot_18 := Lib.hid (own_below Ot_18.out bt_59)
          replace Ot_20_rows := Lib.hid (own_below Ot_20_rows.out bt_59)
          replace Ot_23a := Lib.hid (own_below Ot_23a.out bt_59)
          replace Ot_30 := Lib.hid (own_below Ot_30.out bt_59)
          replace Ot_33_rows := Lib.hid (own_below Ot_33_rows.out bt_59)
          replace Ot_40a := Lib.hid (own_below Ot_40a.out bt_59)
          replace Ot_58 := Lib.hid (own_below Ot_58.out bt_59)
          clear bt_59
          cases t_59 with
          | false =>
            replace H := let_hid H
            obtain ⟨t_60, ht_60, H⟩ := H
            obtain rfl : t_60 = true := ht_60.symm
            replace H := ite_t H
            obtain rfl := ret_hid H
            go_wp2_with fail
            go_ret
            exact ⟨rfl, HBwt_59.out⟩
          | true =>
            replace H := let_hid H
            obtain ⟨t_60, ht_60, H⟩ := H
            obtain rfl : t_60 = false := ht_60.symm
            replace H := ite_f H
            go_wp2_with fail
            have bd16 : Below wt_59.heap.size wt_59 wt_59.drew := (Below.refl _ _).drew
            have HBwt_59.drew := Lib.hid (Below.step HBwt_59.out bd16)
            replace kaB_0_0__29 := cell_below bd16 kaB_0_0__29
            replace kx1_34_0 := cell_below bd16 kx1_34_0
            replace Ot_18 := Lib.hid (own_below Ot_18.out bd16)
            replace Ot_20_rows := Lib.hid (own_below Ot_20_rows.out bd16)
            replace Ot_23a := Lib.hid (own_below Ot_23a.out bd16)
            replace Ot_30 := Lib.hid (own_below Ot_30.out bd16)
            replace Ot_33_rows := Lib.hid (own_below Ot_33_rows.out bd16)
            replace Ot_40a := Lib.hid (own_below Ot_40a.out bd16)
            replace Ot_58 := Lib.hid (own_below Ot_58.out bd16)
            clear bd16
            replace H := bind_hid H
            obtain ⟨t_64, qt_64, H⟩ := H
            obtain ⟨t_64_rows⟩ := t_64
            replace H := unBlock_hid H
            replace H := bind_hid H
            obtain ⟨t_65, qt_65, H⟩ := H
            cases t_65 with
            | false =>
              replace H := let_hid H
              obtain ⟨t_66, ht_66, H⟩ := H
              obtain rfl : t_66 = true := ht_66.symm
              go_region_held3 (fun w' => w'.cell? ⟨w.heap.size, 0, none⟩ = some (.slice A1_0 aB_rows.length c1_0) ∧ w'.cell? ⟨wt_33.heap.size, 0, none⟩ = some (.slice At_33_rows t_33_rows.length ct_33_rows)) (first | exact ⟨kaB_0_0__29, kx1_34_0⟩)
                  (first
                    | (go_at_call 8
                       refine (Go.Proofs.Ythdmmoameoafmaa.GlToBlock.C (aB_rows) A1_0 c1_0 _   (Lib.hid (Cells.below M1_0.out HBwt_59.drew.out)) N1_0 qt_64).mono ?_
                       rintro e_t_64 wt_64 ⟨At_64_rows, ct_64_rows, rfl, ot_64_rows, bt_64⟩
                       have Dt_64_rows_t_18 := Lib.hid (apart_call ot_64_rows Ot_18.out)
                       have Dt_64_rows_t_20_rows := Lib.hid (apart_call ot_64_rows Ot_20_rows.out)
                       have Dt_64_rows_t_23a := Lib.hid (apart_call ot_64_rows Ot_23a.out)
                       have Dt_64_rows_t_30 := Lib.hid (apart_call ot_64_rows Ot_30.out)
                       have Dt_64_rows_t_33_rows := Lib.hid (apart_call ot_64_rows Ot_33_rows.out)
                       have Dt_64_rows_t_40a := Lib.hid (apart_call ot_64_rows Ot_40a.out)
                       have Dt_64_rows_t_58 := Lib.hid (apart_call ot_64_rows Ot_58.out)
                       have Dt_64_rows_aB_0 := Lib.hid (apart_callbox ot_64_rows kaB_0_0__29)
                       have Dt_64_rows_x1_34 := Lib.hid (apart_callbox ot_64_rows kx1_34_0)
                       have Ot_64_rows := Lib.hid (own_lower ot_64_rows HBwt_59.drew.out.size)
                       clear ot_64_rows
                       have HBwt_64 := Lib.hid (Below.step HBwt_59.drew.out bt_64)
                       replace kaB_0_0__29 := cell_below bt_64 kaB_0_0__29
                       replace kx1_34_0 := cell_below bt_64 kx1_34_0
                       replace Ot_18 := Lib.hid (own_below Ot_18.out bt_64)
                       replace Ot_20_rows := Lib.hid (own_below Ot_20_rows.out bt_64)
                       replace Ot_23a := Lib.hid (own_below Ot_23a.out bt_64)
                       replace Ot_30 := Lib.hid (own_below Ot_30.out bt_64)
                       replace Ot_33_rows := Lib.hid (own_below Ot_33_rows.out bt_64)
                       replace Ot_40a := Lib.hid (own_below Ot_40a.out bt_64)
                       replace Ot_58 := Lib.hid (own_below Ot_58.out bt_64)
                       clear bt_64
                       clear qt_64)
                    | (go_at_call 11
                       refine (Go.Proofs.Ythdmmoameoafmaa.GlEqBlock.C (t_33_rows) (t_64_rows) At_33_rows ct_33_rows At_64_rows ct_64_rows _   (Lib.hid (own_cells Ot_33_rows.out)) (Lib.hid (own_max Ot_33_rows.out)) (Lib.hid (own_cells Ot_64_rows.out)) (Lib.hid (own_max Ot_64_rows.out)) qt_65).mono ?_
                       rintro e_t_65 wt_65 ⟨rfl, bt_65⟩
                       have HBwt_65 := Lib.hid (Below.step HBwt_64.out bt_65)
                       replace kaB_0_0__29 := cell_below bt_65 kaB_0_0__29
                       replace kx1_34_0 := cell_below bt_65 kx1_34_0
                       replace Ot_18 := Lib.hid (own_below Ot_18.out bt_65)
                       replace Ot_20_rows := Lib.hid (own_below Ot_20_rows.out bt_65)
                       replace Ot_23a := Lib.hid (own_below Ot_23a.out bt_65)
                       replace Ot_30 := Lib.hid (own_below Ot_30.out bt_65)
                       replace Ot_33_rows := Lib.hid (own_below Ot_33_rows.out bt_65)
                       replace Ot_40a := Lib.hid (own_below Ot_40a.out bt_65)
                       replace Ot_58 := Lib.hid (own_below Ot_58.out bt_65)
                       replace Ot_64_rows := Lib.hid (own_below Ot_64_rows.out bt_65)
                       clear bt_65
                       clear qt_65))
              replace H := ite_t H
              obtain rfl := ret_hid H
              go_wp2_with fail
              go_ret
              exact ⟨rfl, HBwt_65.out⟩
            | true =>
              replace H := let_hid H
              obtain ⟨t_66, ht_66, H⟩ := H
              obtain rfl : t_66 = false := ht_66.symm
              go_region_held3 (fun w' => w'.cell? ⟨w.heap.size, 0, none⟩ = some (.slice A1_0 aB_rows.length c1_0) ∧ w'.cell? ⟨wt_33.heap.size, 0, none⟩ = some (.slice At_33_rows t_33_rows.length ct_33_rows)) (first | exact ⟨kaB_0_0__29, kx1_34_0⟩)
                  (first
                    | (go_at_call 8
                       refine (Go.Proofs.Ythdmmoameoafmaa.GlToBlock.C (aB_rows) A1_0 c1_0 _   (Lib.hid (Cells.below M1_0.out HBwt_59.drew.out)) N1_0 qt_64).mono ?_
                       rintro e_t_64 wt_64 ⟨At_64_rows, ct_64_rows, rfl, ot_64_rows, bt_64⟩
                       have Dt_64_rows_t_18 := Lib.hid (apart_call ot_64_rows Ot_18.out)
                       have Dt_64_rows_t_20_rows := Lib.hid (apart_call ot_64_rows Ot_20_rows.out)
                       have Dt_64_rows_t_23a := Lib.hid (apart_call ot_64_rows Ot_23a.out)
                       have Dt_64_rows_t_30 := Lib.hid (apart_call ot_64_rows Ot_30.out)
                       have Dt_64_rows_t_33_rows := Lib.hid (apart_call ot_64_rows Ot_33_rows.out)
                       have Dt_64_rows_t_40a := Lib.hid (apart_call ot_64_rows Ot_40a.out)
                       have Dt_64_rows_t_58 := Lib.hid (apart_call ot_64_rows Ot_58.out)
                       have Dt_64_rows_aB_0 := Lib.hid (apart_callbox ot_64_rows kaB_0_0__29)
                       have Dt_64_rows_x1_34 := Lib.hid (apart_callbox ot_64_rows kx1_34_0)
                       have Ot_64_rows := Lib.hid (own_lower ot_64_rows HBwt_59.drew.out.size)
                       clear ot_64_rows
                       have HBwt_64 := Lib.hid (Below.step HBwt_59.drew.out bt_64)
                       replace kaB_0_0__29 := cell_below bt_64 kaB_0_0__29
                       replace kx1_34_0 := cell_below bt_64 kx1_34_0
                       replace Ot_18 := Lib.hid (own_below Ot_18.out bt_64)
                       replace Ot_20_rows := Lib.hid (own_below Ot_20_rows.out bt_64)
                       replace Ot_23a := Lib.hid (own_below Ot_23a.out bt_64)
                       replace Ot_30 := Lib.hid (own_below Ot_30.out bt_64)
                       replace Ot_33_rows := Lib.hid (own_below Ot_33_rows.out bt_64)
                       replace Ot_40a := Lib.hid (own_below Ot_40a.out bt_64)
                       replace Ot_58 := Lib.hid (own_below Ot_58.out bt_64)
                       clear bt_64
                       clear qt_64)
                    | (go_at_call 11
                       refine (Go.Proofs.Ythdmmoameoafmaa.GlEqBlock.C (t_33_rows) (t_64_rows) At_33_rows ct_33_rows At_64_rows ct_64_rows _   (Lib.hid (own_cells Ot_33_rows.out)) (Lib.hid (own_max Ot_33_rows.out)) (Lib.hid (own_cells Ot_64_rows.out)) (Lib.hid (own_max Ot_64_rows.out)) qt_65).mono ?_
                       rintro e_t_65 wt_65 ⟨rfl, bt_65⟩
                       have HBwt_65 := Lib.hid (Below.step HBwt_64.out bt_65)
                       replace kaB_0_0__29 := cell_below bt_65 kaB_0_0__29
                       replace kx1_34_0 := cell_below bt_65 kx1_34_0
                       replace Ot_18 := Lib.hid (own_below Ot_18.out bt_65)
                       replace Ot_20_rows := Lib.hid (own_below Ot_20_rows.out bt_65)
                       replace Ot_23a := Lib.hid (own_below Ot_23a.out bt_65)
                       replace Ot_30 := Lib.hid (own_below Ot_30.out bt_65)
                       replace Ot_33_rows := Lib.hid (own_below Ot_33_rows.out bt_65)
                       replace Ot_40a := Lib.hid (own_below Ot_40a.out bt_65)
                       replace Ot_58 := Lib.hid (own_below Ot_58.out bt_65)
                       replace Ot_64_rows := Lib.hid (own_below Ot_64_rows.out bt_65)
                       clear bt_65
                       clear qt_65))
              replace H := ite_f H
              replace H := bind2_hid H
              obtain ⟨t_71, lt_71, qt_71, H⟩ := H
              go_wp2_with fail
              go_at_call 12
              refine (Go.Proofs.Ythdmmoameoafmaa.GlMarkStringS.C (t_30) (1) At_30 ct_30 w.heap.size _   Ot_30 (Lib.hid (own_max Ot_30.out))   qt_71).mono ?_
              rintro e_t_71 wt_71 ⟨rfl, ot_71, nt_71, gt_71⟩
              have Pt_71 := Lib.hid ot_71
              have Gt_71 := Lib.hid gt_71
              replace nt_71 := Lib.hid nt_71
              clear ot_71 gt_71
              have HBwt_71 := Lib.hid (HBwt_65.out.grown Gt_71.out HBwt_65.out.size (fun q hq => (Ot_30.out.lt q hq).1))
              replace kaB_0_0__29 := cell_other kaB_0_0__29 Gt_71.out Dt_30_aB_0.out
              replace kx1_34_0 := cell_other kx1_34_0 Gt_71.out (Apart.symm Dx1_34_t_30.out)
              replace Ot_18 := Lib.hid (own_other Ot_18.out Gt_71.out Dt_30_t_18.out)
              replace Ot_20_rows := Lib.hid (own_other Ot_20_rows.out Gt_71.out Dt_30_t_20_rows.out)
              replace Ot_23a := Lib.hid (own_other Ot_23a.out Gt_71.out Dt_30_t_23a.out)
              replace Ot_33_rows := Lib.hid (own_other Ot_33_rows.out Gt_71.out (Apart.symm Dt_33_rows_t_30.out))
              replace Ot_40a := Lib.hid (own_other Ot_40a.out Gt_71.out (Apart.symm Dt_40a_t_30.out))
              replace Ot_58 := Lib.hid (own_other Ot_58.out Gt_71.out (Apart.symm Dt_58_t_30.out))
              replace Ot_64_rows := Lib.hid (own_other Ot_64_rows.out Gt_71.out (Apart.symm Dt_64_rows_t_30.out))
              clear Ot_30 Gt_71
              replace H := bind2_hid H
              obtain ⟨t_75, lt_75, qt_75, H⟩ := H
              go_wp2_with fail
              go_at_call 13
              refine (Go.Proofs.Ythdmmoameoafmaa.GlMarkBlock.C (t_33_rows) (t_71) At_33_rows ct_33_rows w.heap.size _   Ot_33_rows (Lib.hid (own_max Ot_33_rows.out))   qt_75).mono ?_
              rintro e_t_75 wt_75 ⟨rfl, ot_75, nt_75, gt_75⟩
              have Pt_75 := Lib.hid ot_75
              have Gt_75 := Lib.hid gt_75
              replace nt_75 := Lib.hid nt_75
              clear ot_75 gt_75
              have HBwt_75 := Lib.hid (HBwt_71.out.grown Gt_75.out HBwt_71.out.size (fun q hq => (Ot_33_rows.out.lt q hq).1))
              replace kaB_0_0__29 := cell_other kaB_0_0__29 Gt_75.out Dt_33_rows_aB_0.out
              replace kx1_34_0 := cell_other kx1_34_0 Gt_75.out (Apart.symm Dx1_34_t_33_rows.out)
              replace Ot_18 := Lib.hid (own_other Ot_18.out Gt_75.out Dt_33_rows_t_18.out)
              replace Ot_20_rows := Lib.hid (own_other Ot_20_rows.out Gt_75.out Dt_33_rows_t_20_rows.out)
              replace Ot_23a := Lib.hid (own_other Ot_23a.out Gt_75.out Dt_33_rows_t_23a.out)
              replace Pt_71 := Lib.hid (own_other Pt_71.out Gt_75.out Dt_33_rows_t_30.out)
              replace Ot_40a := Lib.hid (own_other Ot_40a.out Gt_75.out (Apart.symm Dt_40a_t_33_rows.out))
              replace Ot_58 := Lib.hid (own_other Ot_58.out Gt_75.out (Apart.symm Dt_58_t_33_rows.out))
              replace Ot_64_rows := Lib.hid (own_other Ot_64_rows.out Gt_75.out (Apart.symm Dt_64_rows_t_33_rows.out))
              clear Ot_33_rows Gt_75
              replace H := let_hid H
              obtain ⟨t_78, ht_78, H⟩ := H
              replace H := join_hid H
              cases t_78 with
              | false =>
                replace H := ite_f H
                replace H := bind_hid H
                obtain ⟨t_82, qt_82, H⟩ := H
                go_wp2_with fail
                go_at_call 10
                refine (Go.Proofs.Ythdmmoameoafmaa.GlEqStringS.C (t_40a) (t_23a) At_40a ct_40a At_23a ct_23a _   (Lib.hid (own_cells Ot_40a.out)) (Lib.hid (own_max Ot_40a.out)) (Lib.hid (own_cells Ot_23a.out)) (Lib.hid (own_max Ot_23a.out)) qt_82).mono ?_
                rintro e_t_82 wt_82 ⟨rfl, bt_82⟩
                have HBwt_82 := Lib.hid (Below.step HBwt_75.out bt_82)
                replace kaB_0_0__29 := cell_below bt_82 kaB_0_0__29
                replace kx1_34_0 := cell_below bt_82 kx1_34_0
                replace Ot_18 := Lib.hid (own_below Ot_18.out bt_82)
                replace Ot_20_rows := Lib.hid (own_below Ot_20_rows.out bt_82)
                replace Ot_23a := Lib.hid (own_below Ot_23a.out bt_82)
                replace Pt_71 := Lib.hid (own_below Pt_71.out bt_82)
                replace Pt_75 := Lib.hid (own_below Pt_75.out bt_82)
                replace Ot_40a := Lib.hid (own_below Ot_40a.out bt_82)
                replace Ot_58 := Lib.hid (own_below Ot_58.out bt_82)
                replace Ot_64_rows := Lib.hid (own_below Ot_64_rows.out bt_82)
                clear bt_82
                cases t_82 with
                | false =>
                  replace H := let_hid H
                  obtain ⟨t_83, ht_83, H⟩ := H
                  obtain rfl : t_83 = true := ht_83.symm
                  replace H := app_hid H
                  replace H := join_hid H
                  replace H := ite_t H
                  replace H := app_hid H
                  replace H := ite_t H
                  obtain rfl := ret_hid H
                  go_wp2_with fail
                  go_ret
                  exact ⟨rfl, HBwt_82.out⟩
                | true =>
                  replace H := let_hid H
                  obtain ⟨t_83, ht_83, H⟩ := H
                  obtain rfl : t_83 = false := ht_83.symm
                  replace H := app_hid H
                  replace H := join_hid H
                  replace H := ite_f H
                  replace H := let_hid H
                  obtain ⟨t_88, ht_88, H⟩ := H
                  obtain rfl := ht_53.symm.trans ht_88
                  replace H := app_hid H
                  replace H := ite_f H
                  replace H := bind2_hid H
                  obtain ⟨t_94, lt_94, qt_94, H⟩ := H
                  go_wp2_with fail
                  go_at_call 12
                  refine (Go.Proofs.Ythdmmoameoafmaa.GlMarkStringS.C (t_40a) (1) At_40a ct_40a w.heap.size _   Ot_40a (Lib.hid (own_max Ot_40a.out))   qt_94).mono ?_
                  rintro e_t_94 wt_94 ⟨rfl, ot_94, nt_94, gt_94⟩
                  have Pt_94 := Lib.hid ot_94
                  have Gt_94 := Lib.hid gt_94
                  replace nt_94 := Lib.hid nt_94
                  clear ot_94 gt_94
                  have HBwt_94 := Lib.hid (HBwt_82.out.grown Gt_94.out HBwt_82.out.size (fun q hq => (Ot_40a.out.lt q hq).1))
                  replace kaB_0_0__29 := cell_other kaB_0_0__29 Gt_94.out Dt_40a_aB_0.out
                  replace kx1_34_0 := cell_other kx1_34_0 Gt_94.out Dt_40a_x1_34.out
                  replace Ot_18 := Lib.hid (own_other Ot_18.out Gt_94.out Dt_40a_t_18.out)
                  replace Ot_20_rows := Lib.hid (own_other Ot_20_rows.out Gt_94.out Dt_40a_t_20_rows.out)
                  replace Ot_23a := Lib.hid (own_other Ot_23a.out Gt_94.out Dt_40a_t_23a.out)
                  replace Pt_71 := Lib.hid (own_other Pt_71.out Gt_94.out Dt_40a_t_30.out)
                  replace Pt_75 := Lib.hid (own_other Pt_75.out Gt_94.out Dt_40a_t_33_rows.out)
                  replace Ot_58 := Lib.hid (own_other Ot_58.out Gt_94.out (Apart.symm Dt_58_t_40a.out))
                  replace Ot_64_rows := Lib.hid (own_other Ot_64_rows.out Gt_94.out (Apart.symm Dt_64_rows_t_40a.out))
                  clear Ot_40a Gt_94
                  replace H := bind_hid H
                  obtain ⟨t_99, qt_99, H⟩ := H
                  go_wp2_with fail
                  have hc_ := nt_94.out
                  have hv_ : (Value.slice At_40a t_40a.length ct_40a : Value) = Value.slice At_40a lt_94.length ct_40a := by rw [hc_]
                  try rw [hv_]
                  replace Pt_94 := Lib.hid (own_len hc_ Pt_94.out)
                  clear hc_ hv_
                  go_wp2_with fail
                  go_at_call 14
                  refine (Go.Proofs.Ythdmmoameoafmaa.GlHeldStringS.C (lt_94) (1) At_40a ct_40a _   (Lib.hid (own_cells Pt_94.out)) (Lib.hid (own_max Pt_94.out)) qt_99).mono ?_
                  rintro e_t_99 wt_99 ⟨rfl, bt_99⟩
                  have HBwt_99 := Lib.hid (Below.step HBwt_94.out bt_99)
                  replace kaB_0_0__29 := cell_below bt_99 kaB_0_0__29
                  replace kx1_34_0 := cell_below bt_99 kx1_34_0
                  replace Ot_18 := Lib.hid (own_below Ot_18.out bt_99)
                  replace Ot_20_rows := Lib.hid (own_below Ot_20_rows.out bt_99)
                  replace Ot_23a := Lib.hid (own_below Ot_23a.out bt_99)
                  replace Pt_71 := Lib.hid (own_below Pt_71.out bt_99)
                  replace Pt_75 := Lib.hid (own_below Pt_75.out bt_99)
                  replace Pt_94 := Lib.hid (own_below Pt_94.out bt_99)
                  replace Ot_58 := Lib.hid (own_below Ot_58.out bt_99)
                  replace Ot_64_rows := Lib.hid (own_below Ot_64_rows.out bt_99)
                  clear bt_99
                  replace H := let_hid H
                  obtain ⟨t_102, ht_102, H⟩ := H
                  cases t_102 with
                  | false =>
                    replace H := ite_f H
                    replace H := let_hid H
                    obtain ⟨t_106, ht_106, H⟩ := H
                    cases t_106 with
                    | false =>
                      replace H := ite_f H
                      go_wp2_with fail
                      have hc_ := nt_71.out
                      have hv_ : (Value.slice At_30 t_30.length ct_30 : Value) = Value.slice At_30 lt_71.length ct_30 := by rw [hc_]
                      try rw [hv_]
                      replace Pt_71 := Lib.hid (own_len hc_ Pt_71.out)
                      clear hc_ hv_
                      go_wp2_with fail
                      have hc_ := nt_75.out
                      have hv_ : (Value.slice At_33_rows t_33_rows.length ct_33_rows : Value) = Value.slice At_33_rows lt_75.length ct_33_rows := by rw [hc_]
                      try rw [hv_]
                      replace Pt_75 := Lib.hid (own_len hc_ Pt_75.out)
                      rw [hv_] at kx1_34_0
                      clear hc_ hv_
                      go_wp2_with fail
                      have bd31 : Below wt_99.heap.size wt_99 wt_99.drew := (Below.refl _ _).drew
                      have HBwt_99.drew := Lib.hid (Below.step HBwt_99.out bd31)
                      replace kaB_0_0__29 := cell_below bd31 kaB_0_0__29
                      replace kx1_34_0 := cell_below bd31 kx1_34_0
                      replace Ot_18 := Lib.hid (own_below Ot_18.out bd31)
                      replace Ot_20_rows := Lib.hid (own_below Ot_20_rows.out bd31)
                      replace Ot_23a := Lib.hid (own_below Ot_23a.out bd31)
                      replace Pt_71 := Lib.hid (own_below Pt_71.out bd31)
                      replace Pt_75 := Lib.hid (own_below Pt_75.out bd31)
                      replace Pt_94 := Lib.hid (own_below Pt_94.out bd31)
                      replace Ot_58 := Lib.hid (own_below Ot_58.out bd31)
                      replace Ot_64_rows := Lib.hid (own_below Ot_64_rows.out bd31)
                      clear bd31
                      replace H := bind_hid H
                      obtain ⟨t_109, qt_109, H⟩ := H
                      replace H := bind_hid H
                      obtain ⟨t_111, qt_111, H⟩ := H
                      obtain ⟨t_111_rows⟩ := t_111
                      replace H := unBlock_hid H
                      replace H := bind2_hid H
                      obtain ⟨t_114a, t_114b, qt_114, H⟩ := H
                      go_region_held3 (fun w' => w'.cell? ⟨w.heap.size, 0, none⟩ = some (.slice A1_0 aB_rows.length c1_0) ∧ w'.cell? ⟨wt_33.heap.size, 0, none⟩ = some (.slice At_33_rows lt_75.length ct_33_rows)) (first | exact ⟨kaB_0_0__29, kx1_34_0⟩)
                          (first
                            | (go_at_call 7
                               refine (Go.Proofs.Ythdmmoameoafmaa.GlToStringS.C (aSheet) A0 c0 _   (Lib.hid (Cells.below M0.out HBwt_99.drew.out)) N0 qt_109).mono ?_
                               rintro e_t_109 wt_109 ⟨At_109, ct_109, rfl, ot_109, bt_109⟩
                               have Dt_109_t_18 := Lib.hid (apart_call ot_109 Ot_18.out)
                               have Dt_109_t_20_rows := Lib.hid (apart_call ot_109 Ot_20_rows.out)
                               have Dt_109_t_23a := Lib.hid (apart_call ot_109 Ot_23a.out)
                               have Dt_109_t_30 := Lib.hid (apart_call ot_109 Pt_71.out)
                               have Dt_109_t_33_rows := Lib.hid (apart_call ot_109 Pt_75.out)
                               have Dt_109_t_40a := Lib.hid (apart_call ot_109 Pt_94.out)
                               have Dt_109_t_58 := Lib.hid (apart_call ot_109 Ot_58.out)
                               have Dt_109_t_64_rows := Lib.hid (apart_call ot_109 Ot_64_rows.out)
                               have Dt_109_aB_0 := Lib.hid (apart_callbox ot_109 kaB_0_0__29)
                               have Dt_109_x1_34 := Lib.hid (apart_callbox ot_109 kx1_34_0)
                               have Ot_109 := Lib.hid (own_lower ot_109 HBwt_99.drew.out.size)
                               clear ot_109
                               have HBwt_109 := Lib.hid (Below.step HBwt_99.drew.out bt_109)
                               replace kaB_0_0__29 := cell_below bt_109 kaB_0_0__29
                               replace kx1_34_0 := cell_below bt_109 kx1_34_0
                               replace Ot_18 := Lib.hid (own_below Ot_18.out bt_109)
                               replace Ot_20_rows := Lib.hid (own_below Ot_20_rows.out bt_109)
                               replace Ot_23a := Lib.hid (own_below Ot_23a.out bt_109)
                               replace Pt_71 := Lib.hid (own_below Pt_71.out bt_109)
                               replace Pt_75 := Lib.hid (own_below Pt_75.out bt_109)
                               replace Pt_94 := Lib.hid (own_below Pt_94.out bt_109)
                               replace Ot_58 := Lib.hid (own_below Ot_58.out bt_109)
                               replace Ot_64_rows := Lib.hid (own_below Ot_64_rows.out bt_109)
                               clear bt_109
                               clear qt_109)
                            | (go_at_call 8
                               refine (Go.Proofs.Ythdmmoameoafmaa.GlToBlock.C (aB_rows) A1_0 c1_0 _   (Lib.hid (Cells.below M1_0.out HBwt_109.out)) N1_0 qt_111).mono ?_
                               rintro e_t_111 wt_111 ⟨At_111_rows, ct_111_rows, rfl, ot_111_rows, bt_111⟩
                               have Dt_111_rows_t_18 := Lib.hid (apart_call ot_111_rows Ot_18.out)
                               have Dt_111_rows_t_20_rows := Lib.hid (apart_call ot_111_rows Ot_20_rows.out)
                               have Dt_111_rows_t_23a := Lib.hid (apart_call ot_111_rows Ot_23a.out)
                               have Dt_111_rows_t_30 := Lib.hid (apart_call ot_111_rows Pt_71.out)
                               have Dt_111_rows_t_33_rows := Lib.hid (apart_call ot_111_rows Pt_75.out)
                               have Dt_111_rows_t_40a := Lib.hid (apart_call ot_111_rows Pt_94.out)
                               have Dt_111_rows_t_58 := Lib.hid (apart_call ot_111_rows Ot_58.out)
                               have Dt_111_rows_t_64_rows := Lib.hid (apart_call ot_111_rows Ot_64_rows.out)
                               have Dt_111_rows_t_109 := Lib.hid (apart_call ot_111_rows Ot_109.out)
                               have Dt_111_rows_aB_0 := Lib.hid (apart_callbox ot_111_rows kaB_0_0__29)
                               have Dt_111_rows_x1_34 := Lib.hid (apart_callbox ot_111_rows kx1_34_0)
                               have Ot_111_rows := Lib.hid (own_lower ot_111_rows HBwt_109.out.size)
                               clear ot_111_rows
                               have HBwt_111 := Lib.hid (Below.step HBwt_109.out bt_111)
                               replace kaB_0_0__29 := cell_below bt_111 kaB_0_0__29
                               replace kx1_34_0 := cell_below bt_111 kx1_34_0
                               replace Ot_18 := Lib.hid (own_below Ot_18.out bt_111)
                               replace Ot_20_rows := Lib.hid (own_below Ot_20_rows.out bt_111)
                               replace Ot_23a := Lib.hid (own_below Ot_23a.out bt_111)
                               replace Pt_71 := Lib.hid (own_below Pt_71.out bt_111)
                               replace Pt_75 := Lib.hid (own_below Pt_75.out bt_111)
                               replace Pt_94 := Lib.hid (own_below Pt_94.out bt_111)
                               replace Ot_58 := Lib.hid (own_below Ot_58.out bt_111)
                               replace Ot_64_rows := Lib.hid (own_below Ot_64_rows.out bt_111)
                               replace Ot_109 := Lib.hid (own_below Ot_109.out bt_111)
                               clear bt_111
                               clear qt_111)
                            | (go_at_call 9
                               refine (Go.Proofs.Ythdmmoameoafmaa.GiLayBlock.C (t_109) (t_111_rows) (aRow) (aCol) At_109 ct_109 At_111_rows ct_111_rows _   (Lib.hid (own_cells Ot_109.out)) (Lib.hid (own_max Ot_109.out)) (Lib.hid (own_room Ot_109.out)) (Lib.hid (own_cells Ot_111_rows.out)) (Lib.hid (own_max Ot_111_rows.out)) (Lib.hid (own_room Ot_111_rows.out)) qt_114).mono ?_
                               rintro e_t_114 wt_114 ⟨At_114a, ct_114a, rfl, ot_114a, bt_114⟩
                               have Dt_114a_t_18 := Lib.hid (apart_call ot_114a Ot_18.out)
                               have Dt_114a_t_20_rows := Lib.hid (apart_call ot_114a Ot_20_rows.out)
                               have Dt_114a_t_23a := Lib.hid (apart_call ot_114a Ot_23a.out)
                               have Dt_114a_t_30 := Lib.hid (apart_call ot_114a Pt_71.out)
                               have Dt_114a_t_33_rows := Lib.hid (apart_call ot_114a Pt_75.out)
                               have Dt_114a_t_40a := Lib.hid (apart_call ot_114a Pt_94.out)
                               have Dt_114a_t_58 := Lib.hid (apart_call ot_114a Ot_58.out)
                               have Dt_114a_t_64_rows := Lib.hid (apart_call ot_114a Ot_64_rows.out)
                               have Dt_114a_t_109 := Lib.hid (apart_call ot_114a Ot_109.out)
                               have Dt_114a_t_111_rows := Lib.hid (apart_call ot_114a Ot_111_rows.out)
                               have Dt_114a_aB_0 := Lib.hid (apart_callbox ot_114a kaB_0_0__29)
                               have Dt_114a_x1_34 := Lib.hid (apart_callbox ot_114a kx1_34_0)
                               have Ot_114a := Lib.hid (own_lower ot_114a HBwt_111.out.size)
                               clear ot_114a
                               have HBwt_114 := Lib.hid (Below.step HBwt_111.out bt_114)
                               replace kaB_0_0__29 := cell_below bt_114 kaB_0_0__29
                               replace kx1_34_0 := cell_below bt_114 kx1_34_0
                               replace Ot_18 := Lib.hid (own_below Ot_18.out bt_114)
                               replace Ot_20_rows := Lib.hid (own_below Ot_20_rows.out bt_114)
                               replace Ot_23a := Lib.hid (own_below Ot_23a.out bt_114)
                               replace Pt_71 := Lib.hid (own_below Pt_71.out bt_114)
                               replace Pt_75 := Lib.hid (own_below Pt_75.out bt_114)
                               replace Pt_94 := Lib.hid (own_below Pt_94.out bt_114)
                               replace Ot_58 := Lib.hid (own_below Ot_58.out bt_114)
                               replace Ot_64_rows := Lib.hid (own_below Ot_64_rows.out bt_114)
                               replace Ot_109 := Lib.hid (own_below Ot_109.out bt_114)
                               replace Ot_111_rows := Lib.hid (own_below Ot_111_rows.out bt_114)
                               clear bt_114
                               clear qt_114))
                      replace H := bind_hid H
                      obtain ⟨t_122, qt_122, H⟩ := H
                      go_wp2_with fail
                      go_at_call 10
                      refine (Go.Proofs.Ythdmmoameoafmaa.GlEqStringS.C (t_114a) (t_23a) At_114a ct_114a At_23a ct_23a _   (Lib.hid (own_cells Ot_114a.out)) (Lib.hid (own_max Ot_114a.out)) (Lib.hid (own_cells Ot_23a.out)) (Lib.hid (own_max Ot_23a.out)) qt_122).mono ?_
                      rintro e_t_122 wt_122 ⟨rfl, bt_122⟩
                      have HBwt_122 := Lib.hid (Below.step HBwt_114.out bt_122)
                      replace kaB_0_0__29 := cell_below bt_122 kaB_0_0__29
                      replace kx1_34_0 := cell_below bt_122 kx1_34_0
                      replace Ot_18 := Lib.hid (own_below Ot_18.out bt_122)
                      replace Ot_20_rows := Lib.hid (own_below Ot_20_rows.out bt_122)
                      replace Ot_23a := Lib.hid (own_below Ot_23a.out bt_122)
                      replace Pt_71 := Lib.hid (own_below Pt_71.out bt_122)
                      replace Pt_75 := Lib.hid (own_below Pt_75.out bt_122)
                      replace Pt_94 := Lib.hid (own_below Pt_94.out bt_122)
                      replace Ot_58 := Lib.hid (own_below Ot_58.out bt_122)
                      replace Ot_64_rows := Lib.hid (own_below Ot_64_rows.out bt_122)
                      replace Ot_109 := Lib.hid (own_below Ot_109.out bt_122)
                      replace Ot_111_rows := Lib.hid (own_below Ot_111_rows.out bt_122)
                      replace Ot_114a := Lib.hid (own_below Ot_114a.out bt_122)
                      clear bt_122
                      cases t_122 with
                      | false =>
                        replace H := let_hid H
                        obtain ⟨t_123, ht_123, H⟩ := H
                        obtain rfl : t_123 = true := ht_123.symm
                        replace H := join_hid H
                        replace H := ite_t H
                        replace H := app_hid H
                        replace H := ite_t H
                        obtain rfl := ret_hid H
                        go_wp2_with fail
                        go_ret
                        exact ⟨rfl, HBwt_122.out⟩
                      | true =>
                        replace H := let_hid H
                        obtain ⟨t_123, ht_123, H⟩ := H
                        obtain rfl : t_123 = false := ht_123.symm
                        replace H := join_hid H
                        replace H := ite_f H
                        replace H := let_hid H
                        obtain ⟨t_127, ht_127, H⟩ := H
                        replace H := app_hid H
                        cases t_127 with
                        | false =>
                          replace H := ite_f H
                          replace H := bind_hid H
                          obtain ⟨t_133, qt_133, H⟩ := H
                          go_wp2_with fail
                          go_at_call 14
                          refine (Go.Proofs.Ythdmmoameoafmaa.GlHeldStringS.C (lt_94) (1) At_40a ct_40a _   (Lib.hid (own_cells Pt_94.out)) (Lib.hid (own_max Pt_94.out)) qt_133).mono ?_
                          rintro e_t_133 wt_133 ⟨rfl, bt_133⟩
                          have HBwt_133 := Lib.hid (Below.step HBwt_122.out bt_133)
                          replace kaB_0_0__29 := cell_below bt_133 kaB_0_0__29
                          replace kx1_34_0 := cell_below bt_133 kx1_34_0
                          replace Ot_18 := Lib.hid (own_below Ot_18.out bt_133)
                          replace Ot_20_rows := Lib.hid (own_below Ot_20_rows.out bt_133)
                          replace Ot_23a := Lib.hid (own_below Ot_23a.out bt_133)
                          replace Pt_71 := Lib.hid (own_below Pt_71.out bt_133)
                          replace Pt_75 := Lib.hid (own_below Pt_75.out bt_133)
                          replace Pt_94 := Lib.hid (own_below Pt_94.out bt_133)
                          replace Ot_58 := Lib.hid (own_below Ot_58.out bt_133)
                          replace Ot_64_rows := Lib.hid (own_below Ot_64_rows.out bt_133)
                          replace Ot_109 := Lib.hid (own_below Ot_109.out bt_133)
                          replace Ot_111_rows := Lib.hid (own_below Ot_111_rows.out bt_133)
                          replace Ot_114a := Lib.hid (own_below Ot_114a.out bt_133)
                          clear bt_133
                          replace H := let_hid H
                          obtain ⟨t_136, ht_136, H⟩ := H
                          cases t_136 with
                          | false =>
                            replace H := ite_f H
                            replace H := let_hid H
                            obtain ⟨t_140, ht_140, H⟩ := H
                            cases t_140 with
                            | false =>
                              replace H := ite_f H
                              obtain rfl := ret_hid H
                              go_wp2_with fail
                              go_ret
                              exact ⟨rfl, HBwt_133.out⟩
                            | true =>
                              replace H := ite_t H
                              obtain rfl := ret_hid H
                              go_wp2_with fail
                              go_ret
                              exact ⟨rfl, HBwt_133.out⟩
                          | true =>
                            replace H := ite_t H
                            obtain rfl := ret_hid H
                            go_wp2_with fail
                            go_ret
                            exact ⟨rfl, HBwt_133.out⟩
                        | true =>
                          replace H := ite_t H
                          obtain rfl := ret_hid H
                          go_wp2_with fail
                          go_ret
                          exact ⟨rfl, HBwt_122.out⟩
                    | true =>
                      replace H := ite_t H
                      obtain rfl := ret_hid H
                      go_wp2_with fail
                      go_ret
                      exact ⟨rfl, HBwt_99.out⟩
                  | true =>
                    replace H := ite_t H
                    obtain rfl := ret_hid H
                    go_wp2_with fail
                    go_ret
                    exact ⟨rfl, HBwt_99.out⟩
              | true =>
                replace H := ite_t H
                replace H := app_hid H
                replace H := join_hid H
                replace H := ite_t H
                replace H := app_hid H
                replace H := ite_t H
                obtain rfl := ret_hid H
                go_wp2_with fail
                go_ret
                exact ⟨rfl, HBwt_75.out⟩
        | true =>
          replace H := ite_t H
          obtain rfl := ret_hid H
          go_wp2_with fail
          go_ret
          exact ⟨rfl, HBwt_48.out⟩
    | true =>
      replace H := ite_t H
      obtain rfl := ret_hid H
      go_wp2_with fail
      go_ret
      exact ⟨rfl, HBwt_12.out⟩
  | true =>
    replace H := ite_t H
    obtain rfl := ret_hid H
    go_wp2_with fail
    go_ret
    exact ⟨rfl, HBwt_5.out⟩
end Go.Proofs.Ythdmmoameoafmaa.GlFnExactLayBlock

/- Plain words on stamps: what a stamp is, when one is valid, when a list of them is; the cells of a list of records. No condition. -/
namespace Go.Proofs.Ythdmmoameoafmaa.PlainStamp
set_option linter.unusedVariables false

/-- a number lies in a..b -/
def inB (x a b : Int) : Bool := decide (a ≤ x ∧ x ≤ b)
theorem inB_yes {x a b : Int} (h1 : a ≤ x) (h2 : x ≤ b) : inB x a b = true := by unfold inB; exact decide_eq_true ⟨h1, h2⟩
theorem inB_no {x a b : Int} (h : x < a ∨ b < x) : inB x a b = false := by unfold inB; exact decide_eq_false (by omega)

structure St where
  id : Int
  face : Int
  color : Int
  year : Int
deriving DecidableEq

def St.cells (s : St) : List Value := [.int .i64 s.id, .int .i64 s.face, .int .i64 s.color, .int .i64 s.year]
def St.val (s : St) : Value := .agg #[.int .i64 s.id, .int .i64 s.face, .int .i64 s.color, .int .i64 s.year]
/-- each field fits an int -/
def St.fits (s : St) : Prop := (Lit.int .i64 s.id).wf = true ∧ (Lit.int .i64 s.face).wf = true ∧ (Lit.int .i64 s.color).wf = true ∧ (Lit.int .i64 s.year).wf = true

def okSt (s : St) : Bool := inB s.id 1 999 && inB s.face 0 9999 && inB s.color 0 99 && inB s.year 1840 2100
/-- the stamp at k is valid, and its id is above the one ahead of it -/
def okAt (l : List St) (k : Nat) : Bool :=
  match l[k]? with
  | none => true
  | some s => okSt s && (decide (k = 0) || (match l[k-1]? with | none => true | some r => decide (r.id < s.id)))
def okUp (l : List St) (k : Nat) : Bool := (List.range k).all (okAt l)
/-- a list of at most twelve valid stamps with rising ids -/
def okSts (l : List St) : Bool := decide (l.length ≤ 12) && okUp l l.length
/-- the cells of a list of stamps, one after the other -/
def flat (l : List St) : List Value := l.flatMap St.cells
end Go.Proofs.Ythdmmoameoafmaa.PlainStamp

/- Words for reckoning with plain functions; within and l1In. No condition. -/
namespace Go.Proofs.Ythdmmoameoafmaa.QBase
set_option linter.unusedVariables false
set_option linter.unusedSimpArgs false
open Go.RowKit
open Go.Proofs.Ythdmmoameoafmaa.GoP Go.Proofs.Ythdmmoameoafmaa.PlainStamp

theorem iteK_if {ρ : Type} (c : Bool) (a b : Option ρ) : iteK c a b = if c = true then a else b := by cases c <;> rfl
theorem bind2_some {α β ρ : Type} (a : α) (b : β) (f : α → β → Option ρ) : bind2 (some (a, b)) f = f a b := rfl
theorem guardK_pos {ρ : Type} {p : Prop} [Decidable p] {a : Option ρ} (h : p) : guardK p a = a := if_pos h
theorem within_eq (n a b : Int) : GiWithin.P n a b = some (inB n a b) := by
  simp only [GiWithin.P, letK, joinK, appK, iteK_if, inB]
  by_cases h1 : a ≤ n <;> by_cases h2 : n ≤ b <;> simp [h1, h2]
theorem l1In_eq (n a b : Int) : GsL1In.P n a b = some (inB n a b) := by
  simp only [GsL1In.P, letK, joinK, appK, iteK_if, inB]
  by_cases h1 : a ≤ n <;> by_cases h2 : n ≤ b <;> simp [h1, h2]
end Go.Proofs.Ythdmmoameoafmaa.QBase

/- Reckoning with the loops of plain functions; lists of valid records with rising ids. No condition. -/
namespace Go.Proofs.Ythdmmoameoafmaa.QLoop
set_option linter.unusedVariables false
open Go.RowKit
open Go.Proofs.Ythdmmoameoafmaa.GoP Go.Proofs.Ythdmmoameoafmaa.QBase

theorem cnt_ex {σ ρ : Type} {f : Nat → σ → (σ → Option ρ) → (σ → Option ρ) → Option ρ} {fin : σ → Option ρ} {Q : ρ → Prop} {n : Nat} (I : Nat → σ → Prop)
    (step : ∀ k s nx, k < n → I k s → (∀ s', I (k + 1) s' → ∃ r, nx s' = some r ∧ Q r) → ∃ r, f k s nx fin = some r ∧ Q r) (done : ∀ s, I n s → ∃ r, fin s = some r ∧ Q r) :
    ∀ m k s, k + m = n → I k s → ∃ r, cntK f m k s fin = some r ∧ Q r := by
  intro m
  induction m with
  | zero => intro k s hk hI; obtain rfl : k = n := by omega
            exact done s hI
  | succ m ih => intro k s hk hI; exact step k s _ (by omega) hI (fun s' h' => ih (k + 1) s' (by omega) h')
theorem cnt_is {σ ρ : Type} {f : Nat → σ → (σ → Option ρ) → (σ → Option ρ) → Option ρ} {fin : σ → Option ρ} {n : Nat} (r : ρ) (I : Nat → σ → Prop)
    (step : ∀ k s nx, k < n → I k s → (∀ s', I (k + 1) s' → nx s' = some r) → f k s nx fin = some r) (done : ∀ s, I n s → fin s = some r) (s : σ) (h0 : I 0 s) : cntK f n 0 s fin = some r := by
  obtain ⟨r', h, rfl⟩ := cnt_ex (Q := fun x => x = r) I (fun k s nx hk hI hn => ⟨r, step k s nx hk hI (fun s' h' => by obtain ⟨_, h, rfl⟩ := hn s' h'; exact h), rfl⟩) (fun s h => ⟨r, done s h, rfl⟩) n 0 s (by omega) h0
  exact h
theorem at_lt {α : Type} {l : List α} {k : Nat} (h : k < l.length) : ∃ x, l[k]? = some x ∧ idx l (k : Int) = some x := ⟨l[k], List.getElem?_eq_getElem h, by rw [idx_nat, List.getElem?_eq_getElem h]⟩
theorem take_next {α : Type} {l : List α} {k : Nat} {x : α} (h : l[k]? = some x) : l.take (k + 1) = l.take k ++ [x] := by
  obtain ⟨hk, e⟩ := List.getElem?_eq_some_iff.1 h
  rw [List.take_succ_eq_append_getElem hk, e]
theorem wrap_in {x : Int} (h1 : -9223372036854775808 ≤ x) (h2 : x ≤ 9223372036854775807) : IntKind.i64.wrap x = x := IntWalk.i64_in _ (by omega)

/-- valid, and above the one ahead of it -/
def upAt {α : Type} (ok : α → Bool) (id : α → Int) (l : List α) (k : Nat) : Bool :=
  match l[k]? with
  | none => true
  | some s => ok s && (decide (k = 0) || (match l[k-1]? with | none => true | some r => decide (id r < id s)))
def upTo {α : Type} (ok : α → Bool) (id : α → Int) (l : List α) (k : Nat) : Bool := (List.range k).all (upAt ok id l)
/-- a list of at most m valid records with rising ids -/
def upL {α : Type} (m : Nat) (ok : α → Bool) (id : α → Int) (l : List α) : Bool := decide (l.length ≤ m) && upTo ok id l l.length
end Go.Proofs.Ythdmmoameoafmaa.QLoop

/- Loops that test each place, and loops without a count. No condition. -/
namespace Go.Proofs.Ythdmmoameoafmaa.QAll
set_option linter.unusedVariables false
set_option linter.unusedSimpArgs false
open Go.RowKit
open Go.Proofs.Ythdmmoameoafmaa.GoP Go.Proofs.Ythdmmoameoafmaa.QBase Go.Proofs.Ythdmmoameoafmaa.QLoop

/-- each number below n is good -/
def allN (n : Nat) (p : Nat → Bool) : Bool := (List.range n).all p
theorem allN_iff {n : Nat} {p : Nat → Bool} : allN n p = true ↔ ∀ i, i < n → p i = true := by unfold allN; simp
theorem allN_no {n k : Nat} {p : Nat → Bool} (hk : k < n) (h : p k = false) : allN n p = false := by
  rw [Bool.eq_false_iff]; intro ha; rw [allN_iff.1 ha k hk] at h; exact absurd h (by simp)
theorem allN_eq {n m : Nat} {p q : Nat → Bool} (h : (∀ i, i < n → p i = true) ↔ (∀ i, i < m → q i = true)) : allN n p = allN m q := by
  rw [Bool.eq_iff_iff, allN_iff, allN_iff]; exact h
theorem all_cnt {ρ : Type} {n : Nat} {p : Nat → Bool} {no : ρ} {f : Nat → Unit → (Unit → Option ρ) → (Unit → Option ρ) → Option ρ} {fin : Unit → Option ρ}
    (step : ∀ k nx, k < n → (p k = false → f k () nx fin = some no) ∧ (p k = true → f k () nx fin = nx ())) : cntK f n 0 () fin = if allN n p = true then fin () else some no := by
  have key : ∀ m k, k + m = n → (∀ i, i < k → p i = true) → cntK f m k () fin = if allN n p = true then fin () else some no := by
    intro m
    induction m with
    | zero => intro k hk hu; obtain rfl : k = n := by omega
              rw [allN_iff.2 hu]; rfl
    | succ m ih =>
      intro k hk hu
      obtain ⟨h1, h2⟩ := step k (fun s' => cntK f m (k + 1) s' fin) (by omega)
      show f k () _ fin = _
      cases hp : p k with
      | false => rw [h1 hp, allN_no (by omega) hp]; rfl
      | true =>
        rw [h2 hp]
        refine ih (k + 1) (by omega) (fun i hi => ?_)
        by_cases he : i = k
        · rw [he]; exact hp
        · exact hu i (by omega)
  exact key n 0 (by omega) (fun i hi => by omega)
theorem lp_ex {σ ρ : Type} {f : σ → (σ → Option ρ) → (σ → Option ρ) → Option ρ} {fin : σ → Option ρ} {Q : ρ → Prop} {n : Nat} (I : Nat → σ → Prop)
    (step : ∀ k s nx, k < n → I k s → (∀ s', I (k + 1) s' → ∃ r, nx s' = some r ∧ Q r) → ∃ r, f s nx fin = some r ∧ Q r) (done : ∀ s nx, I n s → ∃ r, f s nx fin = some r ∧ Q r) :
    ∀ fuel k s, k ≤ n → n - k < fuel → I k s → ∃ r, loopK f fuel s fin = some r ∧ Q r := by
  intro fuel
  induction fuel with
  | zero => intro k s hk hf; omega
  | succ m ih =>
    intro k s hk hf hI
    show ∃ r, f s _ fin = some r ∧ Q r
    by_cases he : k = n
    · subst he; exact done s _ hI
    · exact step k s _ (by omega) hI (fun s' h' => ih (k + 1) s' (by omega) (by omega) h')
theorem all_lp {ρ : Type} {n : Nat} {p : Nat → Bool} {no : ρ} {f : Int → (Int → Option ρ) → (Int → Option ρ) → Option ρ} {fin : Int → Option ρ}
    (step : ∀ (k : Nat) nx, k < n → (p k = false → f (k : Int) nx fin = some no) ∧ (p k = true → f (k : Int) nx fin = nx ((k + 1 : Nat) : Int))) (stop : ∀ nx, f (n : Int) nx fin = fin (n : Int))
    (fuel : Nat) (hf : n < fuel) : loopK f fuel 0 fin = if allN n p = true then fin (n : Int) else some no := by
  have key : ∀ fuel k, k ≤ n → n - k < fuel → (∀ i, i < k → p i = true) → loopK f fuel (k : Int) fin = if allN n p = true then fin (n : Int) else some no := by
    intro fuel
    induction fuel with
    | zero => intro k hk hf; omega
    | succ m ih =>
      intro k hk hf hu
      show f (k : Int) _ fin = _
      by_cases he : k = n
      · subst he; rw [stop, allN_iff.2 hu]; rfl
      · obtain ⟨h1, h2⟩ := step k (fun s' => loopK f m s' fin) (by omega)
        cases hp : p k with
        | false => rw [h1 hp, allN_no (by omega) hp]; rfl
        | true =>
          rw [h2 hp]
          refine ih (k + 1) (by omega) (by omega) (fun i hi => ?_)
          by_cases he : i = k
          · rw [he]; exact hp
          · exact hu i (by omega)
  exact key fuel 0 (by omega) (by omega) (fun i hi => by omega)
theorem next_i {k : Nat} (h : k ≤ 9223372036854775806) : IntKind.i64.wrap ((k : Int) + 1) = ((k + 1 : Nat) : Int) := by rw [wrap_in (by omega) (by omega)]; omega
end Go.Proofs.Ythdmmoameoafmaa.QAll

/- Rising rows: what a rising row gives; loops that sum; loops from one on. No condition. -/
namespace Go.Proofs.Ythdmmoameoafmaa.QUp
set_option linter.unusedVariables false
set_option linter.unusedSimpArgs false
open Go.RowKit
open Go.Proofs.Ythdmmoameoafmaa.GoP Go.Proofs.Ythdmmoameoafmaa.QBase Go.Proofs.Ythdmmoameoafmaa.QLoop Go.Proofs.Ythdmmoameoafmaa.QAll

/-- a loop with fuel, from k on, by an invariant -/
theorem lp_is {σ ρ : Type} {f : σ → (σ → Option ρ) → (σ → Option ρ) → Option ρ} {fin : σ → Option ρ} {n : Nat} (r : ρ) (I : Nat → σ → Prop)
    (step : ∀ k s nx, k < n → I k s → (∀ s', I (k + 1) s' → nx s' = some r) → f s nx fin = some r) (done : ∀ s nx, I n s → f s nx fin = some r) (fuel : Nat) (k : Nat) (s : σ) (hk : k ≤ n) (hf : n - k < fuel) (hI : I k s) : loopK f fuel s fin = some r := by
  obtain ⟨r', h, rfl⟩ := lp_ex (Q := fun x => x = r) I (fun k s nx hk hI hn => ⟨r, step k s nx hk hI (fun s' h' => by obtain ⟨_, h, rfl⟩ := hn s' h'; exact h), rfl⟩) (fun s nx h => ⟨r, done s nx h, rfl⟩) fuel k s hk hf hI
  exact h
end Go.Proofs.Ythdmmoameoafmaa.QUp

/- Chapter 11: postmarks: the plain functions of the program and of the reference agree, and the laws answer true. (QByte) No condition but those of each theorem. -/
namespace Go.Proofs.Ythdmmoameoafmaa.QByte
set_option linter.unusedVariables false
set_option linter.unusedSimpArgs false
open Go.RowKit
open Go.Proofs.Ythdmmoameoafmaa.GoP Go.Proofs.Ythdmmoameoafmaa.PlainStamp Go.Proofs.Ythdmmoameoafmaa.QBase Go.Proofs.Ythdmmoameoafmaa.QLoop

/-- the text of these bytes -/
def bs (l : List UInt8) : ByteArray := ⟨l.toArray⟩
theorem bs_size (l : List UInt8) : (bs l).size = l.length := by unfold bs; show l.toArray.size = _; rw [List.size_toArray]
theorem bs_list (l : List UInt8) : (bs l).toList = l := by rw [Lib.toList_data]; simp [bs]
theorem bs_app (a b : List UInt8) : bs a ++ bs b = bs (a ++ b) := by
  apply ByteArray.ext; simp [bs]
theorem bs_cut (l : List UInt8) (i j : Nat) : (bs l).extract i j = bs ((l.take j).drop i) := by
  apply ByteArray.ext
  simp [bs, List.drop_take]
theorem bs_of (s : ByteArray) : bs s.toList = s := by
  apply ByteArray.ext; rw [Lib.toList_data]; simp [bs]
theorem toList_size (s : ByteArray) : s.toList.length = s.size := by rw [Lib.toList_data]; rfl
def toI (l : List UInt8) : List Int := l.map fun b => (b.toNat : Int)
theorem byte_eq (b c : UInt8) : ((b.toNat : Int) == (c.toNat : Int)) = (b == c) := by
  rw [Bool.eq_iff_iff, beq_iff_eq, beq_iff_eq]
  constructor
  · intro h; exact UInt8.toNat.inj (by omega)
  · intro h; rw [h]
end Go.Proofs.Ythdmmoameoafmaa.QByte

/- The laws' helpers on slices of strings as plain functions: their bulk, copied, equal. Loops that test each place, and loops without a count. Condition: what is copied has at most 2^20 strings. -/
namespace Go.Proofs.Ythdmmoameoafmaa.QStrs
set_option linter.unusedVariables false
set_option linter.unusedSimpArgs false
open Go.RowKit
open Go.Proofs.Ythdmmoameoafmaa.GoP Go.Proofs.Ythdmmoameoafmaa.QBase Go.Proofs.Ythdmmoameoafmaa.QLoop

theorem size_list (s : ByteArray) : s.toList.length = s.size := by rw [Lib.toList_data]; rfl
theorem szS (l : List ByteArray) (left : Int) (h0 : 0 ≤ left) (h1 : left ≤ 1048576) (hf : ∀ s ∈ l, s.size ≤ maxLen) (hl : l.length ≤ 9223372036854775807) :
    ∃ v, GlSzStringS.P l left = some v ∧ v ≤ 1048576 ∧ (0 ≤ v → l.length ≤ 1048576 ∧ ∀ s ∈ l, s.size ≤ 1048576) := by
  simp only [GlSzStringS.P, letK, iteK_if]
  rw [wrap_in (by omega) (by omega)]
  by_cases h : left - (l.length : Int) < 0
  · exact ⟨-1, by rw [if_pos (by simp; omega)], by omega, by omega⟩
  · rw [if_neg (by simp; omega)]
    refine cnt_ex (n := l.length) (Q := fun v => v ≤ 1048576 ∧ (0 ≤ v → l.length ≤ 1048576 ∧ ∀ s ∈ l, s.size ≤ 1048576)) (fun k (s : Int) => 0 ≤ s ∧ s ≤ 1048576 ∧ ∀ x ∈ l.take k, x.size ≤ 1048576) ?_ ?_ l.length 0 _ (by omega) ⟨by omega, by omega, by simp⟩
    · intro k s nx hk hI hn
      obtain ⟨x, hx, hi⟩ := at_lt (l := l) (k := k) hk
      have hm := hf x (List.mem_of_getElem? hx)
      unfold maxLen at hm
      simp only [GlSzStringS.l0, hi, Option.bind_some, letK, appK, iteK_if]
      rw [wrap_in (by omega) (by omega)]
      by_cases hb : s - (x.size : Int) < 0
      · rw [if_pos (by simp; omega)]; exact ⟨-1, rfl, by omega, by omega⟩
      · rw [if_neg (by simp; omega)]
        refine hn _ ⟨by omega, by omega, fun y hy => ?_⟩
        rw [take_next hx] at hy
        rcases List.mem_append.1 hy with h1 | h1
        · exact hI.2.2 y h1
        · obtain rfl : y = x := by simpa using h1
          omega
    · intro s hI
      refine ⟨s, rfl, hI.2.1, fun _ => ⟨by omega, fun y hy => hI.2.2 y (by rw [List.take_length]; exact hy)⟩⟩
theorem toS (l : List ByteArray) (hl : l.length ≤ 1048576) : GlToStringS.P l = some l := by
  simp only [GlToStringS.P, letK]
  rw [guardK_pos (by omega)]
  refine cnt_is l (fun k s => s = l.take k ++ List.replicate (l.length - k) ByteArray.empty) ?_ ?_ _ (by simp)
  · intro k s nx hk hI hn
    obtain ⟨x, hx, hi⟩ := at_lt (l := l) (k := k) hk
    have hlen : s.length = l.length := by rw [hI]; simp; omega
    obtain ⟨z, hz, hj⟩ := at_lt (l := s) (k := k) (by omega)
    simp only [GlToStringS.l0, hi, hj, Option.bind_some, letK, appK]
    refine hn _ ?_
    rw [hI, take_next hx, List.set_append_right _ _ (by simp; omega)]
    have hr : l.length - k = (l.length - (k + 1)) + 1 := by omega
    rw [hr, List.replicate_succ, List.append_assoc]
    simp [show k - min k l.length = 0 by omega]
  · intro s hI
    rw [hI]; simp [GlToStringS.e0, letK]
theorem eqS (l : List ByteArray) : GlEqStringS.P l l = some true := by
  simp only [GlEqStringS.P, letK, iteK_if]
  rw [if_neg (by simp)]
  refine cnt_is true (fun _ _ => True) ?_ (fun s _ => rfl) () trivial
  intro k s nx hk _ hn
  obtain ⟨x, hx, hi⟩ := at_lt (l := l) (k := k) hk
  simp only [GlEqStringS.l0, hi, Option.bind_some, letK, appK, iteK_if]
  rw [if_neg (by simp)]
  exact hn () trivial

/-- each number below n is good -/
def allN (n : Nat) (p : Nat → Bool) : Bool := (List.range n).all p
theorem allN_iff {n : Nat} {p : Nat → Bool} : allN n p = true ↔ ∀ i, i < n → p i = true := by unfold allN; simp
theorem allN_no {n k : Nat} {p : Nat → Bool} (hk : k < n) (h : p k = false) : allN n p = false := by
  rw [Bool.eq_false_iff]; intro ha; rw [allN_iff.1 ha k hk] at h; exact absurd h (by simp)
theorem allN_eq {n m : Nat} {p q : Nat → Bool} (h : (∀ i, i < n → p i = true) ↔ (∀ i, i < m → q i = true)) : allN n p = allN m q := by
  rw [Bool.eq_iff_iff, allN_iff, allN_iff]; exact h
theorem all_cnt {ρ : Type} {n : Nat} {p : Nat → Bool} {no : ρ} {f : Nat → Unit → (Unit → Option ρ) → (Unit → Option ρ) → Option ρ} {fin : Unit → Option ρ}
    (step : ∀ k nx, k < n → (p k = false → f k () nx fin = some no) ∧ (p k = true → f k () nx fin = nx ())) : cntK f n 0 () fin = if allN n p = true then fin () else some no := by
  have key : ∀ m k, k + m = n → (∀ i, i < k → p i = true) → cntK f m k () fin = if allN n p = true then fin () else some no := by
    intro m
    induction m with
    | zero => intro k hk hu; obtain rfl : k = n := by omega
              rw [allN_iff.2 hu]; rfl
    | succ m ih =>
      intro k hk hu
      obtain ⟨h1, h2⟩ := step k (fun s' => cntK f m (k + 1) s' fin) (by omega)
      show f k () _ fin = _
      cases hp : p k with
      | false => rw [h1 hp, allN_no (by omega) hp]; rfl
      | true =>
        rw [h2 hp]
        refine ih (k + 1) (by omega) (fun i hi => ?_)
        by_cases he : i = k
        · rw [he]; exact hp
        · exact hu i (by omega)
  exact key n 0 (by omega) (fun i hi => by omega)
theorem lp_ex {σ ρ : Type} {f : σ → (σ → Option ρ) → (σ → Option ρ) → Option ρ} {fin : σ → Option ρ} {Q : ρ → Prop} {n : Nat} (I : Nat → σ → Prop)
    (step : ∀ k s nx, k < n → I k s → (∀ s', I (k + 1) s' → ∃ r, nx s' = some r ∧ Q r) → ∃ r, f s nx fin = some r ∧ Q r) (done : ∀ s nx, I n s → ∃ r, f s nx fin = some r ∧ Q r) :
    ∀ fuel k s, k ≤ n → n - k < fuel → I k s → ∃ r, loopK f fuel s fin = some r ∧ Q r := by
  intro fuel
  induction fuel with
  | zero => intro k s hk hf; omega
  | succ m ih =>
    intro k s hk hf hI
    show ∃ r, f s _ fin = some r ∧ Q r
    by_cases he : k = n
    · subst he; exact done s _ hI
    · exact step k s _ (by omega) hI (fun s' h' => ih (k + 1) s' (by omega) (by omega) h')
theorem all_lp {ρ : Type} {n : Nat} {p : Nat → Bool} {no : ρ} {f : Int → (Int → Option ρ) → (Int → Option ρ) → Option ρ} {fin : Int → Option ρ}
    (step : ∀ (k : Nat) nx, k < n → (p k = false → f (k : Int) nx fin = some no) ∧ (p k = true → f (k : Int) nx fin = nx ((k + 1 : Nat) : Int))) (stop : ∀ nx, f (n : Int) nx fin = fin (n : Int))
    (fuel : Nat) (hf : n < fuel) : loopK f fuel 0 fin = if allN n p = true then fin (n : Int) else some no := by
  have key : ∀ fuel k, k ≤ n → n - k < fuel → (∀ i, i < k → p i = true) → loopK f fuel (k : Int) fin = if allN n p = true then fin (n : Int) else some no := by
    intro fuel
    induction fuel with
    | zero => intro k hk hf; omega
    | succ m ih =>
      intro k hk hf hu
      show f (k : Int) _ fin = _
      by_cases he : k = n
      · subst he; rw [stop, allN_iff.2 hu]; rfl
      · obtain ⟨h1, h2⟩ := step k (fun s' => loopK f m s' fin) (by omega)
        cases hp : p k with
        | false => rw [h1 hp, allN_no (by omega) hp]; rfl
        | true =>
          rw [h2 hp]
          refine ih (k + 1) (by omega) (by omega) (fun i hi => ?_)
          by_cases he : i = k
          · rw [he]; exact hp
          · exact hu i (by omega)
  exact key fuel 0 (by omega) (by omega) (fun i hi => by omega)
theorem next_i {k : Nat} (h : k ≤ 9223372036854775806) : IntKind.i64.wrap ((k : Int) + 1) = ((k + 1 : Nat) : Int) := by rw [wrap_in (by omega) (by omega)]; omega
theorem at_list {s : ByteArray} {k : Nat} (h : k < s.size) : ∃ b, s.toList[k]? = some b ∧ idx s.toList (k : Int) = some b ∧ s.toList.getD k 0 = b := by
  obtain ⟨b, hb, hi⟩ := at_lt (l := s.toList) (k := k) (by rw [size_list]; exact h)
  exact ⟨b, hb, hi, by rw [List.getD_eq_getElem?_getD, hb]; rfl⟩
theorem at_row {l : List ByteArray} {k : Nat} (h : k < l.length) : ∃ r, l[k]? = some r ∧ idx l (k : Int) = some r ∧ l.getD k ByteArray.empty = r := by
  obtain ⟨b, hb, hi⟩ := at_lt (l := l) (k := k) h
  exact ⟨b, hb, hi, by rw [List.getD_eq_getElem?_getD, hb]; rfl⟩
end Go.Proofs.Ythdmmoameoafmaa.QStrs

/- Rows of a sheet and of a block: the program's test and the reference's are the same. Condition: at most 2^20 rows of at most 2^20 letters. -/
namespace Go.Proofs.Ythdmmoameoafmaa.QSheet
set_option linter.unusedVariables false
set_option linter.unusedSimpArgs false
open Go.RowKit
open Go.Proofs.Ythdmmoameoafmaa.GoP Go.Proofs.Ythdmmoameoafmaa.PlainStamp Go.Proofs.Ythdmmoameoafmaa.QBase Go.Proofs.Ythdmmoameoafmaa.QLoop Go.Proofs.Ythdmmoameoafmaa.QStrs

/-- a letter or a point -/
def okc (b : UInt8) : Bool := (b.toNat == 46) || decide (97 ≤ b.toNat ∧ b.toNat ≤ 122)
abbrev rw_ (l : List ByteArray) (i : Nat) : ByteArray := l.getD i ByteArray.empty
abbrev ch (s : ByteArray) (i : Nat) : UInt8 := s.toList.getD i 0
def rowB (l : List ByteArray) (i : Nat) : Bool := decide ((rw_ l i).size = (rw_ l 0).size) && allN (rw_ l i).size (fun k => okc (ch (rw_ l i) k))
def rowsB (l : List ByteArray) (m : Int) : Bool := inB (l.length : Int) 1 m && (inB ((rw_ l 0).size : Int) 1 m && allN l.length (rowB l))
theorem letter_eq (b : UInt8) : GiIsLetter.P (b.toNat : Int) = some (decide (97 ≤ b.toNat ∧ b.toNat ≤ 122)) := by
  simp only [GiIsLetter.P, letK, joinK, appK, iteK_if]
  by_cases h1 : 97 ≤ b.toNat
  · by_cases h2 : b.toNat ≤ 122
    · simp [h1, h2, show (97 : Int) ≤ b.toNat by omega, show (b.toNat : Int) ≤ 122 by omega]
    · simp [h1, h2, show (97 : Int) ≤ b.toNat by omega, show ¬ (b.toNat : Int) ≤ 122 by omega]
  · simp [h1, show ¬ (97 : Int) ≤ b.toNat by omega]
theorem inB_pos {n a b : Int} (h : inB n a b = true) : a ≤ n ∧ n ≤ b := by unfold inB at h; simpa using h
theorem impl_eq (l : List ByteArray) (m : Int) (hs : ∀ s ∈ l, s.size ≤ 1048576) : GiAreRows.P l m = some (rowsB l m) := by
  simp only [GiAreRows.P, within_eq, Option.bind_some, letK, joinK, appK, iteK_if]
  unfold rowsB
  cases h1 : inB (l.length : Int) 1 m with
  | false => simp
  | true =>
    have := (inB_pos h1).1
    obtain ⟨r0, hr0, hi0, hd0⟩ := at_row (l := l) (k := 0) (by omega)
    simp only [Int.ofNat_zero] at hi0
    simp only [hi0, Option.bind_some, Bool.not_true, Bool.false_eq_true, if_false, Bool.true_and]
    rw [show rw_ l 0 = r0 from hd0]
    cases h2 : inB (r0.size : Int) 1 m with
    | false => simp
    | true =>
      simp only [Bool.not_true, Bool.false_eq_true, if_false, Bool.true_and]
      rw [all_cnt (p := rowB l) (no := false)]
      · cases allN l.length (rowB l) <;> rfl
      · intro k nx hk
        obtain ⟨r, hr, hi, hd⟩ := at_row hk
        have hsz := hs r (List.mem_of_getElem? hr)
        simp only [GiAreRows.l0, hi, hi0, Option.bind_some, letK, iteK_if]
        unfold rowB
        rw [show rw_ l 0 = r0 from hd0, show rw_ l k = r from hd]
        by_cases he : r.size = r0.size
        · rw [if_neg (by simp; omega), guardK_pos (by omega)]
          rw [all_cnt (p := fun k => okc (ch r k)) (no := false)]
          · simp only [he, decide_true, Bool.true_and]
            cases allN r0.size (fun k => okc (ch r k)) <;> simp [GiAreRows.e1, appK]
          · intro j nx2 hj
            obtain ⟨b, hb, hib, hdb⟩ := at_list hj
            simp only [GiAreRows.l1, hib, Option.bind_some, letK, joinK, appK, iteK_if, letter_eq]
            rw [show ch r j = b from hdb]
            unfold okc
            by_cases h46 : b.toNat = 46
            · simp [h46]
            · by_cases hl : 97 ≤ b.toNat ∧ b.toNat ≤ 122 <;> simp [h46, hl] <;> omega
        · rw [if_pos (by simp; omega)]
          simp [he]
theorem spec_eq (l : List ByteArray) (m : Int) (fuel : Nat) (hf : 1048577 ≤ fuel) (hs : ∀ s ∈ l, s.size ≤ 1048576) : GsL4Rows.P fuel l m = some (rowsB l m) := by
  simp only [GsL4Rows.P, l1In_eq, Option.bind_some, letK, iteK_if]
  unfold rowsB
  cases h1 : inB (l.length : Int) 1 m with
  | false => simp
  | true =>
    have := (inB_pos h1).1
    obtain ⟨r0, hr0, hi0, hd0⟩ := at_row (l := l) (k := 0) (by omega)
    simp only [Int.ofNat_zero] at hi0
    simp only [Bool.not_true, Bool.false_eq_true, if_false, Bool.true_and]
    rw [show rw_ l 0 = r0 from hd0]
    rw [all_cnt (p := fun k => inB ((rw_ l k).size : Int) 1 m && rowB l k) (no := false)]
    · have e : allN l.length (fun k => inB ((rw_ l k).size : Int) 1 m && rowB l k) = (inB (r0.size : Int) 1 m && allN l.length (rowB l)) := by
        rw [Bool.eq_iff_iff, Bool.and_eq_true, allN_iff, allN_iff]
        constructor
        · intro h
          refine ⟨?_, fun i hi => (by have := h i hi; simp only [Bool.and_eq_true] at this; exact this.2)⟩
          have := h 0 (by omega)
          simp only [Bool.and_eq_true] at this
          rw [← show rw_ l 0 = r0 from hd0]; exact this.1
        · rintro ⟨h2, h3⟩ i hi
          have h4 := h3 i hi
          have h5 : (rw_ l i).size = r0.size := by
            unfold rowB at h4
            simp only [Bool.and_eq_true, decide_eq_true_eq] at h4
            rw [h4.1, show rw_ l 0 = r0 from hd0]
          simp only [Bool.and_eq_true]
          exact ⟨by rw [h5]; exact h2, h4⟩
      rw [e]
      cases inB (r0.size : Int) 1 m <;> cases allN l.length (rowB l) <;> rfl
    · intro k nx hk
      obtain ⟨r, hr, hi, hd⟩ := at_row hk
      have hsz := hs r (List.mem_of_getElem? hr)
      simp only [GsL4Rows.l0, hi, hi0, Option.bind_some, letK, joinK, appK, iteK_if, l1In_eq]
      unfold rowB
      rw [show rw_ l 0 = r0 from hd0, show rw_ l k = r from hd]
      by_cases he : r.size = r0.size
      · rw [if_neg (by simp; omega)]
        cases h3 : inB (r.size : Int) 1 m with
        | false => simp
        | true =>
          simp only [Bool.not_true, Bool.false_eq_true, if_false, Bool.true_and]
          rw [all_lp (n := r.size) (p := fun k => okc (ch r k)) (no := false) _ _ fuel (by omega)]
          · simp only [he, decide_true, Bool.true_and]
            cases allN r0.size (fun k => okc (ch r k)) <;> simp [GsL4Rows.e1, letK, appK]
          · intro j nx2 hj
            obtain ⟨b, hb, hib, hdb⟩ := at_list hj
            simp only [GsL4Rows.l1, hi, hib, Option.bind_some, letK, joinK, appK, iteK_if]
            rw [show ch r j = b from hdb, if_pos (by simp; omega), next_i (by omega)]
            unfold okc
            by_cases h46 : b.toNat = 46
            · simp [h46]
            · by_cases hl : 97 ≤ b.toNat
              · by_cases hl2 : b.toNat ≤ 122
                · simp [h46, hl, hl2, show ¬ ((b.toNat : Int) < 97) by omega, show ¬ ((122 : Int) < b.toNat) by omega]
                  try omega
                · simp [h46, hl, hl2, show ¬ ((b.toNat : Int) < 97) by omega, show ((122 : Int) < b.toNat) by omega]
                  try omega
              · simp [h46, hl, show ((b.toNat : Int) < 97) by omega]
                try omega
          · intro nx2
            simp only [GsL4Rows.l1, hi, Option.bind_some, letK, appK, iteK_if]
            rw [if_neg (by simp)]
      · rw [if_pos (by simp; omega)]
        simp [he]
end Go.Proofs.Ythdmmoameoafmaa.QSheet

/- Places for blocks on sheets: the plain functions of the program and of the reference agree, and the law answers true. (Q4See) No condition but those of each theorem. -/
namespace Go.Proofs.Ythdmmoameoafmaa.Q4See
set_option linter.unusedVariables false
set_option linter.unusedSimpArgs false
open Go.RowKit
open Go.Proofs.Ythdmmoameoafmaa.GoP Go.Proofs.Ythdmmoameoafmaa.PlainStamp Go.Proofs.Ythdmmoameoafmaa.QBase Go.Proofs.Ythdmmoameoafmaa.QLoop Go.Proofs.Ythdmmoameoafmaa.QStrs Go.Proofs.Ythdmmoameoafmaa.QSheet

/-- what is seen at a place, a point beside the rows -/
def see (l : List ByteArray) (r c : Int) : Int :=
  if 0 ≤ r ∧ r < (l.length : Int) ∧ 0 ≤ c ∧ c < ((rw_ l r.toNat).size : Int) then ((ch (rw_ l r.toNat) c.toNat).toNat : Int) else 46
theorem see_in {l : List ByteArray} {i j : Nat} (h1 : i < l.length) (h2 : j < (rw_ l i).size) : see l (i : Int) (j : Int) = ((ch (rw_ l i) j).toNat : Int) := by
  unfold see
  rw [Int.toNat_natCast, Int.toNat_natCast, if_pos ⟨by omega, by omega, by omega, by omega⟩]
theorem seenAt_eq (l : List ByteArray) (r c : Int) (hl : l.length ≤ 1048576) (hs : ∀ s ∈ l, s.size ≤ 1048576) : GiSeenAt.P l r c = some (see l r c) := by
  simp only [GiSeenAt.P, within_eq, Option.bind_some, letK, joinK, appK, iteK_if]
  rw [wrap_in (by omega) (by omega)]
  by_cases hr : 0 ≤ r ∧ r < (l.length : Int)
  · obtain ⟨i, rfl⟩ : ∃ i : Nat, r = i := ⟨r.toNat, by omega⟩
    have hi : i < l.length := by omega
    obtain ⟨y, hy, hiy, hd⟩ := at_row hi
    have hsz := hs y (List.mem_of_getElem? hy)
    have e1 : inB (i : Int) 0 ((l.length : Int) - 1) = true := by unfold inB; simp; omega
    simp only [e1, hiy, Option.bind_some, Bool.not_true, Bool.false_eq_true, if_false]
    rw [wrap_in (by omega) (by omega)]
    by_cases hc : 0 ≤ c ∧ c < (y.size : Int)
    · obtain ⟨j, rfl⟩ : ∃ j : Nat, c = j := ⟨c.toNat, by omega⟩
      obtain ⟨b, hb, hib, hdb⟩ := at_list (s := y) (k := j) (by omega)
      have e2 : inB (j : Int) 0 ((y.size : Int) - 1) = true := by unfold inB; simp; omega
      simp only [e2, hib, Option.bind_some, Bool.not_true, Bool.false_eq_true, if_false]
      rw [see_in hi (by rw [show rw_ l i = y from hd]; omega), show rw_ l i = y from hd, show ch y j = b from hdb]
    · have e2 : inB c 0 ((y.size : Int) - 1) = false := by unfold inB; simp; omega
      simp only [e2, Bool.not_false, if_true]
      unfold see
      rw [Int.toNat_natCast, show rw_ l i = y from hd, if_neg (by omega)]
  · have e1 : inB r 0 ((l.length : Int) - 1) = false := by unfold inB; simp; omega
    simp only [e1, Bool.not_false, if_true]
    unfold see
    rw [if_neg (by omega)]
def okp (x y : Int) : Bool := x == 46 || (y == 46 || x == y)
def agreeB (l m : List ByteArray) (d r : Int) : Bool := allN m.length fun i => allN (rw_ m i).size fun j => okp (see l (d + i) (r + j)) ((ch (rw_ m i) j).toNat : Int)
theorem agree_eq (l m : List ByteArray) (d r : Int) (hl : l.length ≤ 1048576) (hs : ∀ s ∈ l, s.size ≤ 1048576) (hm : m.length ≤ 1048576) (hms : ∀ s ∈ m, s.size ≤ 1048576) (hd : -5 ≤ d ∧ d ≤ 1048576) (hr : -5 ≤ r ∧ r ≤ 1048576) :
    GiAgree.P l m d r = some (agreeB l m d r) := by
  simp only [GiAgree.P]
  rw [all_cnt (p := fun i => allN (rw_ m i).size fun j => okp (see l (d + i) (r + j)) ((ch (rw_ m i) j).toNat : Int)) (no := false)]
  · unfold agreeB
    cases allN m.length _ <;> rfl
  · intro k nx hk
    obtain ⟨y, hy, hi, hdy⟩ := at_row hk
    have hsz := hms y (List.mem_of_getElem? hy)
    simp only [GiAgree.l0, hi, Option.bind_some, show rw_ m k = y from hdy]
    rw [guardK_pos (by omega), all_cnt (p := fun j => okp (see l (d + k) (r + j)) ((ch y j).toNat : Int)) (no := false)]
    · cases allN y.size _ <;> simp [GiAgree.e1, appK]
    · intro j nx2 hj
      obtain ⟨b, hb, hib, hdb⟩ := at_list hj
      simp only [GiAgree.l1, hib, Option.bind_some, letK, joinK, appK, iteK_if]
      rw [wrap_in (by omega) (by omega), wrap_in (by omega) (by omega), seenAt_eq l _ _ hl hs, show ch y j = b from hdb]
      simp only [Option.bind_some]
      unfold okp
      by_cases h1 : see l (d + k) (r + j) = 46
      · simp [h1]
      · by_cases h2 : (b.toNat : Int) = 46
        · simp [h1, h2]
        · by_cases h3 : see l (d + k) (r + j) = (b.toNat : Int)
          · simp [h1, h2, h3]
          · simp [h1, h2, h3]
theorem rowsB_parts {l : List ByteArray} {m : Nat} (h : rowsB l (m : Int) = true) : 1 ≤ l.length ∧ l.length ≤ m ∧ 1 ≤ (rw_ l 0).size ∧ (rw_ l 0).size ≤ m ∧ ∀ i, i < l.length → (rw_ l i).size = (rw_ l 0).size := by
  unfold rowsB at h
  simp only [Bool.and_eq_true] at h
  obtain ⟨h1, h2, h3⟩ := h
  have p1 := inB_pos h1; have p2 := inB_pos h2
  refine ⟨by omega, by omega, by omega, by omega, fun i hi => ?_⟩
  have := allN_iff.1 h3 i hi
  unfold rowB at this
  simp only [Bool.and_eq_true, decide_eq_true_eq] at this
  exact this.1
end Go.Proofs.Ythdmmoameoafmaa.Q4See

/- Places for blocks on sheets: the plain functions of the program and of the reference agree, and the law answers true. (Q4Fits) No condition but those of each theorem. -/
namespace Go.Proofs.Ythdmmoameoafmaa.Q4Fits
set_option linter.unusedVariables false
set_option linter.unusedSimpArgs false
open Go.RowKit
open Go.Proofs.Ythdmmoameoafmaa.GoP Go.Proofs.Ythdmmoameoafmaa.PlainStamp Go.Proofs.Ythdmmoameoafmaa.QBase Go.Proofs.Ythdmmoameoafmaa.QLoop Go.Proofs.Ythdmmoameoafmaa.QStrs Go.Proofs.Ythdmmoameoafmaa.QSheet Go.Proofs.Ythdmmoameoafmaa.Q4See

def fitB (l m : List ByteArray) (r c : Int) : Bool := inB r 0 ((l.length : Int) - m.length) && (inB c 0 (((rw_ l 0).size : Int) - (rw_ m 0).size) && agreeB l m r c)
theorem fits_impl {l m : List ByteArray} (hl : rowsB l (5 : Nat) = true) (hm : rowsB m (3 : Nat) = true) (hls : ∀ s ∈ l, s.size ≤ 1048576) (hms : ∀ s ∈ m, s.size ≤ 1048576) (r c : Nat) (hr : r < 5) (hc : c < 5) :
    GiFits.P l m (r : Int) (c : Int) = some (fitB l m r c) := by
  obtain ⟨a1, a2, a3, a4, a5⟩ := rowsB_parts hl
  obtain ⟨b1, b2, b3, b4, b5⟩ := rowsB_parts hm
  obtain ⟨x, hx, hxi, hdx⟩ := at_row (l := l) (k := 0) (by omega)
  obtain ⟨y, hy, hyi, hdy⟩ := at_row (l := m) (k := 0) (by omega)
  have ex : (rw_ l 0).size = x.size := by rw [show rw_ l 0 = x from hdx]
  have ey : (rw_ m 0).size = y.size := by rw [show rw_ m 0 = y from hdy]
  simp only [Int.ofNat_zero] at hxi hyi
  simp only [GiFits.P, within_eq, Option.bind_some, letK, joinK, appK, iteK_if, fitB]
  rw [wrap_in (x := (l.length : Int) - m.length) (by omega) (by omega)]
  cases inB (r : Int) 0 ((l.length : Int) - m.length) with
  | false => simp
  | true =>
    have hxi' : idx l 0 = some x := hxi
    have hyi' : idx m 0 = some y := hyi
    simp only [if_true, hxi', hyi', Option.bind_some, Bool.true_and]
    rw [wrap_in (x := (x.size : Int) - y.size) (by omega) (by omega), ex, ey]
    cases inB (c : Int) 0 ((x.size : Int) - y.size) with
    | false => simp
    | true => simp [agree_eq l m r c (by omega) hls (by omega) hms (by omega) (by omega)]
theorem okp_is (x y : Int) : okp x y = !((y != 46) && ((x != 46) && (y != x))) := by
  unfold okp
  by_cases h1 : x = 46
  · simp [h1]
  · by_cases h2 : y = 46
    · simp [h2]
    · by_cases h3 : x = y
      · simp [h3]
      · have e1 : (x == 46) = false := by simpa using h1
        have e2 : (y == 46) = false := by simpa using h2
        have e3 : (x == y) = false := by simpa using h3
        have e4 : (y == x) = false := by simpa using fun h : y = x => h3 h.symm
        simp [bne, e1, e2, e3, e4]
theorem fits_spec {l m : List ByteArray} (hl : rowsB l (5 : Nat) = true) (hm : rowsB m (3 : Nat) = true) (r c : Nat) (hr : r < 5) (hc : c < 5) (fuel : Nat) (hf : 10 ≤ fuel) :
    GsL4Fits.P fuel l m (r : Int) (c : Int) = some (fitB l m r c) := by
  obtain ⟨a1, a2, a3, a4, a5⟩ := rowsB_parts hl
  obtain ⟨b1, b2, b3, b4, b5⟩ := rowsB_parts hm
  obtain ⟨x, hx, hxi, hdx⟩ := at_row (l := l) (k := 0) (by omega)
  obtain ⟨y, hy, hyi, hdy⟩ := at_row (l := m) (k := 0) (by omega)
  have ex : (rw_ l 0).size = x.size := by rw [show rw_ l 0 = x from hdx]
  have ey : (rw_ m 0).size = y.size := by rw [show rw_ m 0 = y from hdy]
  have hxi' : idx l 0 = some x := hxi
  have hyi' : idx m 0 = some y := hyi
  have n1 : ¬ ((r : Int) < 0) := by omega
  have n2 : ¬ ((c : Int) < 0) := by omega
  simp only [GsL4Fits.P, letK, joinK, appK, iteK_if, fitB, n1, n2, decide_false, Bool.false_eq_true, if_false, hxi', hyi', Option.bind_some]
  rw [wrap_in (x := (l.length : Int) - m.length) (by omega) (by omega), wrap_in (x := (x.size : Int) - y.size) (by omega) (by omega), ex, ey]
  by_cases h1 : (r : Int) ≤ (l.length : Int) - m.length
  · by_cases h2 : (c : Int) ≤ (x.size : Int) - y.size
    · have e1 : inB (r : Int) 0 ((l.length : Int) - m.length) = true := inB_yes (by omega) h1
      have e2 : inB (c : Int) 0 ((x.size : Int) - y.size) = true := inB_yes (by omega) h2
      simp only [e1, e2, Bool.true_and, show ¬ ((l.length : Int) - m.length < r) by omega, show ¬ ((x.size : Int) - y.size < c) by omega, decide_false, Bool.false_eq_true, if_false]
      rw [all_lp (n := m.length) (p := fun i => allN (rw_ m i).size fun j => okp (see l ((r : Int) + i) ((c : Int) + j)) ((ch (rw_ m i) j).toNat : Int)) (no := false)]
      · show (if agreeB l m r c = true then _ else _) = _
        cases agreeB l m r c <;> simp [GsL4Fits.e0, letK]
      · intro i nx hi
        obtain ⟨u, hu, hui, hdu⟩ := at_row (l := m) (k := i) hi
        obtain ⟨v, hv, hvi, hdv⟩ := at_row (l := l) (k := r + i) (by omega)
        have su : (rw_ m i).size = u.size := by rw [show rw_ m i = u from hdu]
        have sv : (rw_ l (r + i)).size = v.size := by rw [show rw_ l (r + i) = v from hdv]
        have c1 := b5 i hi
        have c2 := a5 (r + i) (by omega)
        have hlt0 : (i : Int) < (m.length : Int) := by omega
        simp only [GsL4Fits.l0, letK, hlt0, decide_true, iteK_if, if_true]
        rw [all_lp (n := u.size) (p := fun j => okp (see l ((r : Int) + i) ((c : Int) + j)) ((ch (rw_ m i) j).toNat : Int)) (no := false)]
        · rw [show rw_ m i = u from hdu]
          simp only [GsL4Fits.e1, letK, appK]
          rw [next_i (by omega)]
          exact ⟨fun h => by rw [if_neg (by rw [h]; simp)], fun h => by rw [if_pos h]⟩
        · intro j nx2 hj
          obtain ⟨p, hp, hpi, hdp⟩ := at_list (s := u) (k := j) hj
          obtain ⟨q, hq, hqi, hdq⟩ := at_list (s := v) (k := c + j) (by omega)
          have hlt1 : (j : Int) < (u.size : Int) := by omega
          have es : see l ((r : Int) + i) ((c : Int) + j) = (q.toNat : Int) := by
            have := see_in (l := l) (i := r + i) (j := c + j) (by omega) (by rw [sv]; omega)
            rw [show rw_ l (r + i) = v from hdv, show ch v (c + j) = q from hdq] at this
            rw [← this]
            congr 1
          have ep : ch (rw_ m i) j = p := by rw [show rw_ m i = u from hdu]; exact hdp
          simp only [GsL4Fits.l1, letK, hui, Option.bind_some, hlt1, decide_true, iteK_if, if_true, hpi]
          rw [wrap_in (x := (r : Int) + i) (by omega) (by omega), wrap_in (x := (c : Int) + j) (by omega) (by omega), show (r : Int) + i = ((r + i : Nat) : Int) by omega, show (c : Int) + j = ((c + j : Nat) : Int) by omega]
          rw [show ((r + i : Nat) : Int) = (r : Int) + i by omega, show ((c + j : Nat) : Int) = (c : Int) + j by omega, es, ep, okp_is]
          have hvi' : idx l ((r : Int) + i) = some v := by rw [show (r : Int) + i = ((r + i : Nat) : Int) by omega]; exact hvi
          have hqi' : idx v.toList ((c : Int) + j) = some q := by rw [show (c : Int) + j = ((c + j : Nat) : Int) by omega]; exact hqi
          simp only [hvi', hqi', Option.bind_some, joinK, appK]
          rw [next_i (by omega)]
          cases h1 : ((p.toNat : Int) != 46) <;> cases h2 : ((q.toNat : Int) != 46) <;> cases h3 : ((p.toNat : Int) != (q.toNat : Int)) <;> simp
        · intro nx2
          simp [GsL4Fits.l1, letK, hui, appK, iteK_if]
        · omega
      · intro nx
        simp [GsL4Fits.l0, letK, appK, iteK_if]
      · omega
    · have e2 : inB (c : Int) 0 ((x.size : Int) - y.size) = false := inB_no (by omega)
      simp [e2, show ¬ ((l.length : Int) - m.length < r) by omega, show ((x.size : Int) - y.size < c) by omega]
  · have e1 : inB (r : Int) 0 ((l.length : Int) - m.length) = false := inB_no (by omega)
    simp [e1, show ((l.length : Int) - m.length < r) by omega]
end Go.Proofs.Ythdmmoameoafmaa.Q4Fits

/- Blocks that are laid on sheets: the plain functions of the program and of the reference agree, and the law answers true. (Q4Lay) No condition but those of each theorem. -/
namespace Go.Proofs.Ythdmmoameoafmaa.Q4Lay
set_option linter.unusedVariables false
set_option linter.unusedSimpArgs false
open Go.RowKit
open Go.Proofs.Ythdmmoameoafmaa.GoP Go.Proofs.Ythdmmoameoafmaa.PlainStamp Go.Proofs.Ythdmmoameoafmaa.QBase Go.Proofs.Ythdmmoameoafmaa.QUp Go.Proofs.Ythdmmoameoafmaa.QByte Go.Proofs.Ythdmmoameoafmaa.Q4Fits Go.Proofs.Ythdmmoameoafmaa.Q4See Go.Proofs.Ythdmmoameoafmaa.QSheet Go.Proofs.Ythdmmoameoafmaa.QStrs Go.Proofs.Ythdmmoameoafmaa.QLoop

theorem strK_toI (l : List UInt8) : Go.Proofs.Ythdmmoameoafmaa.GoB.strK (toI l) = bs l := by
  unfold Go.Proofs.Ythdmmoameoafmaa.GoB.strK toI bs
  rw [List.map_map]
  have : ((fun z : Int => UInt8.ofNat z.toNat) ∘ fun b : UInt8 => (b.toNat : Int)) = id := by
    funext b; simp
  rw [this, List.map_id]
theorem map_range_at {α : Type} (f : Nat → α) {n k : Nat} (h : k < n) : ((List.range n).map f)[k]? = some (f k) := by simp [h]
theorem set_map_range {α : Type} (f : Nat → α) (n p : Nat) (v : α) : ((List.range n).map f).set p v = (List.range n).map fun k => if k = p then v else f k := by
  apply List.ext_getElem?
  intro k
  by_cases hk : k < n
  · rw [map_range_at _ hk]
    by_cases hp : k = p
    · subst hp; rw [List.getElem?_set_self (by simpa using hk)]; simp
    · rw [List.getElem?_set_ne (fun e => hp e.symm), map_range_at _ hk]; simp [hp]
  · rw [List.getElem?_eq_none (by simp; omega), List.getElem?_eq_none (by simp; omega)]
theorem map_ch (s : ByteArray) : (List.range s.size).map (ch s) = s.toList := by
  apply List.ext_getElem?
  intro k
  by_cases hk : k < s.size
  · obtain ⟨b, hb, _, hd⟩ := at_list hk
    rw [map_range_at _ hk, hb]
    exact congrArg some hd
  · rw [List.getElem?_eq_none (by simp; omega), List.getElem?_eq_none (by rw [toList_size]; omega)]
theorem map_rw (l : List ByteArray) : (List.range l.length).map (rw_ l) = l := by
  apply List.ext_getElem?
  intro k
  by_cases hk : k < l.length
  · obtain ⟨b, hb, _, hd⟩ := at_row hk
    rw [map_range_at _ hk, hb]
    exact congrArg some hd
  · rw [List.getElem?_eq_none (by simp; omega), List.getElem?_eq_none (by omega)]
/-- a row with a block's row over its points -/
def cellS (l m : List ByteArray) (r c i k : Nat) : UInt8 := if ((r ≤ i ∧ i < r + m.length) ∧ c ≤ k ∧ k < c + (rw_ m 0).size) ∧ ch (rw_ l i) k = 46 then ch (rw_ m (i - r)) (k - c) else ch (rw_ l i) k
def rowS (l m : List ByteArray) (r c i : Nat) : List UInt8 := (List.range (rw_ l 0).size).map (cellS l m r c i)
def lay (l m : List ByteArray) (r c : Nat) : List ByteArray := (List.range l.length).map fun i => bs (rowS l m r c i)
def cellI (l m : List ByteArray) (r c i j k : Nat) : UInt8 := if (c ≤ k ∧ k < c + j) ∧ ch (rw_ m (i - r)) (k - c) ≠ 46 then ch (rw_ m (i - r)) (k - c) else ch (rw_ l i) k
def rowI (l m : List ByteArray) (r c i j : Nat) : List UInt8 := (List.range (rw_ l 0).size).map (cellI l m r c i j)
theorem cell_same {l m : List ByteArray} (hl : rowsB l (5 : Nat) = true) (hm : rowsB m (3 : Nat) = true) {r c : Nat} (hr : r + m.length ≤ l.length) (hc : c + (rw_ m 0).size ≤ (rw_ l 0).size) (ha : agreeB l m (r : Int) (c : Int) = true) {i : Nat} (hi : r ≤ i ∧ i < r + m.length) : rowI l m r c i (rw_ m 0).size = rowS l m r c i := by
  obtain ⟨a1, a2, a3, a4, a5⟩ := rowsB_parts hl
  obtain ⟨b1, b2, b3, b4, b5⟩ := rowsB_parts hm
  unfold rowI rowS
  apply List.map_congr_left
  intro k hk
  rw [List.mem_range] at hk
  unfold cellI cellS
  by_cases hin : c ≤ k ∧ k < c + (rw_ m 0).size
  · have h1 := allN_iff.1 ha (i - r) (by omega)
    have h2 := allN_iff.1 h1 (k - c) (by rw [b5 (i - r) (by omega)]; omega)
    have hs := see_in (l := l) (i := i) (j := k) (by omega) (by rw [a5 i (by omega)]; omega)
    rw [show (r : Int) + ((i - r : Nat) : Int) = (i : Int) by omega, show (c : Int) + ((k - c : Nat) : Int) = (k : Int) by omega, hs] at h2
    generalize ch (rw_ l i) k = x at h2 ⊢
    generalize ch (rw_ m (i - r)) (k - c) = y at h2 ⊢
    unfold okp at h2
    have e46 : ∀ z : UInt8, ((z.toNat : Int) == 46) = (z == 46) := fun z => byte_eq z 46
    rw [e46, e46, byte_eq] at h2
    by_cases hy : y = 46
    · by_cases hx : x = 46
      · simp [hx, hy]
      · simp [hx, hy]
    · by_cases hx : x = 46
      · simp [hx, hy, hin, hi]
      · have hxy : x = y := by simpa [hx, hy] using h2
        simp [hxy, hy]
  · rw [if_neg (fun h => hin h.1), if_neg (fun h => hin h.1.2)]
theorem lay_impl {l m : List ByteArray} (hl : rowsB l (5 : Nat) = true) (hm : rowsB m (3 : Nat) = true) {r c : Nat} (hr : r + m.length ≤ l.length) (hc : c + (rw_ m 0).size ≤ (rw_ l 0).size) (ha : agreeB l m (r : Int) (c : Int) = true) : GiLaidOn.P l m (r : Int) (c : Int) = some (lay l m r c) := by
  obtain ⟨a1, a2, a3, a4, a5⟩ := rowsB_parts hl
  obtain ⟨b1, b2, b3, b4, b5⟩ := rowsB_parts hm
  have hcl : GxSlicesCloneStringString.P l = some l := by
    simp only [GxSlicesCloneStringString.P, Go.Proofs.Ythdmmoameoafmaa.GoK.nilK, iteK_if, letK]
    rw [if_neg (by simp), guardK_pos (by simp; omega)]; simp
  simp only [GiLaidOn.P, hcl, Option.bind_some]
  refine cnt_is _ (fun k0 s => s = (List.range l.length).map fun i => if r ≤ i ∧ i < r + k0 then bs (rowI l m r c i (rw_ m 0).size) else rw_ l i) ?_ ?_ l ?_
  · rintro k0 s nx hk0 rfl hn
    obtain ⟨y, hy, hyi, hyd⟩ := at_row hk0
    have hys : y.size = (rw_ m 0).size := by rw [← b5 k0 hk0]; exact congrArg ByteArray.size hyd.symm
    have w1 := wrap_in (x := (r : Int) + (k0 : Int)) (by omega) (by omega)
    have hline : idx ((List.range l.length).map fun i => if r ≤ i ∧ i < r + k0 then bs (rowI l m r c i (rw_ m 0).size) else rw_ l i) ((r : Int) + (k0 : Int)) = some (rw_ l (r + k0)) := by
      rw [show (r : Int) + (k0 : Int) = ((r + k0 : Nat) : Int) by omega, idx_nat, map_range_at _ (by omega), if_neg (by omega)]
    have hxs : (rw_ l (r + k0)).size = (rw_ l 0).size := a5 (r + k0) (by omega)
    simp only [GiLaidOn.l0, letK, hyi, Option.bind_some, w1, hline]
    rw [guardK_pos (by omega), guardK_pos (by omega)]
    refine cnt_is _ (fun j s => s = toI (rowI l m r c (r + k0) j)) ?_ ?_ _ ?_
    · rintro j s nx2 hj rfl hn2
      obtain ⟨b, hb, hbi, hbd⟩ := at_list hj
      have w2 := wrap_in (x := (c : Int) + (j : Int)) (by omega) (by omega)
      have hch : ch (rw_ m (r + k0 - r)) (c + j - c) = b := by
        rw [show r + k0 - r = k0 by omega, show c + j - c = j by omega, show rw_ m k0 = y from hyd]; exact hbd
      have n46 : ((b.toNat : Int) != 46) = !(b == 46) := by rw [← byte_eq b 46]; rfl
      have hlen : (toI (rowI l m r c (r + k0) j)).length = (rw_ l 0).size := by simp [toI, rowI]
      simp only [GiLaidOn.l1, letK, hbi, Option.bind_some, iteK_if, n46, w2, appK]
      have hnext : ∀ k, cellI l m r c (r + k0) (j + 1) k = if k = c + j ∧ b ≠ 46 then b else cellI l m r c (r + k0) j k := by
        intro k
        unfold cellI
        by_cases hk : k = c + j
        · subst hk
          rw [hch, if_neg (show ¬ ((c ≤ c + j ∧ c + j < c + j) ∧ b ≠ 46) by omega)]
          by_cases h46 : b = 46
          · rw [if_neg (fun h => h.2 h46), if_neg (fun h => h.2 h46)]
          · rw [if_pos ⟨by omega, h46⟩, if_pos ⟨rfl, h46⟩]
        · rw [if_neg (show ¬ (k = c + j ∧ b ≠ 46) from fun h => hk h.1)]
          by_cases h1 : c ≤ k ∧ k < c + j
          · by_cases h2 : ch (rw_ m (r + k0 - r)) (k - c) ≠ 46
            · rw [if_pos ⟨by omega, h2⟩, if_pos ⟨h1, h2⟩]
            · rw [if_neg (fun h => h2 h.2), if_neg (fun h => h2 h.2)]
          · rw [if_neg (fun h => h1 (by omega)), if_neg (fun h => h1 h.1)]
      cases h46 : (b == 46) with
      | true =>
        have hb46 : b = 46 := by simpa using h46
        simp only [Bool.not_true, Bool.false_eq_true, if_false]
        refine hn2 _ ?_
        congr 1
        unfold rowI
        apply List.map_congr_left
        intro k _
        rw [hnext, if_neg (fun h => h.2 hb46)]
      | false =>
        have hb46 : b ≠ 46 := by simpa using h46
        have hat : idx (toI (rowI l m r c (r + k0) j)) ((c : Int) + (j : Int)) = some (((rowI l m r c (r + k0) j)[c + j]'(by unfold rowI; rw [List.length_map, List.length_range]; omega)).toNat : Int) := by
          rw [show (c : Int) + (j : Int) = ((c + j : Nat) : Int) by omega, idx_nat]
          unfold toI
          rw [List.getElem?_map, List.getElem?_eq_getElem (by unfold rowI; rw [List.length_map, List.length_range]; omega)]; rfl
        simp only [Bool.not_false, if_true, hat, Option.bind_some]
        refine hn2 _ ?_
        rw [show Int.toNat ((c : Int) + (j : Int)) = c + j by omega]
        unfold toI
        rw [← List.map_set]
        congr 1
        unfold rowI
        rw [set_map_range]
        apply List.map_congr_left
        intro k _
        rw [hnext]
        by_cases hk : k = c + j
        · rw [if_pos hk, if_pos ⟨hk, hb46⟩]
        · rw [if_neg hk, if_neg (fun h => hk h.1)]
    · rintro s rfl
      have hset : idx ((List.range l.length).map fun i => if r ≤ i ∧ i < r + k0 then bs (rowI l m r c i (rw_ m 0).size) else rw_ l i) ((r : Int) + (k0 : Int)) = some (rw_ l (r + k0)) := hline
      simp only [GiLaidOn.e1, letK, w1, strK_toI, hset, Option.bind_some, appK, hys]
      refine hn _ ?_
      rw [show Int.toNat ((r : Int) + (k0 : Int)) = r + k0 by omega, set_map_range]
      apply List.map_congr_left
      intro i _
      by_cases hi : i = r + k0
      · subst hi
        rw [if_pos rfl, if_pos (by omega)]
      · rw [if_neg hi]
        by_cases h1 : r ≤ i ∧ i < r + k0
        · rw [if_pos h1, if_pos (by omega)]
        · rw [if_neg h1, if_neg (by omega)]
    · unfold toI rowI
      rw [← map_ch (rw_ l (r + k0)), hxs]
      congr 1
      apply List.map_congr_left
      intro k _
      unfold cellI
      rw [if_neg (by omega)]
  · rintro s rfl
    simp only [GiLaidOn.e0, letK]
    congr 1
    unfold lay
    apply List.map_congr_left
    intro i hi
    rw [List.mem_range] at hi
    by_cases h1 : r ≤ i ∧ i < r + m.length
    · rw [if_pos h1, cell_same hl hm hr hc ha h1]
    · rw [if_neg h1]
      have : rowS l m r c i = (rw_ l i).toList := by
        rw [← map_ch, a5 i hi]
        unfold rowS
        apply List.map_congr_left
        intro k _
        unfold cellS
        rw [if_neg (fun h => h1 h.1.1)]
      rw [this, bs_of]
  · have : (fun i => if r ≤ i ∧ i < r + 0 then bs (rowI l m r c i (rw_ m 0).size) else rw_ l i) = rw_ l := by
      funext i; rw [if_neg (by omega)]
    rw [this, map_rw]
end Go.Proofs.Ythdmmoameoafmaa.Q4Lay

