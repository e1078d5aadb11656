/- loop.example/g01062/laws.FnExactSightingText as a plain function, and the contract of the program's: where the plain one has an answer, the program has it. Conditions: slices read as lists. -/
import Derived.Test.YtpaakpbbahbhcaaDoorChecked
import Derived.Test.YtpaakpbbahbhcaaDoorGoM
import Derived.Test.YtpaakpbbahbhcaaDoorTab
import Derived.Test.YtpaakpbbahbhcaaDoorGoRSighting
import Derived.Test.YtpaakpbbahbhcaaDoorHelpInt
import Derived.Test.YtpaakpbbahbhcaaDoorPSighting
import Derived.Test.YtpaakpbbahbhcaaDoorGlSzSighting
import Derived.Test.YtpaakpbbahbhcaaDoorGlToSighting
import Derived.Test.YtpaakpbbahbhcaaDoorGsSightingText
import Derived.Test.YtpaakpbbahbhcaaDoorGiSightingText
import Derived.Test.YtpaakpbbahbhcaaDoorGlEqSighting
import Derived.WalkKit
import Derived.WalkSpells
import Derived.WalkLawsBesides
import Derived.BigQuiet
import Derived.OwnWalk
import Derived.Deep.LoopGhost
import Derived.Deep.QuietTactic
import Derived.IntWalk
import Derived.Lib.QuietBelow
import Derived.Deep.RegionHeld3
namespace Go.Proofs.YtpaakpbbahbhcaaDoor.GlFnExactSightingText
set_option linter.unusedVariables false
set_option linter.unusedSimpArgs false
open Go.RowKit
open Go.Proofs.YtpaakpbbahbhcaaDoor.Rowed Go.Proofs.YtpaakpbbahbhcaaDoor.Turn Go.Proofs.YtpaakpbbahbhcaaDoor.Aid Go.Proofs.YtpaakpbbahbhcaaDoor.GoP Go.Proofs.YtpaakpbbahbhcaaDoor.GoM Go.Proofs.YtpaakpbbahbhcaaDoor.Tab

def P (fuel : Nat) (aS_id : Int) (aS_year : Int) (aS_town : ByteArray) (aS_traits : (List Int)) : Option (Bool) :=
  Option.bind (Go.Proofs.YtpaakpbbahbhcaaDoor.GlSzSighting.P aS_id aS_year aS_town aS_traits 1048576) fun (t_5 : Int) =>
  letK (decide (t_5 < 0)) fun (t_8 : Bool) =>
  iteK t_8
  (some true)
  (Option.bind (Go.Proofs.YtpaakpbbahbhcaaDoor.GlToSighting.P aS_id aS_year aS_town aS_traits) fun (t_11 : Go.Proofs.YtpaakpbbahbhcaaDoor.PSighting.Sighting) =>
  unSighting t_11 fun (t_11_id : Int) (t_11_year : Int) (t_11_town : ByteArray) (t_11_traits : (List Int)) =>
  bind2 (Go.Proofs.YtpaakpbbahbhcaaDoor.GsSightingText.P fuel t_11_id t_11_year t_11_town t_11_traits) fun (t_12a : ByteArray) (t_12b : Bool) =>
  Option.bind (Go.Proofs.YtpaakpbbahbhcaaDoor.GlToSighting.P aS_id aS_year aS_town aS_traits) fun (t_19 : Go.Proofs.YtpaakpbbahbhcaaDoor.PSighting.Sighting) =>
  unSighting t_19 fun (t_19_id : Int) (t_19_year : Int) (t_19_town : ByteArray) (t_19_traits : (List Int)) =>
  bind2 (Go.Proofs.YtpaakpbbahbhcaaDoor.GiSightingText.P t_19_id t_19_year t_19_town t_19_traits) fun (t_23a : ByteArray) (t_23b : Bool) =>
  letK (!(t_23a.toList == t_12a.toList)) fun (t_31 : Bool) =>
  joinK (fun (t_36 : Bool) =>
  iteK t_36
  (some false)
  (Option.bind (Go.Proofs.YtpaakpbbahbhcaaDoor.GlToSighting.P aS_id aS_year aS_town aS_traits) fun (t_40 : Go.Proofs.YtpaakpbbahbhcaaDoor.PSighting.Sighting) =>
  unSighting t_40 fun (t_40_id : Int) (t_40_year : Int) (t_40_town : ByteArray) (t_40_traits : (List Int)) =>
  Option.bind (Go.Proofs.YtpaakpbbahbhcaaDoor.GlEqSighting.P t_19_id t_19_year t_19_town t_19_traits t_40_id t_40_year t_40_town t_40_traits) fun (t_41 : Bool) =>
  letK (!t_41) fun (t_42 : Bool) =>
  iteK t_42
  (some false)
  (some true))) fun jt_36 => iteK t_31 (appK jt_36 true) (letK (!(t_23b == t_12b)) fun (t_35 : Bool) =>
  appK jt_36 t_35))

set_option maxRecDepth 100000 in
set_option maxHeartbeats 2000000 in
theorem C (fuel : Nat) (aS_id : Int) (aS_year : Int) (aS_town : ByteArray) (aS_traits : (List Int)) (A0_3 : Option Addr) (c0_3 : Nat)  (w : World) (HT : Hid (Tab w)) (M0_3 : Hid (Cells w 1 A0_3 aS_traits.length (Go.Proofs.YtpaakpbbahbhcaaDoor.HelpInt.iv aS_traits))) (N0_3 : Hid (aS_traits.length ≤ 9223372036854775807))  {r : Bool} (H : Hid (P fuel aS_id aS_year aS_town aS_traits = some r)) :
    Calls Tryd.prog 3 #[.agg #[.int .i64 aS_id, .int .i64 aS_year, .string aS_town, .slice A0_3 aS_traits.length c0_3]] w (Gives (.bool r) w) := by
  have HB := Lib.hid (Below.refl w.heap.size w)
  unfold P at H
  have N0_3o := N0_3.out
  go_enter Tryd.func3, Tryd.ntmps3
  obtain ⟨w_aS_0, hw_aS_0⟩ : ∃ x, w.alloc (.cells #[.int .i64 aS_id, .int .i64 aS_year, .string aS_town, .slice A0_3 aS_traits.length c0_3] 24) = x := ⟨_, rfl⟩
  have bw_aS_0 : Below w.heap.size w w_aS_0 := by rw [← hw_aS_0]; exact (Below.refl _ _).alloc (Nat.le_refl _) _
  have HBw_aS_0 := Lib.hid (Below.step HB.out bw_aS_0)
  clear bw_aS_0
  have kaS_0_0 : w_aS_0.cell? ⟨w.heap.size, 0, none⟩ = some (.int .i64 aS_id) := by rw [← hw_aS_0]; exact box_new _ _ _ 0 _ rfl
  have kaS_0_1 : w_aS_0.cell? ⟨w.heap.size, 1, none⟩ = some (.int .i64 aS_year) := by rw [← hw_aS_0]; exact box_new _ _ _ 1 _ rfl
  have kaS_0_2 : w_aS_0.cell? ⟨w.heap.size, 2, none⟩ = some (.string aS_town) := by rw [← hw_aS_0]; exact box_new _ _ _ 2 _ rfl
  have kaS_0_3 : w_aS_0.cell? ⟨w.heap.size, 3, none⟩ = some (.slice A0_3 aS_traits.length c0_3) := by rw [← hw_aS_0]; exact box_new _ _ _ 3 _ rfl
  replace H := bind_hid H
  obtain ⟨t_5, qt_5, H⟩ := H
  go_wp2_with fail
  go_at_call 4
  refine (Go.Proofs.YtpaakpbbahbhcaaDoor.GlSzSighting.C (aS_id) (aS_year) (aS_town) (aS_traits) (1048576) A0_3 c0_3 _   (Lib.hid (Cells.below M0_3.out HBw_aS_0.out)) N0_3 qt_5).mono ?_
  rintro e_t_5 wt_5 ⟨rfl, bt_5⟩
  have HBwt_5 := Lib.hid (Below.step HBw_aS_0.out bt_5)
  replace kaS_0_0 := cell_below bt_5 kaS_0_0
  replace kaS_0_1 := cell_below bt_5 kaS_0_1
  replace kaS_0_2 := cell_below bt_5 kaS_0_2
  replace kaS_0_3 := cell_below bt_5 kaS_0_3
  clear bt_5
  replace H := let_hid H
  obtain ⟨t_8, ht_8, H⟩ := H
  cases t_8 with
  | false =>
    replace H := ite_f H
    replace H := bind_hid H
    obtain ⟨t_11, qt_11, H⟩ := H
    obtain ⟨t_11_id, t_11_year, t_11_town, t_11_traits⟩ := t_11
    replace H := unSighting_hid H
    go_wp2_with fail
    go_at_call 6
    refine (Go.Proofs.YtpaakpbbahbhcaaDoor.GlToSighting.C (aS_id) (aS_year) (aS_town) (aS_traits) A0_3 c0_3 _   (Lib.hid (Cells.below M0_3.out HBwt_5.out)) N0_3 qt_11).mono ?_
    rintro e_t_11 wt_11 ⟨At_11_traits, ct_11_traits, rfl, ot_11_traits, bt_11⟩
    have Dt_11_traits_aS_0 := Lib.hid (apart_callbox ot_11_traits kaS_0_0)
    have Ot_11_traits := Lib.hid (own_lower ot_11_traits HBwt_5.out.size)
    clear ot_11_traits
    have HBwt_11 := Lib.hid (Below.step HBwt_5.out bt_11)
    replace kaS_0_0 := cell_below bt_11 kaS_0_0
    replace kaS_0_1 := cell_below bt_11 kaS_0_1
    replace kaS_0_2 := cell_below bt_11 kaS_0_2
    replace kaS_0_3 := cell_below bt_11 kaS_0_3
    clear bt_11
    replace H := bind2_hid H
    obtain ⟨t_12a, t_12b, qt_12, H⟩ := H
    go_wp2_with fail
    go_at_call 5
    refine (Go.Proofs.YtpaakpbbahbhcaaDoor.GsSightingText.C fuel (t_11_id) (t_11_year) (t_11_town) (t_11_traits) At_11_traits ct_11_traits _   (Lib.hid (own_cells Ot_11_traits.out)) (Lib.hid (own_max Ot_11_traits.out)) qt_12).mono ?_
    rintro e_t_12 wt_12 ⟨rfl, bt_12⟩
    have HBwt_12 := Lib.hid (Below.step HBwt_11.out bt_12)
    replace kaS_0_0 := cell_below bt_12 kaS_0_0
    replace kaS_0_1 := cell_below bt_12 kaS_0_1
    replace kaS_0_2 := cell_below bt_12 kaS_0_2
    replace kaS_0_3 := cell_below bt_12 kaS_0_3
    replace Ot_11_traits := Lib.hid (own_below Ot_11_traits.out bt_12)
    clear bt_12
    replace H := bind_hid H
    obtain ⟨t_19, qt_19, H⟩ := H
    obtain ⟨t_19_id, t_19_year, t_19_town, t_19_traits⟩ := t_19
    replace H := unSighting_hid H
    go_wp2_with fail
    go_at_call 6
    refine (Go.Proofs.YtpaakpbbahbhcaaDoor.GlToSighting.C (aS_id) (aS_year) (aS_town) (aS_traits) A0_3 c0_3 _   (Lib.hid (Cells.below M0_3.out HBwt_12.out)) N0_3 qt_19).mono ?_
    rintro e_t_19 wt_19 ⟨At_19_traits, ct_19_traits, rfl, ot_19_traits, bt_19⟩
    have Dt_19_traits_t_11_traits := Lib.hid (apart_call ot_19_traits Ot_11_traits.out)
    have Dt_19_traits_aS_0 := Lib.hid (apart_callbox ot_19_traits kaS_0_0)
    have Ot_19_traits := Lib.hid (own_lower ot_19_traits HBwt_12.out.size)
    clear ot_19_traits
    have HBwt_19 := Lib.hid (Below.step HBwt_12.out bt_19)
    replace kaS_0_0 := cell_below bt_19 kaS_0_0
    replace kaS_0_1 := cell_below bt_19 kaS_0_1
    replace kaS_0_2 := cell_below bt_19 kaS_0_2
    replace kaS_0_3 := cell_below bt_19 kaS_0_3
    replace Ot_11_traits := Lib.hid (own_below Ot_11_traits.out bt_19)
    clear bt_19
    obtain ⟨w_x0_20, hw_x0_20⟩ : ∃ x, wt_19.alloc (.cells #[.int .i64 t_19_id, .int .i64 t_19_year, .string t_19_town, .slice At_19_traits t_19_traits.length ct_19_traits] 28) = x := ⟨_, rfl⟩
    have bw_x0_20 : Below wt_19.heap.size wt_19 w_x0_20 := by rw [← hw_x0_20]; exact (Below.refl _ _).alloc (Nat.le_refl _) _
    have Dx0_20_t_11_traits := Lib.hid (apart_fresh Ot_11_traits.out)
    have Dx0_20_t_19_traits := Lib.hid (apart_fresh Ot_19_traits.out)
    have HBw_x0_20 := Lib.hid (Below.step HBwt_19.out bw_x0_20)
    have kaS_0_0__79 := cell_below bw_x0_20 kaS_0_0
    have kaS_0_1__80 := cell_below bw_x0_20 kaS_0_1
    have kaS_0_2__81 := cell_below bw_x0_20 kaS_0_2
    have kaS_0_3__82 := cell_below bw_x0_20 kaS_0_3
    replace Ot_11_traits := Lib.hid (own_below Ot_11_traits.out bw_x0_20)
    replace Ot_19_traits := Lib.hid (own_below Ot_19_traits.out bw_x0_20)
    clear bw_x0_20
    have kx0_20_0 : w_x0_20.cell? ⟨wt_19.heap.size, 0, none⟩ = some (.int .i64 t_19_id) := by rw [← hw_x0_20]; exact box_new _ _ _ 0 _ rfl
    have kx0_20_1 : w_x0_20.cell? ⟨wt_19.heap.size, 1, none⟩ = some (.int .i64 t_19_year) := by rw [← hw_x0_20]; exact box_new _ _ _ 1 _ rfl
    have kx0_20_2 : w_x0_20.cell? ⟨wt_19.heap.size, 2, none⟩ = some (.string t_19_town) := by rw [← hw_x0_20]; exact box_new _ _ _ 2 _ rfl
    have kx0_20_3 : w_x0_20.cell? ⟨wt_19.heap.size, 3, none⟩ = some (.slice At_19_traits t_19_traits.length ct_19_traits) := by rw [← hw_x0_20]; exact box_new _ _ _ 3 _ rfl
    replace H := bind2_hid H
    obtain ⟨t_23a, t_23b, qt_23, H⟩ := H
    go_wp2_with fail
    clear kaS_0_0 kaS_0_1 kaS_0_2 kaS_0_3
    go_at_call 7
    refine (Go.Proofs.YtpaakpbbahbhcaaDoor.GiSightingText.C (t_19_id) (t_19_year) (t_19_town) (t_19_traits) At_19_traits ct_19_traits _ (tab_below HBw_x0_20.out HT)  (Lib.hid (own_cells Ot_19_traits.out)) (Lib.hid (own_max Ot_19_traits.out)) qt_23).mono ?_
    rintro e_t_23 wt_23 ⟨rfl, bt_23⟩
    have HBwt_23 := Lib.hid (Below.step HBw_x0_20.out bt_23)
    replace kaS_0_0__79 := cell_below bt_23 kaS_0_0__79
    replace kaS_0_1__80 := cell_below bt_23 kaS_0_1__80
    replace kaS_0_2__81 := cell_below bt_23 kaS_0_2__81
    replace kaS_0_3__82 := cell_below bt_23 kaS_0_3__82
    replace kx0_20_0 := cell_below bt_23 kx0_20_0
    replace kx0_20_1 := cell_below bt_23 kx0_20_1
    replace kx0_20_2 := cell_below bt_23 kx0_20_2
    replace kx0_20_3 := cell_below bt_23 kx0_20_3
    replace Ot_11_traits := Lib.hid (own_below Ot_11_traits.out bt_23)
    replace Ot_19_traits := Lib.hid (own_below Ot_19_traits.out bt_23)
    clear bt_23
    replace H := let_hid H
    obtain ⟨t_31, ht_31, H⟩ := H
    replace H := join_hid H
    cases t_31 with
    | false =>
      replace H := ite_f H
      replace H := let_hid H
      obtain ⟨t_35, ht_35, H⟩ := H
      replace H := app_hid H
      cases t_35 with
      | false =>
        replace H := ite_f H
        go_wp2_with fail
        have bd10 : Below wt_23.heap.size wt_23 wt_23.drew := (Below.refl _ _).drew
        have HBwt_23.drew := Lib.hid (Below.step HBwt_23.out bd10)
        replace kaS_0_0__79 := cell_below bd10 kaS_0_0__79
        replace kaS_0_1__80 := cell_below bd10 kaS_0_1__80
        replace kaS_0_2__81 := cell_below bd10 kaS_0_2__81
        replace kaS_0_3__82 := cell_below bd10 kaS_0_3__82
        replace kx0_20_0 := cell_below bd10 kx0_20_0
        replace kx0_20_1 := cell_below bd10 kx0_20_1
        replace kx0_20_2 := cell_below bd10 kx0_20_2
        replace kx0_20_3 := cell_below bd10 kx0_20_3
        replace Ot_11_traits := Lib.hid (own_below Ot_11_traits.out bd10)
        replace Ot_19_traits := Lib.hid (own_below Ot_19_traits.out bd10)
        clear bd10
        replace H := bind_hid H
        obtain ⟨t_40, qt_40, H⟩ := H
        obtain ⟨t_40_id, t_40_year, t_40_town, t_40_traits⟩ := t_40
        replace H := unSighting_hid H
        replace H := bind_hid H
        obtain ⟨t_41, qt_41, H⟩ := H
        cases t_41 with
        | false =>
          replace H := let_hid H
          obtain ⟨t_42, ht_42, H⟩ := H
          obtain rfl : t_42 = true := ht_42.symm
          go_region_held3 (fun w' => w'.cell? ⟨w.heap.size, 0, none⟩ = some (.int .i64 aS_id) ∧ w'.cell? ⟨w.heap.size, 1, none⟩ = some (.int .i64 aS_year) ∧ w'.cell? ⟨w.heap.size, 2, none⟩ = some (.string aS_town) ∧ w'.cell? ⟨w.heap.size, 3, none⟩ = some (.slice A0_3 aS_traits.length c0_3) ∧ w'.cell? ⟨wt_19.heap.size, 0, none⟩ = some (.int .i64 t_19_id) ∧ w'.cell? ⟨wt_19.heap.size, 1, none⟩ = some (.int .i64 t_19_year) ∧ w'.cell? ⟨wt_19.heap.size, 2, none⟩ = some (.string t_19_town) ∧ w'.cell? ⟨wt_19.heap.size, 3, none⟩ = some (.slice At_19_traits t_19_traits.length ct_19_traits)) (first | exact ⟨kaS_0_0__79, kaS_0_1__80, kaS_0_2__81, kaS_0_3__82, kx0_20_0, kx0_20_1, kx0_20_2, kx0_20_3⟩)
              (first
                | (go_at_call 6
                   refine (Go.Proofs.YtpaakpbbahbhcaaDoor.GlToSighting.C (aS_id) (aS_year) (aS_town) (aS_traits) A0_3 c0_3 _   (Lib.hid (Cells.below M0_3.out HBwt_23.drew.out)) N0_3 qt_40).mono ?_
                   rintro e_t_40 wt_40 ⟨At_40_traits, ct_40_traits, rfl, ot_40_traits, bt_40⟩
                   have Dt_40_traits_t_11_traits := Lib.hid (apart_call ot_40_traits Ot_11_traits.out)
                   have Dt_40_traits_t_19_traits := Lib.hid (apart_call ot_40_traits Ot_19_traits.out)
                   have Dt_40_traits_aS_0 := Lib.hid (apart_callbox ot_40_traits kaS_0_0__79)
                   have Dt_40_traits_x0_20 := Lib.hid (apart_callbox ot_40_traits kx0_20_0)
                   have Ot_40_traits := Lib.hid (own_lower ot_40_traits HBwt_23.drew.out.size)
                   clear ot_40_traits
                   have HBwt_40 := Lib.hid (Below.step HBwt_23.drew.out bt_40)
                   replace kaS_0_0__79 := cell_below bt_40 kaS_0_0__79
                   replace kaS_0_1__80 := cell_below bt_40 kaS_0_1__80
                   replace kaS_0_2__81 := cell_below bt_40 kaS_0_2__81
                   replace kaS_0_3__82 := cell_below bt_40 kaS_0_3__82
                   replace kx0_20_0 := cell_below bt_40 kx0_20_0
                   replace kx0_20_1 := cell_below bt_40 kx0_20_1
                   replace kx0_20_2 := cell_below bt_40 kx0_20_2
                   replace kx0_20_3 := cell_below bt_40 kx0_20_3
                   replace Ot_11_traits := Lib.hid (own_below Ot_11_traits.out bt_40)
                   replace Ot_19_traits := Lib.hid (own_below Ot_19_traits.out bt_40)
                   clear bt_40
                   clear qt_40)
                | (go_at_call 8
                   refine (Go.Proofs.YtpaakpbbahbhcaaDoor.GlEqSighting.C (t_19_id) (t_19_year) (t_19_town) (t_19_traits) (t_40_id) (t_40_year) (t_40_town) (t_40_traits) At_19_traits ct_19_traits At_40_traits ct_40_traits _   (Lib.hid (own_cells Ot_19_traits.out)) (Lib.hid (own_max Ot_19_traits.out)) (Lib.hid (own_cells Ot_40_traits.out)) (Lib.hid (own_max Ot_40_traits.out)) qt_41).mono ?_
                   rintro e_t_41 wt_41 ⟨rfl, bt_41⟩
                   have HBwt_41 := Lib.hid (Below.step HBwt_40.out bt_41)
                   replace kaS_0_0__79 := cell_below bt_41 kaS_0_0__79
                   replace kaS_0_1__80 := cell_below bt_41 kaS_0_1__80
                   replace kaS_0_2__81 := cell_below bt_41 kaS_0_2__81
                   replace kaS_0_3__82 := cell_below bt_41 kaS_0_3__82
                   replace kx0_20_0 := cell_below bt_41 kx0_20_0
                   replace kx0_20_1 := cell_below bt_41 kx0_20_1
                   replace kx0_20_2 := cell_below bt_41 kx0_20_2
                   replace kx0_20_3 := cell_below bt_41 kx0_20_3
                   replace Ot_11_traits := Lib.hid (own_below Ot_11_traits.out bt_41)
                   replace Ot_19_traits := Lib.hid (own_below Ot_19_traits.out bt_41)
                   replace Ot_40_traits := Lib.hid (own_below Ot_40_traits.out bt_41)
                   clear bt_41
                   clear qt_41))
          replace H := ite_t H
          obtain rfl := ret_hid H
          go_wp2_with fail
          go_ret
          exact ⟨rfl, HBwt_41.out⟩
        | true =>
          replace H := let_hid H
          obtain ⟨t_42, ht_42, H⟩ := H
          obtain rfl : t_42 = false := ht_42.symm
          go_region_held3 (fun w' => w'.cell? ⟨w.heap.size, 0, none⟩ = some (.int .i64 aS_id) ∧ w'.cell? ⟨w.heap.size, 1, none⟩ = some (.int .i64 aS_year) ∧ w'.cell? ⟨w.heap.size, 2, none⟩ = some (.string aS_town) ∧ w'.cell? ⟨w.heap.size, 3, none⟩ = some (.slice A0_3 aS_traits.length c0_3) ∧ w'.cell? ⟨wt_19.heap.size, 0, none⟩ = some (.int .i64 t_19_id) ∧ w'.cell? ⟨wt_19.heap.size, 1, none⟩ = some (.int .i64 t_19_year) ∧ w'.cell? ⟨wt_19.heap.size, 2, none⟩ = some (.string t_19_town) ∧ w'.cell? ⟨wt_19.heap.size, 3, none⟩ = some (.slice At_19_traits t_19_traits.length ct_19_traits)) (first | exact ⟨kaS_0_0__79, kaS_0_1__80, kaS_0_2__81, kaS_0_3__82, kx0_20_0, kx0_20_1, kx0_20_2, kx0_20_3⟩)
              (first
                | (go_at_call 6
                   refine (Go.Proofs.YtpaakpbbahbhcaaDoor.GlToSighting.C (aS_id) (aS_year) (aS_town) (aS_traits) A0_3 c0_3 _   (Lib.hid (Cells.below M0_3.out HBwt_23.drew.out)) N0_3 qt_40).mono ?_
                   rintro e_t_40 wt_40 ⟨At_40_traits, ct_40_traits, rfl, ot_40_traits, bt_40⟩
                   have Dt_40_traits_t_11_traits := Lib.hid (apart_call ot_40_traits Ot_11_traits.out)
                   have Dt_40_traits_t_19_traits := Lib.hid (apart_call ot_40_traits Ot_19_traits.out)
                   have Dt_40_traits_aS_0 := Lib.hid (apart_callbox ot_40_traits kaS_0_0__79)
                   have Dt_40_traits_x0_20 := Lib.hid (apart_callbox ot_40_traits kx0_20_0)
                   have Ot_40_traits := Lib.hid (own_lower ot_40_traits HBwt_23.drew.out.size)
                   clear ot_40_traits
                   have HBwt_40 := Lib.hid (Below.step HBwt_23.drew.out bt_40)
                   replace kaS_0_0__79 := cell_below bt_40 kaS_0_0__79
                   replace kaS_0_1__80 := cell_below bt_40 kaS_0_1__80
                   replace kaS_0_2__81 := cell_below bt_40 kaS_0_2__81
                   replace kaS_0_3__82 := cell_below bt_40 kaS_0_3__82
                   replace kx0_20_0 := cell_below bt_40 kx0_20_0
                   replace kx0_20_1 := cell_below bt_40 kx0_20_1
                   replace kx0_20_2 := cell_below bt_40 kx0_20_2
                   replace kx0_20_3 := cell_below bt_40 kx0_20_3
                   replace Ot_11_traits := Lib.hid (own_below Ot_11_traits.out bt_40)
                   replace Ot_19_traits := Lib.hid (own_below Ot_19_traits.out bt_40)
                   clear bt_40
                   clear qt_40)
                | (go_at_call 8
                   refine (Go.Proofs.YtpaakpbbahbhcaaDoor.GlEqSighting.C (t_19_id) (t_19_year) (t_19_town) (t_19_traits) (t_40_id) (t_40_year) (t_40_town) (t_40_traits) At_19_traits ct_19_traits At_40_traits ct_40_traits _   (Lib.hid (own_cells Ot_19_traits.out)) (Lib.hid (own_max Ot_19_traits.out)) (Lib.hid (own_cells Ot_40_traits.out)) (Lib.hid (own_max Ot_40_traits.out)) qt_41).mono ?_
                   rintro e_t_41 wt_41 ⟨rfl, bt_41⟩
                   have HBwt_41 := Lib.hid (Below.step HBwt_40.out bt_41)
                   replace kaS_0_0__79 := cell_below bt_41 kaS_0_0__79
                   replace kaS_0_1__80 := cell_below bt_41 kaS_0_1__80
                   replace kaS_0_2__81 := cell_below bt_41 kaS_0_2__81
                   replace kaS_0_3__82 := cell_below bt_41 kaS_0_3__82
                   replace kx0_20_0 := cell_below bt_41 kx0_20_0
                   replace kx0_20_1 := cell_below bt_41 kx0_20_1
                   replace kx0_20_2 := cell_below bt_41 kx0_20_2
                   replace kx0_20_3 := cell_below bt_41 kx0_20_3
                   replace Ot_11_traits := Lib.hid (own_below Ot_11_traits.out bt_41)
                   replace Ot_19_traits := Lib.hid (own_below Ot_19_traits.out bt_41)
                   replace Ot_40_traits := Lib.hid (own_below Ot_40_traits.out bt_41)
                   clear bt_41
                   clear qt_41))
          replace H := ite_f H
          obtain rfl := ret_hid H
          go_wp2_with fail
          go_ret
          exact ⟨rfl, HBwt_41.out⟩
      | true =>
        replace H := ite_t H
        obtain rfl := ret_hid H
        go_wp2_with fail
        go_ret
        exact ⟨rfl, HBwt_23.out⟩
    | true =>
      replace H := ite_t H
      replace H := app_hid H
      replace H := ite_t H
      obtain rfl := ret_hid H
      go_wp2_with fail
      go_ret
      exact ⟨rfl, HBwt_23.out⟩
  | true =>
    replace H := ite_t H
    obtain rfl := ret_hid H
    go_wp2_with fail
    go_ret
    exact ⟨rfl, HBwt_5.out⟩
end Go.Proofs.YtpaakpbbahbhcaaDoor.GlFnExactSightingText
