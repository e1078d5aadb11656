/- loop.example/g01062/laws.FnExactIsKindTable as a plain function, and the contract of the program's: where the plain one has an answer, the program has it. Conditions: slices read as lists. -/
import Derived.Test.YtekacbjnpeglhaaChecked
import Derived.Test.YtekacbjnpeglhaaGoM
import Derived.Test.YtekacbjnpeglhaaGoRBan
import Derived.Test.YtekacbjnpeglhaaGoRKindTable
import Derived.Test.YtekacbjnpeglhaaHelpInt
import Derived.Test.YtekacbjnpeglhaaPKindTable
import Derived.Test.YtekacbjnpeglhaaGlSzKindTable
import Derived.Test.YtekacbjnpeglhaaGlToKindTable
import Derived.Test.YtekacbjnpeglhaaGsIsKindTable
import Derived.Test.YtekacbjnpeglhaaGiIsKindTable
import Derived.Test.YtekacbjnpeglhaaGlEqKindTable
import Derived.WalkKit
import Derived.WalkSpells
import Derived.WalkLawsBesides
import Derived.BigQuiet
import Derived.OwnWalk
import Derived.Deep.LoopGhost
import Derived.Deep.QuietTactic
import Derived.IntWalk
import Derived.Lib.QuietBelow
import Derived.Deep.RegionHeld3
namespace Go.Proofs.Ytekacbjnpeglhaa.GlFnExactIsKindTable
set_option linter.unusedVariables false
set_option linter.unusedSimpArgs false
open Go.RowKit
open Go.Proofs.Ytekacbjnpeglhaa.Rowed Go.Proofs.Ytekacbjnpeglhaa.Turn Go.Proofs.Ytekacbjnpeglhaa.Aid Go.Proofs.Ytekacbjnpeglhaa.GoP Go.Proofs.Ytekacbjnpeglhaa.GoM

def P (fuel : Nat) (aT_sizes : (List Int)) (aT_bans : (List Go.Proofs.Ytekacbjnpeglhaa.PBan.Ban)) : Option (Bool) :=
  Option.bind (Go.Proofs.Ytekacbjnpeglhaa.GlSzKindTable.P aT_sizes aT_bans 1048576) fun (t_5 : Int) =>
  letK (decide (t_5 < 0)) fun (t_8 : Bool) =>
  iteK t_8
  (some true)
  (Option.bind (Go.Proofs.Ytekacbjnpeglhaa.GlToKindTable.P aT_sizes aT_bans) fun (t_11 : Go.Proofs.Ytekacbjnpeglhaa.PKindTable.KindTable) =>
  unKindTable t_11 fun (t_11_sizes : (List Int)) (t_11_bans : (List Go.Proofs.Ytekacbjnpeglhaa.PBan.Ban)) =>
  Option.bind (Go.Proofs.Ytekacbjnpeglhaa.GsIsKindTable.P fuel t_11_sizes t_11_bans) fun (t_12 : Bool) =>
  Option.bind (Go.Proofs.Ytekacbjnpeglhaa.GlToKindTable.P aT_sizes aT_bans) fun (t_15 : Go.Proofs.Ytekacbjnpeglhaa.PKindTable.KindTable) =>
  unKindTable t_15 fun (t_15_sizes : (List Int)) (t_15_bans : (List Go.Proofs.Ytekacbjnpeglhaa.PBan.Ban)) =>
  Option.bind (Go.Proofs.Ytekacbjnpeglhaa.GiIsKindTable.P t_15_sizes t_15_bans) fun (t_19 : Bool) =>
  letK (!(t_19 == t_12)) fun (t_23 : Bool) =>
  iteK t_23
  (some false)
  (Option.bind (Go.Proofs.Ytekacbjnpeglhaa.GlToKindTable.P aT_sizes aT_bans) fun (t_27 : Go.Proofs.Ytekacbjnpeglhaa.PKindTable.KindTable) =>
  unKindTable t_27 fun (t_27_sizes : (List Int)) (t_27_bans : (List Go.Proofs.Ytekacbjnpeglhaa.PBan.Ban)) =>
  Option.bind (Go.Proofs.Ytekacbjnpeglhaa.GlEqKindTable.P t_15_sizes t_15_bans t_27_sizes t_27_bans) fun (t_28 : Bool) =>
  letK (!t_28) fun (t_29 : Bool) =>
  iteK t_29
  (some false)
  (some true)))

set_option maxRecDepth 100000 in
set_option maxHeartbeats 2000000 in
theorem C (fuel : Nat) (aT_sizes : (List Int)) (aT_bans : (List Go.Proofs.Ytekacbjnpeglhaa.PBan.Ban)) (A0_0 : Option Addr) (c0_0 : Nat) (A0_1 : Option Addr) (c0_1 : Nat)  (w : World) (M0_0 : Hid (Cells w 1 A0_0 aT_sizes.length (Go.Proofs.Ytekacbjnpeglhaa.HelpInt.iv aT_sizes))) (N0_0 : Hid (aT_sizes.length ≤ 9223372036854775807)) (M0_1 : Hid (Cells w 4 A0_1 aT_bans.length (Go.Proofs.Ytekacbjnpeglhaa.PBan.flat aT_bans))) (N0_1 : Hid (aT_bans.length ≤ 9223372036854775807))  {r : Bool} (H : Hid (P fuel aT_sizes aT_bans = some r)) :
    Calls Try.prog 3 #[.agg #[.slice A0_0 aT_sizes.length c0_0, .slice A0_1 aT_bans.length c0_1]] w (Gives (.bool r) w) := by
  have HB := Lib.hid (Below.refl w.heap.size w)
  unfold P at H
  have N0_0o := N0_0.out
  have N0_1o := N0_1.out
  go_enter Try.func3, Try.ntmps3
  obtain ⟨w_aT_0, hw_aT_0⟩ : ∃ x, w.alloc (.cells #[.slice A0_0 aT_sizes.length c0_0, .slice A0_1 aT_bans.length c0_1] 25) = x := ⟨_, rfl⟩
  have bw_aT_0 : Below w.heap.size w w_aT_0 := by rw [← hw_aT_0]; exact (Below.refl _ _).alloc (Nat.le_refl _) _
  have HBw_aT_0 := Lib.hid (Below.step HB.out bw_aT_0)
  clear bw_aT_0
  have kaT_0_0 : w_aT_0.cell? ⟨w.heap.size, 0, none⟩ = some (.slice A0_0 aT_sizes.length c0_0) := by rw [← hw_aT_0]; exact box_new _ _ _ 0 _ rfl
  have kaT_0_1 : w_aT_0.cell? ⟨w.heap.size, 1, none⟩ = some (.slice A0_1 aT_bans.length c0_1) := by rw [← hw_aT_0]; exact box_new _ _ _ 1 _ rfl
  replace H := bind_hid H
  obtain ⟨t_5, qt_5, H⟩ := H
  go_wp2_with fail
  go_at_call 13
  refine (Go.Proofs.Ytekacbjnpeglhaa.GlSzKindTable.C (aT_sizes) (aT_bans) (1048576) A0_0 c0_0 A0_1 c0_1 _   (Lib.hid (Cells.below M0_0.out HBw_aT_0.out)) N0_0 (Lib.hid (Cells.below M0_1.out HBw_aT_0.out)) N0_1 qt_5).mono ?_
  rintro e_t_5 wt_5 ⟨rfl, bt_5⟩
  have HBwt_5 := Lib.hid (Below.step HBw_aT_0.out bt_5)
  replace kaT_0_0 := cell_below bt_5 kaT_0_0
  replace kaT_0_1 := cell_below bt_5 kaT_0_1
  clear bt_5
  replace H := let_hid H
  obtain ⟨t_8, ht_8, H⟩ := H
  cases t_8 with
  | false =>
    replace H := ite_f H
    replace H := bind_hid H
    obtain ⟨t_11, qt_11, H⟩ := H
    obtain ⟨t_11_sizes, t_11_bans⟩ := t_11
    replace H := unKindTable_hid H
    go_wp2_with fail
    go_at_call 15
    refine (Go.Proofs.Ytekacbjnpeglhaa.GlToKindTable.C (aT_sizes) (aT_bans) A0_0 c0_0 A0_1 c0_1 _   (Lib.hid (Cells.below M0_0.out HBwt_5.out)) N0_0 (Lib.hid (Cells.below M0_1.out HBwt_5.out)) N0_1 qt_11).mono ?_
    rintro e_t_11 wt_11 ⟨At_11_sizes, ct_11_sizes, At_11_bans, ct_11_bans, rfl, ot_11_sizes, ot_11_bans, d0_1, bt_11⟩
    have Dt_11_sizes_aT_0 := Lib.hid (apart_callbox ot_11_sizes kaT_0_0)
    have Dt_11_bans_aT_0 := Lib.hid (apart_callbox ot_11_bans kaT_0_0)
    have Dt_11_sizes_t_11_bans := Lib.hid d0_1
    have Ot_11_sizes := Lib.hid (own_lower ot_11_sizes HBwt_5.out.size)
    clear ot_11_sizes
    have Ot_11_bans := Lib.hid (own_lower ot_11_bans HBwt_5.out.size)
    clear ot_11_bans
    have HBwt_11 := Lib.hid (Below.step HBwt_5.out bt_11)
    replace kaT_0_0 := cell_below bt_11 kaT_0_0
    replace kaT_0_1 := cell_below bt_11 kaT_0_1
    clear bt_11
    replace H := bind_hid H
    obtain ⟨t_12, qt_12, H⟩ := H
    go_wp2_with fail
    go_at_call 14
    refine (Go.Proofs.Ytekacbjnpeglhaa.GsIsKindTable.C fuel (t_11_sizes) (t_11_bans) At_11_sizes ct_11_sizes At_11_bans ct_11_bans _   (Lib.hid (own_cells Ot_11_sizes.out)) (Lib.hid (own_max Ot_11_sizes.out)) (Lib.hid (own_cells Ot_11_bans.out)) (Lib.hid (own_max Ot_11_bans.out)) qt_12).mono ?_
    rintro e_t_12 wt_12 ⟨rfl, bt_12⟩
    have HBwt_12 := Lib.hid (Below.step HBwt_11.out bt_12)
    replace kaT_0_0 := cell_below bt_12 kaT_0_0
    replace kaT_0_1 := cell_below bt_12 kaT_0_1
    replace Ot_11_sizes := Lib.hid (own_below Ot_11_sizes.out bt_12)
    replace Ot_11_bans := Lib.hid (own_below Ot_11_bans.out bt_12)
    clear bt_12
    replace H := bind_hid H
    obtain ⟨t_15, qt_15, H⟩ := H
    obtain ⟨t_15_sizes, t_15_bans⟩ := t_15
    replace H := unKindTable_hid H
    go_wp2_with fail
    go_at_call 15
    refine (Go.Proofs.Ytekacbjnpeglhaa.GlToKindTable.C (aT_sizes) (aT_bans) A0_0 c0_0 A0_1 c0_1 _   (Lib.hid (Cells.below M0_0.out HBwt_12.out)) N0_0 (Lib.hid (Cells.below M0_1.out HBwt_12.out)) N0_1 qt_15).mono ?_
    rintro e_t_15 wt_15 ⟨At_15_sizes, ct_15_sizes, At_15_bans, ct_15_bans, rfl, ot_15_sizes, ot_15_bans, d0_1, bt_15⟩
    have Dt_15_sizes_t_11_sizes := Lib.hid (apart_call ot_15_sizes Ot_11_sizes.out)
    have Dt_15_sizes_t_11_bans := Lib.hid (apart_call ot_15_sizes Ot_11_bans.out)
    have Dt_15_sizes_aT_0 := Lib.hid (apart_callbox ot_15_sizes kaT_0_0)
    have Dt_15_bans_t_11_sizes := Lib.hid (apart_call ot_15_bans Ot_11_sizes.out)
    have Dt_15_bans_t_11_bans := Lib.hid (apart_call ot_15_bans Ot_11_bans.out)
    have Dt_15_bans_aT_0 := Lib.hid (apart_callbox ot_15_bans kaT_0_0)
    have Dt_15_sizes_t_15_bans := Lib.hid d0_1
    have Ot_15_sizes := Lib.hid (own_lower ot_15_sizes HBwt_12.out.size)
    clear ot_15_sizes
    have Ot_15_bans := Lib.hid (own_lower ot_15_bans HBwt_12.out.size)
    clear ot_15_bans
    have HBwt_15 := Lib.hid (Below.step HBwt_12.out bt_15)
    replace kaT_0_0 := cell_below bt_15 kaT_0_0
    replace kaT_0_1 := cell_below bt_15 kaT_0_1
    replace Ot_11_sizes := Lib.hid (own_below Ot_11_sizes.out bt_15)
    replace Ot_11_bans := Lib.hid (own_below Ot_11_bans.out bt_15)
    clear bt_15
    obtain ⟨w_x0_16, hw_x0_16⟩ : ∃ x, wt_15.alloc (.cells #[.slice At_15_sizes t_15_sizes.length ct_15_sizes, .slice At_15_bans t_15_bans.length ct_15_bans] 30) = x := ⟨_, rfl⟩
    have bw_x0_16 : Below wt_15.heap.size wt_15 w_x0_16 := by rw [← hw_x0_16]; exact (Below.refl _ _).alloc (Nat.le_refl _) _
    have Dx0_16_t_11_sizes := Lib.hid (apart_fresh Ot_11_sizes.out)
    have Dx0_16_t_11_bans := Lib.hid (apart_fresh Ot_11_bans.out)
    have Dx0_16_t_15_sizes := Lib.hid (apart_fresh Ot_15_sizes.out)
    have Dx0_16_t_15_bans := Lib.hid (apart_fresh Ot_15_bans.out)
    have HBw_x0_16 := Lib.hid (Below.step HBwt_15.out bw_x0_16)
    have kaT_0_0__200 := cell_below bw_x0_16 kaT_0_0
    have kaT_0_1__201 := cell_below bw_x0_16 kaT_0_1
    replace Ot_11_sizes := Lib.hid (own_below Ot_11_sizes.out bw_x0_16)
    replace Ot_11_bans := Lib.hid (own_below Ot_11_bans.out bw_x0_16)
    replace Ot_15_sizes := Lib.hid (own_below Ot_15_sizes.out bw_x0_16)
    replace Ot_15_bans := Lib.hid (own_below Ot_15_bans.out bw_x0_16)
    clear bw_x0_16
    have kx0_16_0 : w_x0_16.cell? ⟨wt_15.heap.size, 0, none⟩ = some (.slice At_15_sizes t_15_sizes.length ct_15_sizes) := by rw [← hw_x0_16]; exact box_new _ _ _ 0 _ rfl
    have kx0_16_1 : w_x0_16.cell? ⟨wt_15.heap.size, 1, none⟩ = some (.slice At_15_bans t_15_bans.length ct_15_bans) := by rw [← hw_x0_16]; exact box_new _ _ _ 1 _ rfl
    replace H := bind_hid H
    obtain ⟨t_19, qt_19, H⟩ := H
    go_wp2_with fail
    clear kaT_0_0 kaT_0_1
    go_at_call 16
    refine (Go.Proofs.Ytekacbjnpeglhaa.GiIsKindTable.C (t_15_sizes) (t_15_bans) At_15_sizes ct_15_sizes At_15_bans ct_15_bans _   (Lib.hid (own_cells Ot_15_sizes.out)) (Lib.hid (own_max Ot_15_sizes.out)) (Lib.hid (own_cells Ot_15_bans.out)) (Lib.hid (own_max Ot_15_bans.out)) qt_19).mono ?_
    rintro e_t_19 wt_19 ⟨rfl, bt_19⟩
    have HBwt_19 := Lib.hid (Below.step HBw_x0_16.out bt_19)
    replace kaT_0_0__200 := cell_below bt_19 kaT_0_0__200
    replace kaT_0_1__201 := cell_below bt_19 kaT_0_1__201
    replace kx0_16_0 := cell_below bt_19 kx0_16_0
    replace kx0_16_1 := cell_below bt_19 kx0_16_1
    replace Ot_11_sizes := Lib.hid (own_below Ot_11_sizes.out bt_19)
    replace Ot_11_bans := Lib.hid (own_below Ot_11_bans.out bt_19)
    replace Ot_15_sizes := Lib.hid (own_below Ot_15_sizes.out bt_19)
    replace Ot_15_bans := Lib.hid (own_below Ot_15_bans.out bt_19)
    clear bt_19
    replace H := let_hid H
    obtain ⟨t_23, ht_23, H⟩ := H
    cases t_23 with
    | false =>
      replace H := ite_f H
      go_wp2_with fail
      have bd10 : Below wt_19.heap.size wt_19 wt_19.drew := (Below.refl _ _).drew
      have HBwt_19.drew := Lib.hid (Below.step HBwt_19.out bd10)
      replace kaT_0_0__200 := cell_below bd10 kaT_0_0__200
      replace kaT_0_1__201 := cell_below bd10 kaT_0_1__201
      replace kx0_16_0 := cell_below bd10 kx0_16_0
      replace kx0_16_1 := cell_below bd10 kx0_16_1
      replace Ot_11_sizes := Lib.hid (own_below Ot_11_sizes.out bd10)
      replace Ot_11_bans := Lib.hid (own_below Ot_11_bans.out bd10)
      replace Ot_15_sizes := Lib.hid (own_below Ot_15_sizes.out bd10)
      replace Ot_15_bans := Lib.hid (own_below Ot_15_bans.out bd10)
      clear bd10
      replace H := bind_hid H
      obtain ⟨t_27, qt_27, H⟩ := H
      obtain ⟨t_27_sizes, t_27_bans⟩ := t_27
      replace H := unKindTable_hid H
      replace H := bind_hid H
      obtain ⟨t_28, qt_28, H⟩ := H
      cases t_28 with
      | false =>
        replace H := let_hid H
        obtain ⟨t_29, ht_29, H⟩ := H
        obtain rfl : t_29 = true := ht_29.symm
        go_region_held3 (fun w' => w'.cell? ⟨w.heap.size, 0, none⟩ = some (.slice A0_0 aT_sizes.length c0_0) ∧ w'.cell? ⟨w.heap.size, 1, none⟩ = some (.slice A0_1 aT_bans.length c0_1) ∧ w'.cell? ⟨wt_15.heap.size, 0, none⟩ = some (.slice At_15_sizes t_15_sizes.length ct_15_sizes) ∧ w'.cell? ⟨wt_15.heap.size, 1, none⟩ = some (.slice At_15_bans t_15_bans.length ct_15_bans)) (first | exact ⟨kaT_0_0__200, kaT_0_1__201, kx0_16_0, kx0_16_1⟩)
            (first
              | (go_at_call 15
                 refine (Go.Proofs.Ytekacbjnpeglhaa.GlToKindTable.C (aT_sizes) (aT_bans) A0_0 c0_0 A0_1 c0_1 _   (Lib.hid (Cells.below M0_0.out HBwt_19.drew.out)) N0_0 (Lib.hid (Cells.below M0_1.out HBwt_19.drew.out)) N0_1 qt_27).mono ?_
                 rintro e_t_27 wt_27 ⟨At_27_sizes, ct_27_sizes, At_27_bans, ct_27_bans, rfl, ot_27_sizes, ot_27_bans, d0_1, bt_27⟩
                 have Dt_27_sizes_t_11_sizes := Lib.hid (apart_call ot_27_sizes Ot_11_sizes.out)
                 have Dt_27_sizes_t_11_bans := Lib.hid (apart_call ot_27_sizes Ot_11_bans.out)
                 have Dt_27_sizes_t_15_sizes := Lib.hid (apart_call ot_27_sizes Ot_15_sizes.out)
                 have Dt_27_sizes_t_15_bans := Lib.hid (apart_call ot_27_sizes Ot_15_bans.out)
                 have Dt_27_sizes_aT_0 := Lib.hid (apart_callbox ot_27_sizes kaT_0_0__200)
                 have Dt_27_sizes_x0_16 := Lib.hid (apart_callbox ot_27_sizes kx0_16_0)
                 have Dt_27_bans_t_11_sizes := Lib.hid (apart_call ot_27_bans Ot_11_sizes.out)
                 have Dt_27_bans_t_11_bans := Lib.hid (apart_call ot_27_bans Ot_11_bans.out)
                 have Dt_27_bans_t_15_sizes := Lib.hid (apart_call ot_27_bans Ot_15_sizes.out)
                 have Dt_27_bans_t_15_bans := Lib.hid (apart_call ot_27_bans Ot_15_bans.out)
                 have Dt_27_bans_aT_0 := Lib.hid (apart_callbox ot_27_bans kaT_0_0__200)
                 have Dt_27_bans_x0_16 := Lib.hid (apart_callbox ot_27_bans kx0_16_0)
                 have Dt_27_sizes_t_27_bans := Lib.hid d0_1
                 have Ot_27_sizes := Lib.hid (own_lower ot_27_sizes HBwt_19.drew.out.size)
                 clear ot_27_sizes
                 have Ot_27_bans := Lib.hid (own_lower ot_27_bans HBwt_19.drew.out.size)
                 clear ot_27_bans
                 have HBwt_27 := Lib.hid (Below.step HBwt_19.drew.out bt_27)
                 replace kaT_0_0__200 := cell_below bt_27 kaT_0_0__200
                 replace kaT_0_1__201 := cell_below bt_27 kaT_0_1__201
                 replace kx0_16_0 := cell_below bt_27 kx0_16_0
                 replace kx0_16_1 := cell_below bt_27 kx0_16_1
                 replace Ot_11_sizes := Lib.hid (own_below Ot_11_sizes.out bt_27)
                 replace Ot_11_bans := Lib.hid (own_below Ot_11_bans.out bt_27)
                 replace Ot_15_sizes := Lib.hid (own_below Ot_15_sizes.out bt_27)
                 replace Ot_15_bans := Lib.hid (own_below Ot_15_bans.out bt_27)
                 clear bt_27
                 clear qt_27)
              | (go_at_call 17
                 refine (Go.Proofs.Ytekacbjnpeglhaa.GlEqKindTable.C (t_15_sizes) (t_15_bans) (t_27_sizes) (t_27_bans) At_15_sizes ct_15_sizes At_15_bans ct_15_bans At_27_sizes ct_27_sizes At_27_bans ct_27_bans _   (Lib.hid (own_cells Ot_15_sizes.out)) (Lib.hid (own_max Ot_15_sizes.out)) (Lib.hid (own_cells Ot_15_bans.out)) (Lib.hid (own_max Ot_15_bans.out)) (Lib.hid (own_cells Ot_27_sizes.out)) (Lib.hid (own_max Ot_27_sizes.out)) (Lib.hid (own_cells Ot_27_bans.out)) (Lib.hid (own_max Ot_27_bans.out)) qt_28).mono ?_
                 rintro e_t_28 wt_28 ⟨rfl, bt_28⟩
                 have HBwt_28 := Lib.hid (Below.step HBwt_27.out bt_28)
                 replace kaT_0_0__200 := cell_below bt_28 kaT_0_0__200
                 replace kaT_0_1__201 := cell_below bt_28 kaT_0_1__201
                 replace kx0_16_0 := cell_below bt_28 kx0_16_0
                 replace kx0_16_1 := cell_below bt_28 kx0_16_1
                 replace Ot_11_sizes := Lib.hid (own_below Ot_11_sizes.out bt_28)
                 replace Ot_11_bans := Lib.hid (own_below Ot_11_bans.out bt_28)
                 replace Ot_15_sizes := Lib.hid (own_below Ot_15_sizes.out bt_28)
                 replace Ot_15_bans := Lib.hid (own_below Ot_15_bans.out bt_28)
                 replace Ot_27_sizes := Lib.hid (own_below Ot_27_sizes.out bt_28)
                 replace Ot_27_bans := Lib.hid (own_below Ot_27_bans.out bt_28)
                 clear bt_28
                 clear qt_28))
        replace H := ite_t H
        obtain rfl := ret_hid H
        go_wp2_with fail
        go_ret
        exact ⟨rfl, HBwt_28.out⟩
      | true =>
        replace H := let_hid H
        obtain ⟨t_29, ht_29, H⟩ := H
        obtain rfl : t_29 = false := ht_29.symm
        go_region_held3 (fun w' => w'.cell? ⟨w.heap.size, 0, none⟩ = some (.slice A0_0 aT_sizes.length c0_0) ∧ w'.cell? ⟨w.heap.size, 1, none⟩ = some (.slice A0_1 aT_bans.length c0_1) ∧ w'.cell? ⟨wt_15.heap.size, 0, none⟩ = some (.slice At_15_sizes t_15_sizes.length ct_15_sizes) ∧ w'.cell? ⟨wt_15.heap.size, 1, none⟩ = some (.slice At_15_bans t_15_bans.length ct_15_bans)) (first | exact ⟨kaT_0_0__200, kaT_0_1__201, kx0_16_0, kx0_16_1⟩)
            (first
              | (go_at_call 15
                 refine (Go.Proofs.Ytekacbjnpeglhaa.GlToKindTable.C (aT_sizes) (aT_bans) A0_0 c0_0 A0_1 c0_1 _   (Lib.hid (Cells.below M0_0.out HBwt_19.drew.out)) N0_0 (Lib.hid (Cells.below M0_1.out HBwt_19.drew.out)) N0_1 qt_27).mono ?_
                 rintro e_t_27 wt_27 ⟨At_27_sizes, ct_27_sizes, At_27_bans, ct_27_bans, rfl, ot_27_sizes, ot_27_bans, d0_1, bt_27⟩
                 have Dt_27_sizes_t_11_sizes := Lib.hid (apart_call ot_27_sizes Ot_11_sizes.out)
                 have Dt_27_sizes_t_11_bans := Lib.hid (apart_call ot_27_sizes Ot_11_bans.out)
                 have Dt_27_sizes_t_15_sizes := Lib.hid (apart_call ot_27_sizes Ot_15_sizes.out)
                 have Dt_27_sizes_t_15_bans := Lib.hid (apart_call ot_27_sizes Ot_15_bans.out)
                 have Dt_27_sizes_aT_0 := Lib.hid (apart_callbox ot_27_sizes kaT_0_0__200)
                 have Dt_27_sizes_x0_16 := Lib.hid (apart_callbox ot_27_sizes kx0_16_0)
                 have Dt_27_bans_t_11_sizes := Lib.hid (apart_call ot_27_bans Ot_11_sizes.out)
                 have Dt_27_bans_t_11_bans := Lib.hid (apart_call ot_27_bans Ot_11_bans.out)
                 have Dt_27_bans_t_15_sizes := Lib.hid (apart_call ot_27_bans Ot_15_sizes.out)
                 have Dt_27_bans_t_15_bans := Lib.hid (apart_call ot_27_bans Ot_15_bans.out)
                 have Dt_27_bans_aT_0 := Lib.hid (apart_callbox ot_27_bans kaT_0_0__200)
                 have Dt_27_bans_x0_16 := Lib.hid (apart_callbox ot_27_bans kx0_16_0)
                 have Dt_27_sizes_t_27_bans := Lib.hid d0_1
                 have Ot_27_sizes := Lib.hid (own_lower ot_27_sizes HBwt_19.drew.out.size)
                 clear ot_27_sizes
                 have Ot_27_bans := Lib.hid (own_lower ot_27_bans HBwt_19.drew.out.size)
                 clear ot_27_bans
                 have HBwt_27 := Lib.hid (Below.step HBwt_19.drew.out bt_27)
                 replace kaT_0_0__200 := cell_below bt_27 kaT_0_0__200
                 replace kaT_0_1__201 := cell_below bt_27 kaT_0_1__201
                 replace kx0_16_0 := cell_below bt_27 kx0_16_0
                 replace kx0_16_1 := cell_below bt_27 kx0_16_1
                 replace Ot_11_sizes := Lib.hid (own_below Ot_11_sizes.out bt_27)
                 replace Ot_11_bans := Lib.hid (own_below Ot_11_bans.out bt_27)
                 replace Ot_15_sizes := Lib.hid (own_below Ot_15_sizes.out bt_27)
                 replace Ot_15_bans := Lib.hid (own_below Ot_15_bans.out bt_27)
                 clear bt_27
                 clear qt_27)
              | (go_at_call 17
                 refine (Go.Proofs.Ytekacbjnpeglhaa.GlEqKindTable.C (t_15_sizes) (t_15_bans) (t_27_sizes) (t_27_bans) At_15_sizes ct_15_sizes At_15_bans ct_15_bans At_27_sizes ct_27_sizes At_27_bans ct_27_bans _   (Lib.hid (own_cells Ot_15_sizes.out)) (Lib.hid (own_max Ot_15_sizes.out)) (Lib.hid (own_cells Ot_15_bans.out)) (Lib.hid (own_max Ot_15_bans.out)) (Lib.hid (own_cells Ot_27_sizes.out)) (Lib.hid (own_max Ot_27_sizes.out)) (Lib.hid (own_cells Ot_27_bans.out)) (Lib.hid (own_max Ot_27_bans.out)) qt_28).mono ?_
                 rintro e_t_28 wt_28 ⟨rfl, bt_28⟩
                 have HBwt_28 := Lib.hid (Below.step HBwt_27.out bt_28)
                 replace kaT_0_0__200 := cell_below bt_28 kaT_0_0__200
                 replace kaT_0_1__201 := cell_below bt_28 kaT_0_1__201
                 replace kx0_16_0 := cell_below bt_28 kx0_16_0
                 replace kx0_16_1 := cell_below bt_28 kx0_16_1
                 replace Ot_11_sizes := Lib.hid (own_below Ot_11_sizes.out bt_28)
                 replace Ot_11_bans := Lib.hid (own_below Ot_11_bans.out bt_28)
                 replace Ot_15_sizes := Lib.hid (own_below Ot_15_sizes.out bt_28)
                 replace Ot_15_bans := Lib.hid (own_below Ot_15_bans.out bt_28)
                 replace Ot_27_sizes := Lib.hid (own_below Ot_27_sizes.out bt_28)
                 replace Ot_27_bans := Lib.hid (own_below Ot_27_bans.out bt_28)
                 clear bt_28
                 clear qt_28))
        replace H := ite_f H
        obtain rfl := ret_hid H
        go_wp2_with fail
        go_ret
        exact ⟨rfl, HBwt_28.out⟩
    | true =>
      replace H := ite_t H
      obtain rfl := ret_hid H
      go_wp2_with fail
      go_ret
      exact ⟨rfl, HBwt_19.out⟩
  | true =>
    replace H := ite_t H
    obtain rfl := ret_hid H
    go_wp2_with fail
    go_ret
    exact ⟨rfl, HBwt_5.out⟩
end Go.Proofs.Ytekacbjnpeglhaa.GlFnExactIsKindTable
