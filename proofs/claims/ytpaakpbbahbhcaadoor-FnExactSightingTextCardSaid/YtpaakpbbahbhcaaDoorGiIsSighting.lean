/- loop.example/g01062/impl.isSighting as a plain function, and the contract of the program's: where the plain one has an answer, the program has it. Conditions: slices read as lists. -/
import Derived.Test.YtpaakpbbahbhcaaDoorChecked
import Derived.Test.YtpaakpbbahbhcaaDoorGoM
import Derived.Test.YtpaakpbbahbhcaaDoorGoRSighting
import Derived.Test.YtpaakpbbahbhcaaDoorHelpInt
import Derived.Test.YtpaakpbbahbhcaaDoorGiWithin
import Derived.Test.YtpaakpbbahbhcaaDoorGiIsWord
import Derived.Test.YtpaakpbbahbhcaaDoorGiAreTraits
import Derived.WalkKit
import Derived.WalkSpells
import Derived.WalkLawsBesides
import Derived.BigQuiet
import Derived.OwnWalk
import Derived.Deep.LoopGhost
import Derived.Deep.QuietTactic
import Derived.IntWalk
import Derived.Lib.QuietBelow
namespace Go.Proofs.YtpaakpbbahbhcaaDoor.GiIsSighting
set_option linter.unusedVariables false
set_option linter.unusedSimpArgs false
open Go.RowKit
open Go.Proofs.YtpaakpbbahbhcaaDoor.Rowed Go.Proofs.YtpaakpbbahbhcaaDoor.Turn Go.Proofs.YtpaakpbbahbhcaaDoor.Aid Go.Proofs.YtpaakpbbahbhcaaDoor.GoP Go.Proofs.YtpaakpbbahbhcaaDoor.GoM

def P (s_0_id : Int) (s_0_year : Int) (s_0_town : ByteArray) (s_0_traits : (List Int)) : Option (Bool) :=
  Option.bind (Go.Proofs.YtpaakpbbahbhcaaDoor.GiWithin.P s_0_id 1 999) fun (t_4 : Bool) =>
  joinK (fun (t_9 : Bool) =>
  joinK (fun (t_14 : Bool) =>
  joinK (fun (t_19 : Bool) =>
  some t_19) fun jt_19 => iteK t_14 (Option.bind (Go.Proofs.YtpaakpbbahbhcaaDoor.GiAreTraits.P s_0_traits) fun (t_18 : Bool) =>
  appK jt_19 t_18) (appK jt_19 false)) fun jt_14 => iteK t_9 (Option.bind (Go.Proofs.YtpaakpbbahbhcaaDoor.GiIsWord.P s_0_town) fun (t_13 : Bool) =>
  appK jt_14 t_13) (appK jt_14 false)) fun jt_9 => iteK t_4 (Option.bind (Go.Proofs.YtpaakpbbahbhcaaDoor.GiWithin.P s_0_year 1840 2100) fun (t_8 : Bool) =>
  appK jt_9 t_8) (appK jt_9 false)

set_option maxRecDepth 100000 in
set_option maxHeartbeats 2000000 in
theorem C (s_0_id : Int) (s_0_year : Int) (s_0_town : ByteArray) (s_0_traits : (List Int)) (A0_3 : Option Addr) (c0_3 : Nat)  (w : World) (M0_3 : Hid (Cells w 1 A0_3 s_0_traits.length (Go.Proofs.YtpaakpbbahbhcaaDoor.HelpInt.iv s_0_traits))) (N0_3 : Hid (s_0_traits.length ≤ 9223372036854775807))  {r : Bool} (H : Hid (P s_0_id s_0_year s_0_town s_0_traits = some r)) :
    Calls Tryd.prog 13 #[.agg #[.int .i64 s_0_id, .int .i64 s_0_year, .string s_0_town, .slice A0_3 s_0_traits.length c0_3]] w (Gives (.bool r) w) := by
  have HB := Lib.hid (Below.refl w.heap.size w)
  unfold P at H
  have N0_3o := N0_3.out
  go_enter Tryd.func13, Tryd.ntmps13
  obtain ⟨w_s_0, hw_s_0⟩ : ∃ x, w.alloc (.cells #[.int .i64 s_0_id, .int .i64 s_0_year, .string s_0_town, .slice A0_3 s_0_traits.length c0_3] 28) = x := ⟨_, rfl⟩
  have bw_s_0 : Below w.heap.size w w_s_0 := by rw [← hw_s_0]; exact (Below.refl _ _).alloc (Nat.le_refl _) _
  have HBw_s_0 := Lib.hid (Below.step HB.out bw_s_0)
  clear bw_s_0
  have ks_0_0 : w_s_0.cell? ⟨w.heap.size, 0, none⟩ = some (.int .i64 s_0_id) := by rw [← hw_s_0]; exact box_new _ _ _ 0 _ rfl
  have ks_0_1 : w_s_0.cell? ⟨w.heap.size, 1, none⟩ = some (.int .i64 s_0_year) := by rw [← hw_s_0]; exact box_new _ _ _ 1 _ rfl
  have ks_0_2 : w_s_0.cell? ⟨w.heap.size, 2, none⟩ = some (.string s_0_town) := by rw [← hw_s_0]; exact box_new _ _ _ 2 _ rfl
  have ks_0_3 : w_s_0.cell? ⟨w.heap.size, 3, none⟩ = some (.slice A0_3 s_0_traits.length c0_3) := by rw [← hw_s_0]; exact box_new _ _ _ 3 _ rfl
  replace H := bind_hid H
  obtain ⟨t_4, qt_4, H⟩ := H
  go_wp2_with fail
  go_at_call 19
  refine (Go.Proofs.YtpaakpbbahbhcaaDoor.GiWithin.C (s_0_id) (1) (999)  _    qt_4).mono ?_
  rintro e_t_4 wt_4 ⟨rfl, bt_4⟩
  have HBwt_4 := Lib.hid (Below.step HBw_s_0.out bt_4)
  replace ks_0_0 := cell_below bt_4 ks_0_0
  replace ks_0_1 := cell_below bt_4 ks_0_1
  replace ks_0_2 := cell_below bt_4 ks_0_2
  replace ks_0_3 := cell_below bt_4 ks_0_3
  clear bt_4
  replace H := join_hid H
  cases t_4 with
  | false =>
    replace H := ite_f H
    replace H := app_hid H
    replace H := join_hid H
    replace H := ite_f H
    replace H := app_hid H
    replace H := join_hid H
    replace H := ite_f H
    replace H := app_hid H
    obtain rfl := ret_hid H
    go_wp2_with fail
    go_ret
    exact ⟨rfl, HBwt_4.out⟩
  | true =>
    replace H := ite_t H
    replace H := bind_hid H
    obtain ⟨t_8, qt_8, H⟩ := H
    go_wp2_with fail
    go_at_call 19
    refine (Go.Proofs.YtpaakpbbahbhcaaDoor.GiWithin.C (s_0_year) (1840) (2100)  _    qt_8).mono ?_
    rintro e_t_8 wt_8 ⟨rfl, bt_8⟩
    have HBwt_8 := Lib.hid (Below.step HBwt_4.out bt_8)
    replace ks_0_0 := cell_below bt_8 ks_0_0
    replace ks_0_1 := cell_below bt_8 ks_0_1
    replace ks_0_2 := cell_below bt_8 ks_0_2
    replace ks_0_3 := cell_below bt_8 ks_0_3
    clear bt_8
    replace H := app_hid H
    replace H := join_hid H
    cases t_8 with
    | false =>
      replace H := ite_f H
      replace H := app_hid H
      replace H := join_hid H
      replace H := ite_f H
      replace H := app_hid H
      obtain rfl := ret_hid H
      go_wp2_with fail
      go_ret
      exact ⟨rfl, HBwt_8.out⟩
    | true =>
      replace H := ite_t H
      replace H := bind_hid H
      obtain ⟨t_13, qt_13, H⟩ := H
      go_wp2_with fail
      go_at_call 20
      refine (Go.Proofs.YtpaakpbbahbhcaaDoor.GiIsWord.C (s_0_town)  _    qt_13).mono ?_
      rintro e_t_13 wt_13 ⟨rfl, bt_13⟩
      have HBwt_13 := Lib.hid (Below.step HBwt_8.out bt_13)
      replace ks_0_0 := cell_below bt_13 ks_0_0
      replace ks_0_1 := cell_below bt_13 ks_0_1
      replace ks_0_2 := cell_below bt_13 ks_0_2
      replace ks_0_3 := cell_below bt_13 ks_0_3
      clear bt_13
      replace H := app_hid H
      replace H := join_hid H
      cases t_13 with
      | false =>
        replace H := ite_f H
        replace H := app_hid H
        obtain rfl := ret_hid H
        go_wp2_with fail
        go_ret
        exact ⟨rfl, HBwt_13.out⟩
      | true =>
        replace H := ite_t H
        replace H := bind_hid H
        obtain ⟨t_18, qt_18, H⟩ := H
        go_wp2_with fail
        go_at_call 21
        refine (Go.Proofs.YtpaakpbbahbhcaaDoor.GiAreTraits.C (s_0_traits) A0_3 c0_3 _   (Lib.hid (Cells.below M0_3.out HBwt_13.out)) N0_3 qt_18).mono ?_
        rintro e_t_18 wt_18 ⟨rfl, bt_18⟩
        have HBwt_18 := Lib.hid (Below.step HBwt_13.out bt_18)
        replace ks_0_0 := cell_below bt_18 ks_0_0
        replace ks_0_1 := cell_below bt_18 ks_0_1
        replace ks_0_2 := cell_below bt_18 ks_0_2
        replace ks_0_3 := cell_below bt_18 ks_0_3
        clear bt_18
        replace H := app_hid H
        obtain rfl := ret_hid H
        go_wp2_with fail
        go_ret
        exact ⟨rfl, HBwt_18.out⟩
end Go.Proofs.YtpaakpbbahbhcaaDoor.GiIsSighting
