/- loop.example/g01062/spec.l13One as a plain function, and the contract of the program's: where the plain one has an answer, the program has it. Conditions: slices read as lists. -/
import Derived.Test.YtpaakpbbahbhcaaDoorChecked
import Derived.Test.YtpaakpbbahbhcaaDoorGoM
import Derived.Test.YtpaakpbbahbhcaaDoorGoRSighting
import Derived.Test.YtpaakpbbahbhcaaDoorHelpInt
import Derived.Test.YtpaakpbbahbhcaaDoorGsL1In
import Derived.Test.YtpaakpbbahbhcaaDoorGsL2Word
import Derived.Test.YtpaakpbbahbhcaaDoorGsL1Rising
import Derived.WalkKit
import Derived.WalkSpells
import Derived.WalkLawsBesides
import Derived.BigQuiet
import Derived.OwnWalk
import Derived.Deep.LoopGhost
import Derived.Deep.QuietTactic
import Derived.IntWalk
import Derived.Lib.QuietBelow
namespace Go.Proofs.YtpaakpbbahbhcaaDoor.GsL13One
set_option linter.unusedVariables false
set_option linter.unusedSimpArgs false
open Go.RowKit
open Go.Proofs.YtpaakpbbahbhcaaDoor.Rowed Go.Proofs.YtpaakpbbahbhcaaDoor.Turn Go.Proofs.YtpaakpbbahbhcaaDoor.Aid Go.Proofs.YtpaakpbbahbhcaaDoor.GoP Go.Proofs.YtpaakpbbahbhcaaDoor.GoM

def P (s_0_id : Int) (s_0_year : Int) (s_0_town : ByteArray) (s_0_traits : (List Int)) : Option (Bool) :=
  Option.bind (Go.Proofs.YtpaakpbbahbhcaaDoor.GsL1In.P s_0_id 1 999) fun (t_4 : Bool) =>
  joinK (fun (t_9 : Bool) =>
  joinK (fun (t_14 : Bool) =>
  joinK (fun (t_20 : Bool) =>
  joinK (fun (t_25 : Bool) =>
  some t_25) fun jt_25 => iteK t_20 (Option.bind (Go.Proofs.YtpaakpbbahbhcaaDoor.GsL1Rising.P s_0_traits 1 50) fun (t_24 : Bool) =>
  appK jt_25 t_24) (appK jt_25 false)) fun jt_20 => iteK t_14 (letK (decide ((s_0_traits.length : Int) ≤ 8)) fun (t_19 : Bool) =>
  appK jt_20 t_19) (appK jt_20 false)) fun jt_14 => iteK t_9 (Option.bind (Go.Proofs.YtpaakpbbahbhcaaDoor.GsL2Word.P s_0_town) fun (t_13 : Bool) =>
  appK jt_14 t_13) (appK jt_14 false)) fun jt_9 => iteK t_4 (Option.bind (Go.Proofs.YtpaakpbbahbhcaaDoor.GsL1In.P s_0_year 1840 2100) fun (t_8 : Bool) =>
  appK jt_9 t_8) (appK jt_9 false)

set_option maxRecDepth 100000 in
set_option maxHeartbeats 2000000 in
theorem C (s_0_id : Int) (s_0_year : Int) (s_0_town : ByteArray) (s_0_traits : (List Int)) (A0_3 : Option Addr) (c0_3 : Nat)  (w : World) (M0_3 : Hid (Cells w 1 A0_3 s_0_traits.length (Go.Proofs.YtpaakpbbahbhcaaDoor.HelpInt.iv s_0_traits))) (N0_3 : Hid (s_0_traits.length ≤ 9223372036854775807))  {r : Bool} (H : Hid (P s_0_id s_0_year s_0_town s_0_traits = some r)) :
    Calls Tryd.prog 10 #[.agg #[.int .i64 s_0_id, .int .i64 s_0_year, .string s_0_town, .slice A0_3 s_0_traits.length c0_3]] w (Gives (.bool r) w) := by
  have HB := Lib.hid (Below.refl w.heap.size w)
  unfold P at H
  have N0_3o := N0_3.out
  go_enter Tryd.func10, Tryd.ntmps10
  obtain ⟨w_s_0, hw_s_0⟩ : ∃ x, w.alloc (.cells #[.int .i64 s_0_id, .int .i64 s_0_year, .string s_0_town, .slice A0_3 s_0_traits.length c0_3] 28) = x := ⟨_, rfl⟩
  have bw_s_0 : Below w.heap.size w w_s_0 := by rw [← hw_s_0]; exact (Below.refl _ _).alloc (Nat.le_refl _) _
  have HBw_s_0 := Lib.hid (Below.step HB.out bw_s_0)
  clear bw_s_0
  have ks_0_0 : w_s_0.cell? ⟨w.heap.size, 0, none⟩ = some (.int .i64 s_0_id) := by rw [← hw_s_0]; exact box_new _ _ _ 0 _ rfl
  have ks_0_1 : w_s_0.cell? ⟨w.heap.size, 1, none⟩ = some (.int .i64 s_0_year) := by rw [← hw_s_0]; exact box_new _ _ _ 1 _ rfl
  have ks_0_2 : w_s_0.cell? ⟨w.heap.size, 2, none⟩ = some (.string s_0_town) := by rw [← hw_s_0]; exact box_new _ _ _ 2 _ rfl
  have ks_0_3 : w_s_0.cell? ⟨w.heap.size, 3, none⟩ = some (.slice A0_3 s_0_traits.length c0_3) := by rw [← hw_s_0]; exact box_new _ _ _ 3 _ rfl
  replace H := bind_hid H
  obtain ⟨t_4, qt_4, H⟩ := H
  go_wp2_with fail
  go_at_call 16
  refine (Go.Proofs.YtpaakpbbahbhcaaDoor.GsL1In.C (s_0_id) (1) (999)  _    qt_4).mono ?_
  rintro e_t_4 wt_4 ⟨rfl, bt_4⟩
  have HBwt_4 := Lib.hid (Below.step HBw_s_0.out bt_4)
  replace ks_0_0 := cell_below bt_4 ks_0_0
  replace ks_0_1 := cell_below bt_4 ks_0_1
  replace ks_0_2 := cell_below bt_4 ks_0_2
  replace ks_0_3 := cell_below bt_4 ks_0_3
  clear bt_4
  replace H := join_hid H
  cases t_4 with
  | false =>
    replace H := ite_f H
    replace H := app_hid H
    replace H := join_hid H
    replace H := ite_f H
    replace H := app_hid H
    replace H := join_hid H
    replace H := ite_f H
    replace H := app_hid H
    replace H := join_hid H
    replace H := ite_f H
    replace H := app_hid H
    obtain rfl := ret_hid H
    go_wp2_with fail
    go_ret
    exact ⟨rfl, HBwt_4.out⟩
  | true =>
    replace H := ite_t H
    replace H := bind_hid H
    obtain ⟨t_8, qt_8, H⟩ := H
    go_wp2_with fail
    go_at_call 16
    refine (Go.Proofs.YtpaakpbbahbhcaaDoor.GsL1In.C (s_0_year) (1840) (2100)  _    qt_8).mono ?_
    rintro e_t_8 wt_8 ⟨rfl, bt_8⟩
    have HBwt_8 := Lib.hid (Below.step HBwt_4.out bt_8)
    replace ks_0_0 := cell_below bt_8 ks_0_0
    replace ks_0_1 := cell_below bt_8 ks_0_1
    replace ks_0_2 := cell_below bt_8 ks_0_2
    replace ks_0_3 := cell_below bt_8 ks_0_3
    clear bt_8
    replace H := app_hid H
    replace H := join_hid H
    cases t_8 with
    | false =>
      replace H := ite_f H
      replace H := app_hid H
      replace H := join_hid H
      replace H := ite_f H
      replace H := app_hid H
      replace H := join_hid H
      replace H := ite_f H
      replace H := app_hid H
      obtain rfl := ret_hid H
      go_wp2_with fail
      go_ret
      exact ⟨rfl, HBwt_8.out⟩
    | true =>
      replace H := ite_t H
      replace H := bind_hid H
      obtain ⟨t_13, qt_13, H⟩ := H
      go_wp2_with fail
      go_at_call 17
      refine (Go.Proofs.YtpaakpbbahbhcaaDoor.GsL2Word.C (s_0_town)  _    qt_13).mono ?_
      rintro e_t_13 wt_13 ⟨rfl, bt_13⟩
      have HBwt_13 := Lib.hid (Below.step HBwt_8.out bt_13)
      replace ks_0_0 := cell_below bt_13 ks_0_0
      replace ks_0_1 := cell_below bt_13 ks_0_1
      replace ks_0_2 := cell_below bt_13 ks_0_2
      replace ks_0_3 := cell_below bt_13 ks_0_3
      clear bt_13
      replace H := app_hid H
      replace H := join_hid H
      cases t_13 with
      | false =>
        replace H := ite_f H
        replace H := app_hid H
        replace H := join_hid H
        replace H := ite_f H
        replace H := app_hid H
        obtain rfl := ret_hid H
        go_wp2_with fail
        go_ret
        exact ⟨rfl, HBwt_13.out⟩
      | true =>
        replace H := ite_t H
        replace H := let_hid H
        obtain ⟨t_19, ht_19, H⟩ := H
        replace H := app_hid H
        cases t_19 with
        | false =>
          have nht_19 : ¬ (s_0_traits.length ≤ 8) := by have := of_decide_eq_false ht_19; omega
          replace H := join_hid H
          replace H := ite_f H
          replace H := app_hid H
          obtain rfl := ret_hid H
          go_wp2_with fail
          go_ret
          exact ⟨rfl, HBwt_13.out⟩
        | true =>
          have nht_19 : s_0_traits.length ≤ 8 := by have := of_decide_eq_true ht_19; omega
          replace H := join_hid H
          replace H := ite_t H
          replace H := bind_hid H
          obtain ⟨t_24, qt_24, H⟩ := H
          go_wp2_with fail
          go_at_call 18
          refine (Go.Proofs.YtpaakpbbahbhcaaDoor.GsL1Rising.C (s_0_traits) (1) (50) A0_3 c0_3 _   (Lib.hid (Cells.below M0_3.out HBwt_13.out)) N0_3 qt_24).mono ?_
          rintro e_t_24 wt_24 ⟨rfl, bt_24⟩
          have HBwt_24 := Lib.hid (Below.step HBwt_13.out bt_24)
          replace ks_0_0 := cell_below bt_24 ks_0_0
          replace ks_0_1 := cell_below bt_24 ks_0_1
          replace ks_0_2 := cell_below bt_24 ks_0_2
          replace ks_0_3 := cell_below bt_24 ks_0_3
          clear bt_24
          replace H := app_hid H
          obtain rfl := ret_hid H
          go_wp2_with fail
          go_ret
          exact ⟨rfl, HBwt_24.out⟩
end Go.Proofs.YtpaakpbbahbhcaaDoor.GsL13One
