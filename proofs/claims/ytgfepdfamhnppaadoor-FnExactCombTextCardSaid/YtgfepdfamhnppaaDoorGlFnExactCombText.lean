/- loop.example/g01062/laws.FnExactCombText as a plain function, and the contract of the program's: where the plain one has an answer, the program has it. Conditions: slices read as lists. -/
import Derived.Test.YtgfepdfamhnppaaDoorChecked
import Derived.Test.YtgfepdfamhnppaaDoorGoM
import Derived.Test.YtgfepdfamhnppaaDoorTab
import Derived.Test.YtgfepdfamhnppaaDoorGoRComb
import Derived.Test.YtgfepdfamhnppaaDoorGlToComb
import Derived.Test.YtgfepdfamhnppaaDoorGsCombText
import Derived.Test.YtgfepdfamhnppaaDoorGiCombText
import Derived.WalkKit
import Derived.WalkSpells
import Derived.WalkLawsBesides
import Derived.BigQuiet
import Derived.OwnWalk
import Derived.Deep.LoopGhost
import Derived.Deep.QuietTactic
import Derived.IntWalk
import Derived.Lib.QuietBelow
namespace Go.Proofs.YtgfepdfamhnppaaDoor.GlFnExactCombText
set_option linter.unusedVariables false
set_option linter.unusedSimpArgs false
open Go.RowKit
open Go.Proofs.YtgfepdfamhnppaaDoor.Rowed Go.Proofs.YtgfepdfamhnppaaDoor.Turn Go.Proofs.YtgfepdfamhnppaaDoor.Aid Go.Proofs.YtgfepdfamhnppaaDoor.GoP Go.Proofs.YtgfepdfamhnppaaDoor.GoM Go.Proofs.YtgfepdfamhnppaaDoor.Tab

def P (aX : Go.Proofs.YtgfepdfamhnppaaDoor.PComb.Comb) : Option (Bool) :=
  unComb aX fun (aX_id : Int) (aX_wide : Int) (aX_high : Int) (aX_line : Bool) =>
  Option.bind (Go.Proofs.YtgfepdfamhnppaaDoor.GlToComb.P (Go.Proofs.YtgfepdfamhnppaaDoor.PComb.Comb.mk aX_id aX_wide aX_high aX_line)) fun (t_3 : Go.Proofs.YtgfepdfamhnppaaDoor.PComb.Comb) =>
  unComb t_3 fun (t_3_id : Int) (t_3_wide : Int) (t_3_high : Int) (t_3_line : Bool) =>
  bind2 (Go.Proofs.YtgfepdfamhnppaaDoor.GsCombText.P (Go.Proofs.YtgfepdfamhnppaaDoor.PComb.Comb.mk t_3_id t_3_wide t_3_high t_3_line)) fun (t_4a : ByteArray) (t_4b : Bool) =>
  Option.bind (Go.Proofs.YtgfepdfamhnppaaDoor.GlToComb.P (Go.Proofs.YtgfepdfamhnppaaDoor.PComb.Comb.mk aX_id aX_wide aX_high aX_line)) fun (t_11 : Go.Proofs.YtgfepdfamhnppaaDoor.PComb.Comb) =>
  unComb t_11 fun (t_11_id : Int) (t_11_wide : Int) (t_11_high : Int) (t_11_line : Bool) =>
  bind2 (Go.Proofs.YtgfepdfamhnppaaDoor.GiCombText.P (Go.Proofs.YtgfepdfamhnppaaDoor.PComb.Comb.mk t_11_id t_11_wide t_11_high t_11_line)) fun (t_12a : ByteArray) (t_12b : Bool) =>
  letK (!(t_12a.toList == t_4a.toList)) fun (t_20 : Bool) =>
  joinK (fun (t_25 : Bool) =>
  iteK t_25
  (some false)
  (some true)) fun jt_25 => iteK t_20 (appK jt_25 true) (letK (t_12b != t_4b) fun (t_24 : Bool) =>
  appK jt_25 t_24)

set_option maxRecDepth 100000 in
set_option maxHeartbeats 2000000 in
theorem C (aX : Go.Proofs.YtgfepdfamhnppaaDoor.PComb.Comb)   (w : World) (HT : Hid (Tab w))   {r : Bool} (H : Hid (P aX = some r)) :
    Calls Tryd.prog 4 #[aX.val] w (Gives (.bool r) w) := by
  have HB := Lib.hid (Below.refl w.heap.size w)
  unfold P at H
  obtain ⟨aX_id, aX_wide, aX_high, aX_line⟩ := aX
  replace H := unComb_hid H
  unfold Go.Proofs.YtgfepdfamhnppaaDoor.PComb.Comb.val
  go_enter Tryd.func4, Tryd.ntmps4
  obtain ⟨w_aX_0, hw_aX_0⟩ : ∃ x, w.alloc (.cells #[.int .i64 aX_id, .int .i64 aX_wide, .int .i64 aX_high, .bool aX_line] 26) = x := ⟨_, rfl⟩
  have bw_aX_0 : Below w.heap.size w w_aX_0 := by rw [← hw_aX_0]; exact (Below.refl _ _).alloc (Nat.le_refl _) _
  have HBw_aX_0 := Lib.hid (Below.step HB.out bw_aX_0)
  clear bw_aX_0
  have kaX_0_0 : w_aX_0.cell? ⟨w.heap.size, 0, none⟩ = some (.int .i64 aX_id) := by rw [← hw_aX_0]; exact box_new _ _ _ 0 _ rfl
  have kaX_0_1 : w_aX_0.cell? ⟨w.heap.size, 1, none⟩ = some (.int .i64 aX_wide) := by rw [← hw_aX_0]; exact box_new _ _ _ 1 _ rfl
  have kaX_0_2 : w_aX_0.cell? ⟨w.heap.size, 2, none⟩ = some (.int .i64 aX_high) := by rw [← hw_aX_0]; exact box_new _ _ _ 2 _ rfl
  have kaX_0_3 : w_aX_0.cell? ⟨w.heap.size, 3, none⟩ = some (.bool aX_line) := by rw [← hw_aX_0]; exact box_new _ _ _ 3 _ rfl
  replace H := bind_hid H
  obtain ⟨t_3, qt_3, H⟩ := H
  obtain ⟨t_3_id, t_3_wide, t_3_high, t_3_line⟩ := t_3
  replace H := unComb_hid H
  go_wp2_with fail
  go_at_call 9
  refine (Go.Proofs.YtgfepdfamhnppaaDoor.GlToComb.C ((Go.Proofs.YtgfepdfamhnppaaDoor.PComb.Comb.mk aX_id aX_wide aX_high aX_line))  _   qt_3).mono ?_
  rintro e_t_3 wt_3 ⟨rfl, bt_3⟩
  unfold Go.Proofs.YtgfepdfamhnppaaDoor.PComb.Comb.val
  have HBwt_3 := Lib.hid (Below.step HBw_aX_0.out bt_3)
  replace kaX_0_0 := cell_below bt_3 kaX_0_0
  replace kaX_0_1 := cell_below bt_3 kaX_0_1
  replace kaX_0_2 := cell_below bt_3 kaX_0_2
  replace kaX_0_3 := cell_below bt_3 kaX_0_3
  clear bt_3
  replace H := bind2_hid H
  obtain ⟨t_4a, t_4b, qt_4, H⟩ := H
  go_wp2_with fail
  go_at_call 8
  refine (Go.Proofs.YtgfepdfamhnppaaDoor.GsCombText.C ((Go.Proofs.YtgfepdfamhnppaaDoor.PComb.Comb.mk t_3_id t_3_wide t_3_high t_3_line))  _   qt_4).mono ?_
  rintro e_t_4 wt_4 ⟨rfl, bt_4⟩
  have HBwt_4 := Lib.hid (Below.step HBwt_3.out bt_4)
  replace kaX_0_0 := cell_below bt_4 kaX_0_0
  replace kaX_0_1 := cell_below bt_4 kaX_0_1
  replace kaX_0_2 := cell_below bt_4 kaX_0_2
  replace kaX_0_3 := cell_below bt_4 kaX_0_3
  clear bt_4
  replace H := bind_hid H
  obtain ⟨t_11, qt_11, H⟩ := H
  obtain ⟨t_11_id, t_11_wide, t_11_high, t_11_line⟩ := t_11
  replace H := unComb_hid H
  go_wp2_with fail
  go_at_call 9
  refine (Go.Proofs.YtgfepdfamhnppaaDoor.GlToComb.C ((Go.Proofs.YtgfepdfamhnppaaDoor.PComb.Comb.mk aX_id aX_wide aX_high aX_line))  _   qt_11).mono ?_
  rintro e_t_11 wt_11 ⟨rfl, bt_11⟩
  unfold Go.Proofs.YtgfepdfamhnppaaDoor.PComb.Comb.val
  have HBwt_11 := Lib.hid (Below.step HBwt_4.out bt_11)
  replace kaX_0_0 := cell_below bt_11 kaX_0_0
  replace kaX_0_1 := cell_below bt_11 kaX_0_1
  replace kaX_0_2 := cell_below bt_11 kaX_0_2
  replace kaX_0_3 := cell_below bt_11 kaX_0_3
  clear bt_11
  replace H := bind2_hid H
  obtain ⟨t_12a, t_12b, qt_12, H⟩ := H
  go_wp2_with fail
  go_at_call 10
  refine (Go.Proofs.YtgfepdfamhnppaaDoor.GiCombText.C ((Go.Proofs.YtgfepdfamhnppaaDoor.PComb.Comb.mk t_11_id t_11_wide t_11_high t_11_line))  _ (tab_below HBwt_11.out HT)  qt_12).mono ?_
  rintro e_t_12 wt_12 ⟨rfl, bt_12⟩
  have HBwt_12 := Lib.hid (Below.step HBwt_11.out bt_12)
  replace kaX_0_0 := cell_below bt_12 kaX_0_0
  replace kaX_0_1 := cell_below bt_12 kaX_0_1
  replace kaX_0_2 := cell_below bt_12 kaX_0_2
  replace kaX_0_3 := cell_below bt_12 kaX_0_3
  clear bt_12
  replace H := let_hid H
  obtain ⟨t_20, ht_20, H⟩ := H
  replace H := join_hid H
  cases t_20 with
  | false =>
    replace H := ite_f H
    cases t_12b with
    | false =>
      cases t_4b with
      | false =>
        replace H := let_hid H
        obtain ⟨t_24, ht_24, H⟩ := H
        obtain rfl : t_24 = false := ht_24.symm
        replace H := app_hid H
        replace H := ite_f H
        obtain rfl := ret_hid H
        go_wp2_with fail
        go_ret
        exact ⟨rfl, HBwt_12.out⟩
      | true =>
        replace H := let_hid H
        obtain ⟨t_24, ht_24, H⟩ := H
        obtain rfl : t_24 = true := ht_24.symm
        replace H := app_hid H
        replace H := ite_t H
        obtain rfl := ret_hid H
        go_wp2_with fail
        go_ret
        exact ⟨rfl, HBwt_12.out⟩
    | true =>
      cases t_4b with
      | false =>
        replace H := let_hid H
        obtain ⟨t_24, ht_24, H⟩ := H
        obtain rfl : t_24 = true := ht_24.symm
        replace H := app_hid H
        replace H := ite_t H
        obtain rfl := ret_hid H
        go_wp2_with fail
        go_ret
        exact ⟨rfl, HBwt_12.out⟩
      | true =>
        replace H := let_hid H
        obtain ⟨t_24, ht_24, H⟩ := H
        obtain rfl : t_24 = false := ht_24.symm
        replace H := app_hid H
        replace H := ite_f H
        obtain rfl := ret_hid H
        go_wp2_with fail
        go_ret
        exact ⟨rfl, HBwt_12.out⟩
  | true =>
    replace H := ite_t H
    replace H := app_hid H
    replace H := ite_t H
    obtain rfl := ret_hid H
    go_wp2_with fail
    go_ret
    exact ⟨rfl, HBwt_12.out⟩
end Go.Proofs.YtgfepdfamhnppaaDoor.GlFnExactCombText
