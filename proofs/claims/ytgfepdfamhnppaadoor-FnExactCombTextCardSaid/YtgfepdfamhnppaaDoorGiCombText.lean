/- loop.example/g01062/impl.CombText as a plain function, and the contract of the program's: where the plain one has an answer, the program has it. Conditions: slices read as lists. -/
import Derived.Test.YtgfepdfamhnppaaDoorChecked
import Derived.Test.YtgfepdfamhnppaaDoorGoM
import Derived.Test.YtgfepdfamhnppaaDoorTab
import Derived.Test.YtgfepdfamhnppaaDoorGoRComb
import Derived.Test.YtgfepdfamhnppaaDoorGiIsComb
import Derived.Test.YtgfepdfamhnppaaDoorGiGaugeText
import Derived.Test.YtgfepdfamhnppaaDoorGxStrconvItoa
import Derived.WalkKit
import Derived.WalkSpells
import Derived.WalkLawsBesides
import Derived.BigQuiet
import Derived.OwnWalk
import Derived.Deep.LoopGhost
import Derived.Deep.QuietTactic
import Derived.IntWalk
import Derived.Lib.QuietBelow
namespace Go.Proofs.YtgfepdfamhnppaaDoor.GiCombText
set_option linter.unusedVariables false
set_option linter.unusedSimpArgs false
open Go.RowKit
open Go.Proofs.YtgfepdfamhnppaaDoor.Rowed Go.Proofs.YtgfepdfamhnppaaDoor.Turn Go.Proofs.YtgfepdfamhnppaaDoor.Aid Go.Proofs.YtgfepdfamhnppaaDoor.GoP Go.Proofs.YtgfepdfamhnppaaDoor.GoM Go.Proofs.YtgfepdfamhnppaaDoor.Tab

def j1  (s : ByteArray) : Option (ByteArray × Bool) :=
  some (s, true)

def j0 (x_line : Bool) (s : ByteArray) : Option (ByteArray × Bool) :=
  iteK x_line
  (guardK (s.size + (⟨#[32, 108, 105, 110, 101]⟩ : ByteArray).size ≤ maxLen) <|
  letK (s ++ (⟨#[32, 108, 105, 110, 101]⟩ : ByteArray)) fun (t_45 : ByteArray) =>
  j1  (t_45))
  (j1  (s))

def P (x : Go.Proofs.YtgfepdfamhnppaaDoor.PComb.Comb) : Option (ByteArray × Bool) :=
  unComb x fun (x_id : Int) (x_wide : Int) (x_high : Int) (x_line : Bool) =>
  Option.bind (Go.Proofs.YtgfepdfamhnppaaDoor.GiIsComb.P (Go.Proofs.YtgfepdfamhnppaaDoor.PComb.Comb.mk x_id x_wide x_high x_line)) fun (t_4 : Bool) =>
  letK (!t_4) fun (t_5 : Bool) =>
  iteK t_5
  (some ((⟨#[]⟩ : ByteArray), false))
  (bind2 (Go.Proofs.YtgfepdfamhnppaaDoor.GiGaugeText.P x_wide) fun (t_10a : ByteArray) (t_10b : Bool) =>
  bind2 (Go.Proofs.YtgfepdfamhnppaaDoor.GiGaugeText.P x_high) fun (t_18a : ByteArray) (t_18b : Bool) =>
  Option.bind (Go.Proofs.YtgfepdfamhnppaaDoor.GxStrconvItoa.P x_id) fun (t_26 : ByteArray) =>
  guardK ((⟨#[99]⟩ : ByteArray).size + t_26.size ≤ maxLen) <|
  letK ((⟨#[99]⟩ : ByteArray) ++ t_26) fun (t_27 : ByteArray) =>
  guardK (t_27.size + (⟨#[32]⟩ : ByteArray).size ≤ maxLen) <|
  letK (t_27 ++ (⟨#[32]⟩ : ByteArray)) fun (t_28 : ByteArray) =>
  guardK (t_28.size + t_10a.size ≤ maxLen) <|
  letK (t_28 ++ t_10a) fun (t_30 : ByteArray) =>
  letK (x_high != x_wide) fun (t_36 : Bool) =>
  iteK t_36
  (guardK ((⟨#[32, 120, 32]⟩ : ByteArray).size + t_18a.size ≤ maxLen) <|
  letK ((⟨#[32, 120, 32]⟩ : ByteArray) ++ t_18a) fun (t_39 : ByteArray) =>
  guardK (t_30.size + t_39.size ≤ maxLen) <|
  letK (t_30 ++ t_39) fun (t_40 : ByteArray) =>
  j0 x_line (t_40))
  (j0 x_line (t_30)))

set_option maxRecDepth 100000 in
set_option maxHeartbeats 2000000 in
theorem C (x : Go.Proofs.YtgfepdfamhnppaaDoor.PComb.Comb)   (w : World) (HT : Hid (Tab w))   {r0 : ByteArray} {r1 : Bool} (H : Hid (P x = some (r0, r1))) :
    Calls Tryd.prog 10 #[x.val] w (Gives (.tuple #[.string r0, .bool r1]) w) := by
  have HB := Lib.hid (Below.refl w.heap.size w)
  unfold P at H
  obtain ⟨x_id, x_wide, x_high, x_line⟩ := x
  replace H := unComb_hid H
  unfold Go.Proofs.YtgfepdfamhnppaaDoor.PComb.Comb.val
  go_enter Tryd.func10, Tryd.ntmps10
  obtain ⟨w_x_0, hw_x_0⟩ : ∃ x, w.alloc (.cells #[.int .i64 x_id, .int .i64 x_wide, .int .i64 x_high, .bool x_line] 28) = x := ⟨_, rfl⟩
  have bw_x_0 : Below w.heap.size w w_x_0 := by rw [← hw_x_0]; exact (Below.refl _ _).alloc (Nat.le_refl _) _
  have HBw_x_0 := Lib.hid (Below.step HB.out bw_x_0)
  clear bw_x_0
  have kx_0_0 : w_x_0.cell? ⟨w.heap.size, 0, none⟩ = some (.int .i64 x_id) := by rw [← hw_x_0]; exact box_new _ _ _ 0 _ rfl
  have kx_0_1 : w_x_0.cell? ⟨w.heap.size, 1, none⟩ = some (.int .i64 x_wide) := by rw [← hw_x_0]; exact box_new _ _ _ 1 _ rfl
  have kx_0_2 : w_x_0.cell? ⟨w.heap.size, 2, none⟩ = some (.int .i64 x_high) := by rw [← hw_x_0]; exact box_new _ _ _ 2 _ rfl
  have kx_0_3 : w_x_0.cell? ⟨w.heap.size, 3, none⟩ = some (.bool x_line) := by rw [← hw_x_0]; exact box_new _ _ _ 3 _ rfl
  replace H := bind_hid H
  obtain ⟨t_4, qt_4, H⟩ := H
  go_wp2_with fail
  go_at_call 21
  refine (Go.Proofs.YtgfepdfamhnppaaDoor.GiIsComb.C ((Go.Proofs.YtgfepdfamhnppaaDoor.PComb.Comb.mk x_id x_wide x_high x_line))  _   qt_4).mono ?_
  rintro e_t_4 wt_4 ⟨rfl, bt_4⟩
  have HBwt_4 := Lib.hid (Below.step HBw_x_0.out bt_4)
  replace kx_0_0 := cell_below bt_4 kx_0_0
  replace kx_0_1 := cell_below bt_4 kx_0_1
  replace kx_0_2 := cell_below bt_4 kx_0_2
  replace kx_0_3 := cell_below bt_4 kx_0_3
  clear bt_4
  cases t_4 with
  | false =>
    replace H := let_hid H
    obtain ⟨t_5, ht_5, H⟩ := H
    obtain rfl : t_5 = true := ht_5.symm
    replace H := ite_t H
    cases ret_hid H
    go_wp2_with fail
    go_ret2
    exact ⟨rfl, HBwt_4.out⟩
  | true =>
    replace H := let_hid H
    obtain ⟨t_5, ht_5, H⟩ := H
    obtain rfl : t_5 = false := ht_5.symm
    replace H := ite_f H
    replace H := bind2_hid H
    obtain ⟨t_10a, t_10b, qt_10, H⟩ := H
    go_wp2_with fail
    go_at_call 7
    refine (Go.Proofs.YtgfepdfamhnppaaDoor.GiGaugeText.C (x_wide)  _ (tab_below HBwt_4.out HT)  qt_10).mono ?_
    rintro e_t_10 wt_10 ⟨rfl, bt_10⟩
    have HBwt_10 := Lib.hid (Below.step HBwt_4.out bt_10)
    replace kx_0_0 := cell_below bt_10 kx_0_0
    replace kx_0_1 := cell_below bt_10 kx_0_1
    replace kx_0_2 := cell_below bt_10 kx_0_2
    replace kx_0_3 := cell_below bt_10 kx_0_3
    clear bt_10
    replace H := bind2_hid H
    obtain ⟨t_18a, t_18b, qt_18, H⟩ := H
    go_wp2_with fail
    go_at_call 7
    refine (Go.Proofs.YtgfepdfamhnppaaDoor.GiGaugeText.C (x_high)  _ (tab_below HBwt_10.out HT)  qt_18).mono ?_
    rintro e_t_18 wt_18 ⟨rfl, bt_18⟩
    have HBwt_18 := Lib.hid (Below.step HBwt_10.out bt_18)
    replace kx_0_0 := cell_below bt_18 kx_0_0
    replace kx_0_1 := cell_below bt_18 kx_0_1
    replace kx_0_2 := cell_below bt_18 kx_0_2
    replace kx_0_3 := cell_below bt_18 kx_0_3
    clear bt_18
    replace H := bind_hid H
    obtain ⟨t_26, qt_26, H⟩ := H
    go_wp2_with fail
    go_at_call 22
    refine (Go.Proofs.YtgfepdfamhnppaaDoor.GxStrconvItoa.C (x_id)  _ (tab_below HBwt_18.out HT)  qt_26).mono ?_
    rintro e_t_26 wt_26 ⟨rfl, bt_26⟩
    have HBwt_26 := Lib.hid (Below.step HBwt_18.out bt_26)
    replace kx_0_0 := cell_below bt_26 kx_0_0
    replace kx_0_1 := cell_below bt_26 kx_0_1
    replace kx_0_2 := cell_below bt_26 kx_0_2
    replace kx_0_3 := cell_below bt_26 kx_0_3
    clear bt_26
    replace H := guard_hid H
    obtain ⟨hl_t_27, H⟩ := H
    replace H := let_hid H
    obtain ⟨t_27, ht_27, H⟩ := H
    have ct_27 := cat_rule (P := Tryd.prog) ht_27 hl_t_27
    clear hl_t_27
    have hht_27 := Lib.hid ht_27
    clear ht_27
    replace H := guard_hid H
    obtain ⟨hl_t_28, H⟩ := H
    replace H := let_hid H
    obtain ⟨t_28, ht_28, H⟩ := H
    have ct_28 := cat_rule (P := Tryd.prog) ht_28 hl_t_28
    clear hl_t_28
    have hht_28 := Lib.hid ht_28
    clear ht_28
    replace H := guard_hid H
    obtain ⟨hl_t_30, H⟩ := H
    replace H := let_hid H
    obtain ⟨t_30, ht_30, H⟩ := H
    have ct_30 := cat_rule (P := Tryd.prog) ht_30 hl_t_30
    clear hl_t_30
    have hht_30 := Lib.hid ht_30
    clear ht_30
    replace H := let_hid H
    obtain ⟨t_36, ht_36, H⟩ := H
    cases t_36 with
    | false =>
      replace H := ite_f H
      unfold j0 at H
      cases x_line with
      | false =>
        replace H := ite_f H
        unfold j1 at H
        cases ret_hid H
        go_wp2_with fail
        go_ret2
        exact ⟨rfl, HBwt_26.out⟩
      | true =>
        replace H := ite_t H
        replace H := guard_hid H
        obtain ⟨hl_t_45, H⟩ := H
        replace H := let_hid H
        obtain ⟨t_45, ht_45, H⟩ := H
        have ct_45 := cat_rule (P := Tryd.prog) ht_45 hl_t_45
        clear hl_t_45
        have hht_45 := Lib.hid ht_45
        clear ht_45
        unfold j1 at H
        cases ret_hid H
        go_wp2_with fail
        go_ret2
        exact ⟨rfl, HBwt_26.out⟩
    | true =>
      replace H := ite_t H
      replace H := guard_hid H
      obtain ⟨hl_t_39, H⟩ := H
      replace H := let_hid H
      obtain ⟨t_39, ht_39, H⟩ := H
      have ct_39 := cat_rule (P := Tryd.prog) ht_39 hl_t_39
      clear hl_t_39
      have hht_39 := Lib.hid ht_39
      clear ht_39
      replace H := guard_hid H
      obtain ⟨hl_t_40, H⟩ := H
      replace H := let_hid H
      obtain ⟨t_40, ht_40, H⟩ := H
      have ct_40 := cat_rule (P := Tryd.prog) ht_40 hl_t_40
      clear hl_t_40
      have hht_40 := Lib.hid ht_40
      clear ht_40
      unfold j0 at H
      cases x_line with
      | false =>
        replace H := ite_f H
        unfold j1 at H
        cases ret_hid H
        go_wp2_with fail
        go_ret2
        exact ⟨rfl, HBwt_26.out⟩
      | true =>
        replace H := ite_t H
        replace H := guard_hid H
        obtain ⟨hl_t_45, H⟩ := H
        replace H := let_hid H
        obtain ⟨t_45, ht_45, H⟩ := H
        have ct_45 := cat_rule (P := Tryd.prog) ht_45 hl_t_45
        clear hl_t_45
        have hht_45 := Lib.hid ht_45
        clear ht_45
        unfold j1 at H
        cases ret_hid H
        go_wp2_with fail
        go_ret2
        exact ⟨rfl, HBwt_26.out⟩
end Go.Proofs.YtgfepdfamhnppaaDoor.GiCombText
