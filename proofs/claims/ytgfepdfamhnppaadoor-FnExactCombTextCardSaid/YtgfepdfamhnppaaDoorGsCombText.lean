/- loop.example/g01062/spec.CombText as a plain function, and the contract of the program's: where the plain one has an answer, the program has it. Conditions: slices read as lists. -/
import Derived.Test.YtgfepdfamhnppaaDoorChecked
import Derived.Test.YtgfepdfamhnppaaDoorGoM
import Derived.Test.YtgfepdfamhnppaaDoorGoRComb
import Derived.Test.YtgfepdfamhnppaaDoorGsL5One
import Derived.Test.YtgfepdfamhnppaaDoorGsL1Num
import Derived.Test.YtgfepdfamhnppaaDoorGsL5Text
import Derived.WalkKit
import Derived.WalkSpells
import Derived.WalkLawsBesides
import Derived.BigQuiet
import Derived.OwnWalk
import Derived.Deep.LoopGhost
import Derived.Deep.QuietTactic
import Derived.IntWalk
import Derived.Lib.QuietBelow
namespace Go.Proofs.YtgfepdfamhnppaaDoor.GsCombText
set_option linter.unusedVariables false
set_option linter.unusedSimpArgs false
open Go.RowKit
open Go.Proofs.YtgfepdfamhnppaaDoor.Rowed Go.Proofs.YtgfepdfamhnppaaDoor.Turn Go.Proofs.YtgfepdfamhnppaaDoor.Aid Go.Proofs.YtgfepdfamhnppaaDoor.GoP Go.Proofs.YtgfepdfamhnppaaDoor.GoM

def j1  (s : ByteArray) : Option (ByteArray × Bool) :=
  some (s, true)

def j0 (x_line : Bool) (s : ByteArray) : Option (ByteArray × Bool) :=
  iteK x_line
  (guardK (s.size + (⟨#[32, 108, 105, 110, 101]⟩ : ByteArray).size ≤ maxLen) <|
  letK (s ++ (⟨#[32, 108, 105, 110, 101]⟩ : ByteArray)) fun (t_33 : ByteArray) =>
  j1  (t_33))
  (j1  (s))

def P (x : Go.Proofs.YtgfepdfamhnppaaDoor.PComb.Comb) : Option (ByteArray × Bool) :=
  unComb x fun (x_id : Int) (x_wide : Int) (x_high : Int) (x_line : Bool) =>
  Option.bind (Go.Proofs.YtgfepdfamhnppaaDoor.GsL5One.P (Go.Proofs.YtgfepdfamhnppaaDoor.PComb.Comb.mk x_id x_wide x_high x_line)) fun (t_4 : Bool) =>
  letK (!t_4) fun (t_5 : Bool) =>
  iteK t_5
  (some ((⟨#[]⟩ : ByteArray), false))
  (Option.bind (Go.Proofs.YtgfepdfamhnppaaDoor.GsL1Num.P x_id) fun (t_10 : ByteArray) =>
  guardK ((⟨#[99]⟩ : ByteArray).size + t_10.size ≤ maxLen) <|
  letK ((⟨#[99]⟩ : ByteArray) ++ t_10) fun (t_11 : ByteArray) =>
  guardK (t_11.size + (⟨#[32]⟩ : ByteArray).size ≤ maxLen) <|
  letK (t_11 ++ (⟨#[32]⟩ : ByteArray)) fun (t_12 : ByteArray) =>
  Option.bind (Go.Proofs.YtgfepdfamhnppaaDoor.GsL5Text.P x_wide) fun (t_15 : ByteArray) =>
  guardK (t_12.size + t_15.size ≤ maxLen) <|
  letK (t_12 ++ t_15) fun (t_16 : ByteArray) =>
  letK (x_high != x_wide) fun (t_22 : Bool) =>
  iteK t_22
  (guardK (t_16.size + (⟨#[32, 120, 32]⟩ : ByteArray).size ≤ maxLen) <|
  letK (t_16 ++ (⟨#[32, 120, 32]⟩ : ByteArray)) fun (t_24 : ByteArray) =>
  Option.bind (Go.Proofs.YtgfepdfamhnppaaDoor.GsL5Text.P x_high) fun (t_27 : ByteArray) =>
  guardK (t_24.size + t_27.size ≤ maxLen) <|
  letK (t_24 ++ t_27) fun (t_28 : ByteArray) =>
  j0 x_line (t_28))
  (j0 x_line (t_16)))

set_option maxRecDepth 100000 in
set_option maxHeartbeats 2000000 in
theorem C (x : Go.Proofs.YtgfepdfamhnppaaDoor.PComb.Comb)   (w : World)   {r0 : ByteArray} {r1 : Bool} (H : Hid (P x = some (r0, r1))) :
    Calls Tryd.prog 8 #[x.val] w (Gives (.tuple #[.string r0, .bool r1]) w) := by
  have HB := Lib.hid (Below.refl w.heap.size w)
  unfold P at H
  obtain ⟨x_id, x_wide, x_high, x_line⟩ := x
  replace H := unComb_hid H
  unfold Go.Proofs.YtgfepdfamhnppaaDoor.PComb.Comb.val
  go_enter Tryd.func8, Tryd.ntmps8
  obtain ⟨w_x_0, hw_x_0⟩ : ∃ x, w.alloc (.cells #[.int .i64 x_id, .int .i64 x_wide, .int .i64 x_high, .bool x_line] 28) = x := ⟨_, rfl⟩
  have bw_x_0 : Below w.heap.size w w_x_0 := by rw [← hw_x_0]; exact (Below.refl _ _).alloc (Nat.le_refl _) _
  have HBw_x_0 := Lib.hid (Below.step HB.out bw_x_0)
  clear bw_x_0
  have kx_0_0 : w_x_0.cell? ⟨w.heap.size, 0, none⟩ = some (.int .i64 x_id) := by rw [← hw_x_0]; exact box_new _ _ _ 0 _ rfl
  have kx_0_1 : w_x_0.cell? ⟨w.heap.size, 1, none⟩ = some (.int .i64 x_wide) := by rw [← hw_x_0]; exact box_new _ _ _ 1 _ rfl
  have kx_0_2 : w_x_0.cell? ⟨w.heap.size, 2, none⟩ = some (.int .i64 x_high) := by rw [← hw_x_0]; exact box_new _ _ _ 2 _ rfl
  have kx_0_3 : w_x_0.cell? ⟨w.heap.size, 3, none⟩ = some (.bool x_line) := by rw [← hw_x_0]; exact box_new _ _ _ 3 _ rfl
  replace H := bind_hid H
  obtain ⟨t_4, qt_4, H⟩ := H
  go_wp2_with fail
  go_at_call 19
  refine (Go.Proofs.YtgfepdfamhnppaaDoor.GsL5One.C ((Go.Proofs.YtgfepdfamhnppaaDoor.PComb.Comb.mk x_id x_wide x_high x_line))  _   qt_4).mono ?_
  rintro e_t_4 wt_4 ⟨rfl, bt_4⟩
  have HBwt_4 := Lib.hid (Below.step HBw_x_0.out bt_4)
  replace kx_0_0 := cell_below bt_4 kx_0_0
  replace kx_0_1 := cell_below bt_4 kx_0_1
  replace kx_0_2 := cell_below bt_4 kx_0_2
  replace kx_0_3 := cell_below bt_4 kx_0_3
  clear bt_4
  cases t_4 with
  | false =>
    replace H := let_hid H
    obtain ⟨t_5, ht_5, H⟩ := H
    obtain rfl : t_5 = true := ht_5.symm
    replace H := ite_t H
    cases ret_hid H
    go_wp2_with fail
    go_ret2
    exact ⟨rfl, HBwt_4.out⟩
  | true =>
    replace H := let_hid H
    obtain ⟨t_5, ht_5, H⟩ := H
    obtain rfl : t_5 = false := ht_5.symm
    replace H := ite_f H
    go_wp2_with fail
    have Hkx_0_0 := Lib.hid kx_0_0
    replace kx_0_0 := cell_regrown kx_0_0
    have Hkx_0_1 := Lib.hid kx_0_1
    replace kx_0_1 := cell_regrown kx_0_1
    have Hkx_0_2 := Lib.hid kx_0_2
    replace kx_0_2 := cell_regrown kx_0_2
    have Hkx_0_3 := Lib.hid kx_0_3
    replace kx_0_3 := cell_regrown kx_0_3
    replace H := bind_hid H
    obtain ⟨t_10, qt_10, H⟩ := H
    have nt_10 : ∀ d os, Calls Tryd.prog 20 #[.int .i64 x_id] (Go.Sort.grow (redrawn wt_4 d) os) fun e w'' => e = .returned (.string t_10) ∧ ∃ p : Regrown, w'' = Go.Sort.grow (redrawn wt_4 p.d) p.os := fun d os => Calls.regrown_of (Go.Proofs.YtgfepdfamhnppaaDoor.GsL1Num.C (x_id)  _   qt_10)
    replace H := guard_hid H
    obtain ⟨hl_t_11, H⟩ := H
    replace H := let_hid H
    obtain ⟨t_11, ht_11, H⟩ := H
    have ct_11 := cat_rule (P := Tryd.prog) ht_11 hl_t_11
    clear hl_t_11
    have hht_11 := Lib.hid ht_11
    clear ht_11
    replace H := guard_hid H
    obtain ⟨hl_t_12, H⟩ := H
    replace H := let_hid H
    obtain ⟨t_12, ht_12, H⟩ := H
    have ct_12 := cat_rule (P := Tryd.prog) ht_12 hl_t_12
    clear hl_t_12
    have hht_12 := Lib.hid ht_12
    clear ht_12
    replace H := bind_hid H
    obtain ⟨t_15, qt_15, H⟩ := H
    have nt_15 : ∀ d os, Calls Tryd.prog 14 #[.int .i64 x_wide] (Go.Sort.grow (redrawn wt_4 d) os) fun e w'' => e = .returned (.string t_15) ∧ ∃ p : Regrown, w'' = Go.Sort.grow (redrawn wt_4 p.d) p.os := fun d os => Calls.regrown_of (Go.Proofs.YtgfepdfamhnppaaDoor.GsL5Text.C (x_wide)  _   qt_15)
    replace H := guard_hid H
    obtain ⟨hl_t_16, H⟩ := H
    replace H := let_hid H
    obtain ⟨t_16, ht_16, H⟩ := H
    have ct_16 := cat_rule (P := Tryd.prog) ht_16 hl_t_16
    clear hl_t_16
    have hht_16 := Lib.hid ht_16
    clear ht_16
    refine wp_region_quiet_below (by kernel_rfl) (by kernel_rfl) ?_
    repeat (go_big_quiet_step (first | (go_at_call 20; exact nt_10 _ _) | (go_at_call 14; exact nt_15 _ _)))
    refine wpQuiet_nil ?_
    intro Y3 hY3
    replace hY3 := below_class hY3
    clear nt_10 nt_15
    replace kx_0_0 := Hkx_0_0.out
    clear Hkx_0_0
    replace kx_0_1 := Hkx_0_1.out
    clear Hkx_0_1
    replace kx_0_2 := Hkx_0_2.out
    clear Hkx_0_2
    replace kx_0_3 := Hkx_0_3.out
    clear Hkx_0_3
    have HBY3 := Lib.hid (Below.step HBwt_4.out hY3)
    replace kx_0_0 := cell_below hY3 kx_0_0
    replace kx_0_1 := cell_below hY3 kx_0_1
    replace kx_0_2 := cell_below hY3 kx_0_2
    replace kx_0_3 := cell_below hY3 kx_0_3
    clear hY3
    replace H := let_hid H
    obtain ⟨t_22, ht_22, H⟩ := H
    cases t_22 with
    | false =>
      replace H := ite_f H
      unfold j0 at H
      cases x_line with
      | false =>
        replace H := ite_f H
        unfold j1 at H
        cases ret_hid H
        go_wp2_with fail
        go_ret2
        exact ⟨rfl, HBY3.out⟩
      | true =>
        replace H := ite_t H
        replace H := guard_hid H
        obtain ⟨hl_t_33, H⟩ := H
        replace H := let_hid H
        obtain ⟨t_33, ht_33, H⟩ := H
        have ct_33 := cat_rule (P := Tryd.prog) ht_33 hl_t_33
        clear hl_t_33
        have hht_33 := Lib.hid ht_33
        clear ht_33
        unfold j1 at H
        cases ret_hid H
        go_wp2_with fail
        go_ret2
        exact ⟨rfl, HBY3.out⟩
    | true =>
      replace H := ite_t H
      replace H := guard_hid H
      obtain ⟨hl_t_24, H⟩ := H
      replace H := let_hid H
      obtain ⟨t_24, ht_24, H⟩ := H
      have ct_24 := cat_rule (P := Tryd.prog) ht_24 hl_t_24
      clear hl_t_24
      have hht_24 := Lib.hid ht_24
      clear ht_24
      replace H := bind_hid H
      obtain ⟨t_27, qt_27, H⟩ := H
      go_wp2_with fail
      go_at_call 14
      refine (Go.Proofs.YtgfepdfamhnppaaDoor.GsL5Text.C (x_high)  _   qt_27).mono ?_
      rintro e_t_27 wt_27 ⟨rfl, bt_27⟩
      have HBwt_27 := Lib.hid (Below.step HBY3.out bt_27)
      replace kx_0_0 := cell_below bt_27 kx_0_0
      replace kx_0_1 := cell_below bt_27 kx_0_1
      replace kx_0_2 := cell_below bt_27 kx_0_2
      replace kx_0_3 := cell_below bt_27 kx_0_3
      clear bt_27
      replace H := guard_hid H
      obtain ⟨hl_t_28, H⟩ := H
      replace H := let_hid H
      obtain ⟨t_28, ht_28, H⟩ := H
      have ct_28 := cat_rule (P := Tryd.prog) ht_28 hl_t_28
      clear hl_t_28
      have hht_28 := Lib.hid ht_28
      clear ht_28
      unfold j0 at H
      cases x_line with
      | false =>
        replace H := ite_f H
        unfold j1 at H
        cases ret_hid H
        go_wp2_with fail
        go_ret2
        exact ⟨rfl, HBwt_27.out⟩
      | true =>
        replace H := ite_t H
        replace H := guard_hid H
        obtain ⟨hl_t_33, H⟩ := H
        replace H := let_hid H
        obtain ⟨t_33, ht_33, H⟩ := H
        have ct_33 := cat_rule (P := Tryd.prog) ht_33 hl_t_33
        clear hl_t_33
        have hht_33 := Lib.hid ht_33
        clear ht_33
        unfold j1 at H
        cases ret_hid H
        go_wp2_with fail
        go_ret2
        exact ⟨rfl, HBwt_27.out⟩
end Go.Proofs.YtgfepdfamhnppaaDoor.GsCombText
