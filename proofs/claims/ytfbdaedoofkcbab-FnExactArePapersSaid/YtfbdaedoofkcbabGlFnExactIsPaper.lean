/- loop.example/g01062/laws.FnExactIsPaper as a plain function, and the contract of the program's: where the plain one has an answer, the program has it. Conditions: slices read as lists. -/
import Derived.Test.YtfbdaedoofkcbabChecked
import Derived.Test.YtfbdaedoofkcbabGoM
import Derived.Test.YtfbdaedoofkcbabGoRPaper
import Derived.Test.YtfbdaedoofkcbabGlSzPaper
import Derived.Test.YtfbdaedoofkcbabGlToPaper
import Derived.Test.YtfbdaedoofkcbabGsIsPaper
import Derived.Test.YtfbdaedoofkcbabGiIsPaper
import Derived.WalkKit
import Derived.WalkSpells
import Derived.WalkLawsBesides
import Derived.BigQuiet
import Derived.OwnWalk
import Derived.Deep.LoopGhost
import Derived.Deep.QuietTactic
import Derived.IntWalk
import Derived.Lib.QuietBelow
namespace Go.Proofs.Ytfbdaedoofkcbab.GlFnExactIsPaper
set_option linter.unusedVariables false
set_option linter.unusedSimpArgs false
open Go.RowKit
open Go.Proofs.Ytfbdaedoofkcbab.Rowed Go.Proofs.Ytfbdaedoofkcbab.Turn Go.Proofs.Ytfbdaedoofkcbab.Aid Go.Proofs.Ytfbdaedoofkcbab.GoP Go.Proofs.Ytfbdaedoofkcbab.GoM

def P (aP : Go.Proofs.Ytfbdaedoofkcbab.PPaper.Paper) : Option (Bool) :=
  unPaper aP fun (aP_id : Int) (aP_thick : Int) (aP_tint : Int) (aP_mark : ByteArray) (aP_laid : Bool) =>
  Option.bind (Go.Proofs.Ytfbdaedoofkcbab.GlSzPaper.P (Go.Proofs.Ytfbdaedoofkcbab.PPaper.Paper.mk aP_id aP_thick aP_tint aP_mark aP_laid) 1048576) fun (t_5 : Int) =>
  letK (decide (t_5 < 0)) fun (t_8 : Bool) =>
  iteK t_8
  (some true)
  (Option.bind (Go.Proofs.Ytfbdaedoofkcbab.GlToPaper.P (Go.Proofs.Ytfbdaedoofkcbab.PPaper.Paper.mk aP_id aP_thick aP_tint aP_mark aP_laid)) fun (t_11 : Go.Proofs.Ytfbdaedoofkcbab.PPaper.Paper) =>
  unPaper t_11 fun (t_11_id : Int) (t_11_thick : Int) (t_11_tint : Int) (t_11_mark : ByteArray) (t_11_laid : Bool) =>
  Option.bind (Go.Proofs.Ytfbdaedoofkcbab.GsIsPaper.P (Go.Proofs.Ytfbdaedoofkcbab.PPaper.Paper.mk t_11_id t_11_thick t_11_tint t_11_mark t_11_laid)) fun (t_12 : Bool) =>
  Option.bind (Go.Proofs.Ytfbdaedoofkcbab.GlToPaper.P (Go.Proofs.Ytfbdaedoofkcbab.PPaper.Paper.mk aP_id aP_thick aP_tint aP_mark aP_laid)) fun (t_15 : Go.Proofs.Ytfbdaedoofkcbab.PPaper.Paper) =>
  unPaper t_15 fun (t_15_id : Int) (t_15_thick : Int) (t_15_tint : Int) (t_15_mark : ByteArray) (t_15_laid : Bool) =>
  Option.bind (Go.Proofs.Ytfbdaedoofkcbab.GiIsPaper.P (Go.Proofs.Ytfbdaedoofkcbab.PPaper.Paper.mk t_15_id t_15_thick t_15_tint t_15_mark t_15_laid)) fun (t_16 : Bool) =>
  letK (t_16 != t_12) fun (t_20 : Bool) =>
  iteK t_20
  (some false)
  (some true))

set_option maxRecDepth 100000 in
set_option maxHeartbeats 2000000 in
theorem C (aP : Go.Proofs.Ytfbdaedoofkcbab.PPaper.Paper)   (w : World)   {r : Bool} (H : Hid (P aP = some r)) :
    Calls Try.prog 7 #[aP.val] w (Gives (.bool r) w) := by
  have HB := Lib.hid (Below.refl w.heap.size w)
  unfold P at H
  obtain ⟨aP_id, aP_thick, aP_tint, aP_mark, aP_laid⟩ := aP
  replace H := unPaper_hid H
  unfold Go.Proofs.Ytfbdaedoofkcbab.PPaper.Paper.val
  go_enter Try.func7, Try.ntmps7
  obtain ⟨w_aP_0, hw_aP_0⟩ : ∃ x, w.alloc (.cells #[.int .i64 aP_id, .int .i64 aP_thick, .int .i64 aP_tint, .string aP_mark, .bool aP_laid] 41) = x := ⟨_, rfl⟩
  have bw_aP_0 : Below w.heap.size w w_aP_0 := by rw [← hw_aP_0]; exact (Below.refl _ _).alloc (Nat.le_refl _) _
  have HBw_aP_0 := Lib.hid (Below.step HB.out bw_aP_0)
  clear bw_aP_0
  have kaP_0_0 : w_aP_0.cell? ⟨w.heap.size, 0, none⟩ = some (.int .i64 aP_id) := by rw [← hw_aP_0]; exact box_new _ _ _ 0 _ rfl
  have kaP_0_1 : w_aP_0.cell? ⟨w.heap.size, 1, none⟩ = some (.int .i64 aP_thick) := by rw [← hw_aP_0]; exact box_new _ _ _ 1 _ rfl
  have kaP_0_2 : w_aP_0.cell? ⟨w.heap.size, 2, none⟩ = some (.int .i64 aP_tint) := by rw [← hw_aP_0]; exact box_new _ _ _ 2 _ rfl
  have kaP_0_3 : w_aP_0.cell? ⟨w.heap.size, 3, none⟩ = some (.string aP_mark) := by rw [← hw_aP_0]; exact box_new _ _ _ 3 _ rfl
  have kaP_0_4 : w_aP_0.cell? ⟨w.heap.size, 4, none⟩ = some (.bool aP_laid) := by rw [← hw_aP_0]; exact box_new _ _ _ 4 _ rfl
  replace H := bind_hid H
  obtain ⟨t_5, qt_5, H⟩ := H
  go_wp2_with fail
  go_at_call 29
  refine (Go.Proofs.Ytfbdaedoofkcbab.GlSzPaper.C ((Go.Proofs.Ytfbdaedoofkcbab.PPaper.Paper.mk aP_id aP_thick aP_tint aP_mark aP_laid)) (1048576)  _  qt_5).mono ?_
  rintro e_t_5 wt_5 ⟨rfl, bt_5⟩
  have HBwt_5 := Lib.hid (Below.step HBw_aP_0.out bt_5)
  replace kaP_0_0 := cell_below bt_5 kaP_0_0
  replace kaP_0_1 := cell_below bt_5 kaP_0_1
  replace kaP_0_2 := cell_below bt_5 kaP_0_2
  replace kaP_0_3 := cell_below bt_5 kaP_0_3
  replace kaP_0_4 := cell_below bt_5 kaP_0_4
  clear bt_5
  replace H := let_hid H
  obtain ⟨t_8, ht_8, H⟩ := H
  cases t_8 with
  | false =>
    replace H := ite_f H
    replace H := bind_hid H
    obtain ⟨t_11, qt_11, H⟩ := H
    obtain ⟨t_11_id, t_11_thick, t_11_tint, t_11_mark, t_11_laid⟩ := t_11
    replace H := unPaper_hid H
    go_wp2_with fail
    go_at_call 31
    refine (Go.Proofs.Ytfbdaedoofkcbab.GlToPaper.C ((Go.Proofs.Ytfbdaedoofkcbab.PPaper.Paper.mk aP_id aP_thick aP_tint aP_mark aP_laid))  _  qt_11).mono ?_
    rintro e_t_11 wt_11 ⟨rfl, bt_11⟩
    unfold Go.Proofs.Ytfbdaedoofkcbab.PPaper.Paper.val
    have HBwt_11 := Lib.hid (Below.step HBwt_5.out bt_11)
    replace kaP_0_0 := cell_below bt_11 kaP_0_0
    replace kaP_0_1 := cell_below bt_11 kaP_0_1
    replace kaP_0_2 := cell_below bt_11 kaP_0_2
    replace kaP_0_3 := cell_below bt_11 kaP_0_3
    replace kaP_0_4 := cell_below bt_11 kaP_0_4
    clear bt_11
    replace H := bind_hid H
    obtain ⟨t_12, qt_12, H⟩ := H
    go_wp2_with fail
    go_at_call 30
    refine (Go.Proofs.Ytfbdaedoofkcbab.GsIsPaper.C ((Go.Proofs.Ytfbdaedoofkcbab.PPaper.Paper.mk t_11_id t_11_thick t_11_tint t_11_mark t_11_laid))  _  qt_12).mono ?_
    rintro e_t_12 wt_12 ⟨rfl, bt_12⟩
    have HBwt_12 := Lib.hid (Below.step HBwt_11.out bt_12)
    replace kaP_0_0 := cell_below bt_12 kaP_0_0
    replace kaP_0_1 := cell_below bt_12 kaP_0_1
    replace kaP_0_2 := cell_below bt_12 kaP_0_2
    replace kaP_0_3 := cell_below bt_12 kaP_0_3
    replace kaP_0_4 := cell_below bt_12 kaP_0_4
    clear bt_12
    replace H := bind_hid H
    obtain ⟨t_15, qt_15, H⟩ := H
    obtain ⟨t_15_id, t_15_thick, t_15_tint, t_15_mark, t_15_laid⟩ := t_15
    replace H := unPaper_hid H
    go_wp2_with fail
    go_at_call 31
    refine (Go.Proofs.Ytfbdaedoofkcbab.GlToPaper.C ((Go.Proofs.Ytfbdaedoofkcbab.PPaper.Paper.mk aP_id aP_thick aP_tint aP_mark aP_laid))  _  qt_15).mono ?_
    rintro e_t_15 wt_15 ⟨rfl, bt_15⟩
    unfold Go.Proofs.Ytfbdaedoofkcbab.PPaper.Paper.val
    have HBwt_15 := Lib.hid (Below.step HBwt_12.out bt_15)
    replace kaP_0_0 := cell_below bt_15 kaP_0_0
    replace kaP_0_1 := cell_below bt_15 kaP_0_1
    replace kaP_0_2 := cell_below bt_15 kaP_0_2
    replace kaP_0_3 := cell_below bt_15 kaP_0_3
    replace kaP_0_4 := cell_below bt_15 kaP_0_4
    clear bt_15
    replace H := bind_hid H
    obtain ⟨t_16, qt_16, H⟩ := H
    go_wp2_with fail
    go_at_call 32
    refine (Go.Proofs.Ytfbdaedoofkcbab.GiIsPaper.C ((Go.Proofs.Ytfbdaedoofkcbab.PPaper.Paper.mk t_15_id t_15_thick t_15_tint t_15_mark t_15_laid))  _  qt_16).mono ?_
    rintro e_t_16 wt_16 ⟨rfl, bt_16⟩
    have HBwt_16 := Lib.hid (Below.step HBwt_15.out bt_16)
    replace kaP_0_0 := cell_below bt_16 kaP_0_0
    replace kaP_0_1 := cell_below bt_16 kaP_0_1
    replace kaP_0_2 := cell_below bt_16 kaP_0_2
    replace kaP_0_3 := cell_below bt_16 kaP_0_3
    replace kaP_0_4 := cell_below bt_16 kaP_0_4
    clear bt_16
    cases t_16 with
    | false =>
      cases t_12 with
      | false =>
        replace H := let_hid H
        obtain ⟨t_20, ht_20, H⟩ := H
        obtain rfl : t_20 = false := ht_20.symm
        replace H := ite_f H
        obtain rfl := ret_hid H
        go_wp2_with fail
        go_ret
        exact ⟨rfl, HBwt_16.out⟩
      | true =>
        replace H := let_hid H
        obtain ⟨t_20, ht_20, H⟩ := H
        obtain rfl : t_20 = true := ht_20.symm
        replace H := ite_t H
        obtain rfl := ret_hid H
        go_wp2_with fail
        go_ret
        exact ⟨rfl, HBwt_16.out⟩
    | true =>
      cases t_12 with
      | false =>
        replace H := let_hid H
        obtain ⟨t_20, ht_20, H⟩ := H
        obtain rfl : t_20 = true := ht_20.symm
        replace H := ite_t H
        obtain rfl := ret_hid H
        go_wp2_with fail
        go_ret
        exact ⟨rfl, HBwt_16.out⟩
      | true =>
        replace H := let_hid H
        obtain ⟨t_20, ht_20, H⟩ := H
        obtain rfl : t_20 = false := ht_20.symm
        replace H := ite_f H
        obtain rfl := ret_hid H
        go_wp2_with fail
        go_ret
        exact ⟨rfl, HBwt_16.out⟩
  | true =>
    replace H := ite_t H
    obtain rfl := ret_hid H
    go_wp2_with fail
    go_ret
    exact ⟨rfl, HBwt_5.out⟩
end Go.Proofs.Ytfbdaedoofkcbab.GlFnExactIsPaper
