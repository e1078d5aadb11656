/- loop.example/g01062/laws.FnExactPaperText as a plain function, and the contract of the program's: where the plain one has an answer, the program has it. Conditions: slices read as lists. -/
import Derived.Test.YtfbdaedoofkcbabDoorChecked
import Derived.Test.YtfbdaedoofkcbabDoorGoM
import Derived.Test.YtfbdaedoofkcbabDoorTab
import Derived.Test.YtfbdaedoofkcbabDoorGoRPaper
import Derived.Test.YtfbdaedoofkcbabDoorGlSzPaper
import Derived.Test.YtfbdaedoofkcbabDoorGlToPaper
import Derived.Test.YtfbdaedoofkcbabDoorGsPaperText
import Derived.Test.YtfbdaedoofkcbabDoorGiPaperText
import Derived.WalkKit
import Derived.WalkSpells
import Derived.WalkLawsBesides
import Derived.BigQuiet
import Derived.OwnWalk
import Derived.Deep.LoopGhost
import Derived.Deep.QuietTactic
import Derived.IntWalk
import Derived.Lib.QuietBelow
namespace Go.Proofs.YtfbdaedoofkcbabDoor.GlFnExactPaperText
set_option linter.unusedVariables false
set_option linter.unusedSimpArgs false
open Go.RowKit
open Go.Proofs.YtfbdaedoofkcbabDoor.Rowed Go.Proofs.YtfbdaedoofkcbabDoor.Turn Go.Proofs.YtfbdaedoofkcbabDoor.Aid Go.Proofs.YtfbdaedoofkcbabDoor.GoP Go.Proofs.YtfbdaedoofkcbabDoor.GoM Go.Proofs.YtfbdaedoofkcbabDoor.Tab

def P (aP : Go.Proofs.YtfbdaedoofkcbabDoor.PPaper.Paper) : Option (Bool) :=
  unPaper aP fun (aP_id : Int) (aP_thick : Int) (aP_tint : Int) (aP_mark : ByteArray) (aP_laid : Bool) =>
  Option.bind (Go.Proofs.YtfbdaedoofkcbabDoor.GlSzPaper.P (Go.Proofs.YtfbdaedoofkcbabDoor.PPaper.Paper.mk aP_id aP_thick aP_tint aP_mark aP_laid) 1048576) fun (t_5 : Int) =>
  letK (decide (t_5 < 0)) fun (t_8 : Bool) =>
  iteK t_8
  (some true)
  (Option.bind (Go.Proofs.YtfbdaedoofkcbabDoor.GlToPaper.P (Go.Proofs.YtfbdaedoofkcbabDoor.PPaper.Paper.mk aP_id aP_thick aP_tint aP_mark aP_laid)) fun (t_11 : Go.Proofs.YtfbdaedoofkcbabDoor.PPaper.Paper) =>
  unPaper t_11 fun (t_11_id : Int) (t_11_thick : Int) (t_11_tint : Int) (t_11_mark : ByteArray) (t_11_laid : Bool) =>
  bind2 (Go.Proofs.YtfbdaedoofkcbabDoor.GsPaperText.P (Go.Proofs.YtfbdaedoofkcbabDoor.PPaper.Paper.mk t_11_id t_11_thick t_11_tint t_11_mark t_11_laid)) fun (t_12a : ByteArray) (t_12b : Bool) =>
  Option.bind (Go.Proofs.YtfbdaedoofkcbabDoor.GlToPaper.P (Go.Proofs.YtfbdaedoofkcbabDoor.PPaper.Paper.mk aP_id aP_thick aP_tint aP_mark aP_laid)) fun (t_19 : Go.Proofs.YtfbdaedoofkcbabDoor.PPaper.Paper) =>
  unPaper t_19 fun (t_19_id : Int) (t_19_thick : Int) (t_19_tint : Int) (t_19_mark : ByteArray) (t_19_laid : Bool) =>
  bind2 (Go.Proofs.YtfbdaedoofkcbabDoor.GiPaperText.P (Go.Proofs.YtfbdaedoofkcbabDoor.PPaper.Paper.mk t_19_id t_19_thick t_19_tint t_19_mark t_19_laid)) fun (t_20a : ByteArray) (t_20b : Bool) =>
  letK (!(t_20a.toList == t_12a.toList)) fun (t_28 : Bool) =>
  joinK (fun (t_33 : Bool) =>
  iteK t_33
  (some false)
  (some true)) fun jt_33 => iteK t_28 (appK jt_33 true) (letK (t_20b != t_12b) fun (t_32 : Bool) =>
  appK jt_33 t_32))

set_option maxRecDepth 100000 in
set_option maxHeartbeats 2000000 in
theorem C (aP : Go.Proofs.YtfbdaedoofkcbabDoor.PPaper.Paper)   (w : World) (HT : Hid (Tab w))   {r : Bool} (H : Hid (P aP = some r)) :
    Calls Tryd.prog 4 #[aP.val] w (Gives (.bool r) w) := by
  have HB := Lib.hid (Below.refl w.heap.size w)
  unfold P at H
  obtain ⟨aP_id, aP_thick, aP_tint, aP_mark, aP_laid⟩ := aP
  replace H := unPaper_hid H
  unfold Go.Proofs.YtfbdaedoofkcbabDoor.PPaper.Paper.val
  go_enter Tryd.func4, Tryd.ntmps4
  obtain ⟨w_aP_0, hw_aP_0⟩ : ∃ x, w.alloc (.cells #[.int .i64 aP_id, .int .i64 aP_thick, .int .i64 aP_tint, .string aP_mark, .bool aP_laid] 30) = x := ⟨_, rfl⟩
  have bw_aP_0 : Below w.heap.size w w_aP_0 := by rw [← hw_aP_0]; exact (Below.refl _ _).alloc (Nat.le_refl _) _
  have HBw_aP_0 := Lib.hid (Below.step HB.out bw_aP_0)
  clear bw_aP_0
  have kaP_0_0 : w_aP_0.cell? ⟨w.heap.size, 0, none⟩ = some (.int .i64 aP_id) := by rw [← hw_aP_0]; exact box_new _ _ _ 0 _ rfl
  have kaP_0_1 : w_aP_0.cell? ⟨w.heap.size, 1, none⟩ = some (.int .i64 aP_thick) := by rw [← hw_aP_0]; exact box_new _ _ _ 1 _ rfl
  have kaP_0_2 : w_aP_0.cell? ⟨w.heap.size, 2, none⟩ = some (.int .i64 aP_tint) := by rw [← hw_aP_0]; exact box_new _ _ _ 2 _ rfl
  have kaP_0_3 : w_aP_0.cell? ⟨w.heap.size, 3, none⟩ = some (.string aP_mark) := by rw [← hw_aP_0]; exact box_new _ _ _ 3 _ rfl
  have kaP_0_4 : w_aP_0.cell? ⟨w.heap.size, 4, none⟩ = some (.bool aP_laid) := by rw [← hw_aP_0]; exact box_new _ _ _ 4 _ rfl
  replace H := bind_hid H
  obtain ⟨t_5, qt_5, H⟩ := H
  go_wp2_with fail
  go_at_call 8
  refine (Go.Proofs.YtfbdaedoofkcbabDoor.GlSzPaper.C ((Go.Proofs.YtfbdaedoofkcbabDoor.PPaper.Paper.mk aP_id aP_thick aP_tint aP_mark aP_laid)) (1048576)  _   qt_5).mono ?_
  rintro e_t_5 wt_5 ⟨rfl, bt_5⟩
  have HBwt_5 := Lib.hid (Below.step HBw_aP_0.out bt_5)
  replace kaP_0_0 := cell_below bt_5 kaP_0_0
  replace kaP_0_1 := cell_below bt_5 kaP_0_1
  replace kaP_0_2 := cell_below bt_5 kaP_0_2
  replace kaP_0_3 := cell_below bt_5 kaP_0_3
  replace kaP_0_4 := cell_below bt_5 kaP_0_4
  clear bt_5
  replace H := let_hid H
  obtain ⟨t_8, ht_8, H⟩ := H
  cases t_8 with
  | false =>
    replace H := ite_f H
    replace H := bind_hid H
    obtain ⟨t_11, qt_11, H⟩ := H
    obtain ⟨t_11_id, t_11_thick, t_11_tint, t_11_mark, t_11_laid⟩ := t_11
    replace H := unPaper_hid H
    go_wp2_with fail
    go_at_call 10
    refine (Go.Proofs.YtfbdaedoofkcbabDoor.GlToPaper.C ((Go.Proofs.YtfbdaedoofkcbabDoor.PPaper.Paper.mk aP_id aP_thick aP_tint aP_mark aP_laid))  _   qt_11).mono ?_
    rintro e_t_11 wt_11 ⟨rfl, bt_11⟩
    unfold Go.Proofs.YtfbdaedoofkcbabDoor.PPaper.Paper.val
    have HBwt_11 := Lib.hid (Below.step HBwt_5.out bt_11)
    replace kaP_0_0 := cell_below bt_11 kaP_0_0
    replace kaP_0_1 := cell_below bt_11 kaP_0_1
    replace kaP_0_2 := cell_below bt_11 kaP_0_2
    replace kaP_0_3 := cell_below bt_11 kaP_0_3
    replace kaP_0_4 := cell_below bt_11 kaP_0_4
    clear bt_11
    replace H := bind2_hid H
    obtain ⟨t_12a, t_12b, qt_12, H⟩ := H
    go_wp2_with fail
    go_at_call 9
    refine (Go.Proofs.YtfbdaedoofkcbabDoor.GsPaperText.C ((Go.Proofs.YtfbdaedoofkcbabDoor.PPaper.Paper.mk t_11_id t_11_thick t_11_tint t_11_mark t_11_laid))  _   qt_12).mono ?_
    rintro e_t_12 wt_12 ⟨rfl, bt_12⟩
    have HBwt_12 := Lib.hid (Below.step HBwt_11.out bt_12)
    replace kaP_0_0 := cell_below bt_12 kaP_0_0
    replace kaP_0_1 := cell_below bt_12 kaP_0_1
    replace kaP_0_2 := cell_below bt_12 kaP_0_2
    replace kaP_0_3 := cell_below bt_12 kaP_0_3
    replace kaP_0_4 := cell_below bt_12 kaP_0_4
    clear bt_12
    replace H := bind_hid H
    obtain ⟨t_19, qt_19, H⟩ := H
    obtain ⟨t_19_id, t_19_thick, t_19_tint, t_19_mark, t_19_laid⟩ := t_19
    replace H := unPaper_hid H
    go_wp2_with fail
    go_at_call 10
    refine (Go.Proofs.YtfbdaedoofkcbabDoor.GlToPaper.C ((Go.Proofs.YtfbdaedoofkcbabDoor.PPaper.Paper.mk aP_id aP_thick aP_tint aP_mark aP_laid))  _   qt_19).mono ?_
    rintro e_t_19 wt_19 ⟨rfl, bt_19⟩
    unfold Go.Proofs.YtfbdaedoofkcbabDoor.PPaper.Paper.val
    have HBwt_19 := Lib.hid (Below.step HBwt_12.out bt_19)
    replace kaP_0_0 := cell_below bt_19 kaP_0_0
    replace kaP_0_1 := cell_below bt_19 kaP_0_1
    replace kaP_0_2 := cell_below bt_19 kaP_0_2
    replace kaP_0_3 := cell_below bt_19 kaP_0_3
    replace kaP_0_4 := cell_below bt_19 kaP_0_4
    clear bt_19
    replace H := bind2_hid H
    obtain ⟨t_20a, t_20b, qt_20, H⟩ := H
    go_wp2_with fail
    go_at_call 11
    refine (Go.Proofs.YtfbdaedoofkcbabDoor.GiPaperText.C ((Go.Proofs.YtfbdaedoofkcbabDoor.PPaper.Paper.mk t_19_id t_19_thick t_19_tint t_19_mark t_19_laid))  _ (tab_below HBwt_19.out HT)  qt_20).mono ?_
    rintro e_t_20 wt_20 ⟨rfl, bt_20⟩
    have HBwt_20 := Lib.hid (Below.step HBwt_19.out bt_20)
    replace kaP_0_0 := cell_below bt_20 kaP_0_0
    replace kaP_0_1 := cell_below bt_20 kaP_0_1
    replace kaP_0_2 := cell_below bt_20 kaP_0_2
    replace kaP_0_3 := cell_below bt_20 kaP_0_3
    replace kaP_0_4 := cell_below bt_20 kaP_0_4
    clear bt_20
    replace H := let_hid H
    obtain ⟨t_28, ht_28, H⟩ := H
    replace H := join_hid H
    cases t_28 with
    | false =>
      replace H := ite_f H
      cases t_20b with
      | false =>
        cases t_12b with
        | false =>
          replace H := let_hid H
          obtain ⟨t_32, ht_32, H⟩ := H
          obtain rfl : t_32 = false := ht_32.symm
          replace H := app_hid H
          replace H := ite_f H
          obtain rfl := ret_hid H
          go_wp2_with fail
          go_ret
          exact ⟨rfl, HBwt_20.out⟩
        | true =>
          replace H := let_hid H
          obtain ⟨t_32, ht_32, H⟩ := H
          obtain rfl : t_32 = true := ht_32.symm
          replace H := app_hid H
          replace H := ite_t H
          obtain rfl := ret_hid H
          go_wp2_with fail
          go_ret
          exact ⟨rfl, HBwt_20.out⟩
      | true =>
        cases t_12b with
        | false =>
          replace H := let_hid H
          obtain ⟨t_32, ht_32, H⟩ := H
          obtain rfl : t_32 = true := ht_32.symm
          replace H := app_hid H
          replace H := ite_t H
          obtain rfl := ret_hid H
          go_wp2_with fail
          go_ret
          exact ⟨rfl, HBwt_20.out⟩
        | true =>
          replace H := let_hid H
          obtain ⟨t_32, ht_32, H⟩ := H
          obtain rfl : t_32 = false := ht_32.symm
          replace H := app_hid H
          replace H := ite_f H
          obtain rfl := ret_hid H
          go_wp2_with fail
          go_ret
          exact ⟨rfl, HBwt_20.out⟩
    | true =>
      replace H := ite_t H
      replace H := app_hid H
      replace H := ite_t H
      obtain rfl := ret_hid H
      go_wp2_with fail
      go_ret
      exact ⟨rfl, HBwt_20.out⟩
  | true =>
    replace H := ite_t H
    obtain rfl := ret_hid H
    go_wp2_with fail
    go_ret
    exact ⟨rfl, HBwt_5.out⟩
end Go.Proofs.YtfbdaedoofkcbabDoor.GlFnExactPaperText
