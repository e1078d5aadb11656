/- loop.example/g01062/laws.FnExactRateText as a plain function, and the contract of the program's: where the plain one has an answer, the program has it. Conditions: slices read as lists. -/
import Derived.Test.YtkinlkmmelkdnaaDoorChecked
import Derived.Test.YtkinlkmmelkdnaaDoorGoM
import Derived.Test.YtkinlkmmelkdnaaDoorTab
import Derived.Test.YtkinlkmmelkdnaaDoorGoRRate
import Derived.Test.YtkinlkmmelkdnaaDoorGlToRate
import Derived.Test.YtkinlkmmelkdnaaDoorGsRateText
import Derived.Test.YtkinlkmmelkdnaaDoorGiRateText
import Derived.WalkKit
import Derived.WalkSpells
import Derived.WalkLawsBesides
import Derived.BigQuiet
import Derived.OwnWalk
import Derived.Deep.LoopGhost
import Derived.Deep.QuietTactic
import Derived.IntWalk
import Derived.Lib.QuietBelow
namespace Go.Proofs.YtkinlkmmelkdnaaDoor.GlFnExactRateText
set_option linter.unusedVariables false
set_option linter.unusedSimpArgs false
open Go.RowKit
open Go.Proofs.YtkinlkmmelkdnaaDoor.Rowed Go.Proofs.YtkinlkmmelkdnaaDoor.Turn Go.Proofs.YtkinlkmmelkdnaaDoor.Aid Go.Proofs.YtkinlkmmelkdnaaDoor.GoP Go.Proofs.YtkinlkmmelkdnaaDoor.GoM Go.Proofs.YtkinlkmmelkdnaaDoor.Tab

def P (aR : Go.Proofs.YtkinlkmmelkdnaaDoor.PRate.Rate) : Option (Bool) :=
  unRate aR fun (aR_zone : Int) (aR_grams : Int) (aR_from_ : Int) (aR_until_ : Int) (aR_cents : Int) =>
  Option.bind (Go.Proofs.YtkinlkmmelkdnaaDoor.GlToRate.P (Go.Proofs.YtkinlkmmelkdnaaDoor.PRate.Rate.mk aR_zone aR_grams aR_from_ aR_until_ aR_cents)) fun (t_3 : Go.Proofs.YtkinlkmmelkdnaaDoor.PRate.Rate) =>
  unRate t_3 fun (t_3_zone : Int) (t_3_grams : Int) (t_3_from_ : Int) (t_3_until_ : Int) (t_3_cents : Int) =>
  bind2 (Go.Proofs.YtkinlkmmelkdnaaDoor.GsRateText.P (Go.Proofs.YtkinlkmmelkdnaaDoor.PRate.Rate.mk t_3_zone t_3_grams t_3_from_ t_3_until_ t_3_cents)) fun (t_4a : ByteArray) (t_4b : Bool) =>
  Option.bind (Go.Proofs.YtkinlkmmelkdnaaDoor.GlToRate.P (Go.Proofs.YtkinlkmmelkdnaaDoor.PRate.Rate.mk aR_zone aR_grams aR_from_ aR_until_ aR_cents)) fun (t_11 : Go.Proofs.YtkinlkmmelkdnaaDoor.PRate.Rate) =>
  unRate t_11 fun (t_11_zone : Int) (t_11_grams : Int) (t_11_from_ : Int) (t_11_until_ : Int) (t_11_cents : Int) =>
  bind2 (Go.Proofs.YtkinlkmmelkdnaaDoor.GiRateText.P (Go.Proofs.YtkinlkmmelkdnaaDoor.PRate.Rate.mk t_11_zone t_11_grams t_11_from_ t_11_until_ t_11_cents)) fun (t_12a : ByteArray) (t_12b : Bool) =>
  letK (!(t_12a.toList == t_4a.toList)) fun (t_20 : Bool) =>
  joinK (fun (t_25 : Bool) =>
  iteK t_25
  (some false)
  (some true)) fun jt_25 => iteK t_20 (appK jt_25 true) (letK (!(t_12b == t_4b)) fun (t_24 : Bool) =>
  appK jt_25 t_24)

set_option maxRecDepth 100000 in
set_option maxHeartbeats 2000000 in
theorem C (aR : Go.Proofs.YtkinlkmmelkdnaaDoor.PRate.Rate)   (w : World) (HT : Hid (Tab w))   {r : Bool} (H : Hid (P aR = some r)) :
    Calls Tryd.prog 3 #[aR.val] w (Gives (.bool r) w) := by
  have HB := Lib.hid (Below.refl w.heap.size w)
  unfold P at H
  obtain ⟨aR_zone, aR_grams, aR_from_, aR_until_, aR_cents⟩ := aR
  replace H := unRate_hid H
  unfold Go.Proofs.YtkinlkmmelkdnaaDoor.PRate.Rate.val
  go_enter Tryd.func3, Tryd.ntmps3
  obtain ⟨w_aR_0, hw_aR_0⟩ : ∃ x, w.alloc (.cells #[.int .i64 aR_zone, .int .i64 aR_grams, .int .i64 aR_from_, .int .i64 aR_until_, .int .i64 aR_cents] 23) = x := ⟨_, rfl⟩
  have bw_aR_0 : Below w.heap.size w w_aR_0 := by rw [← hw_aR_0]; exact (Below.refl _ _).alloc (Nat.le_refl _) _
  have HBw_aR_0 := Lib.hid (Below.step HB.out bw_aR_0)
  clear bw_aR_0
  have kaR_0_0 : w_aR_0.cell? ⟨w.heap.size, 0, none⟩ = some (.int .i64 aR_zone) := by rw [← hw_aR_0]; exact box_new _ _ _ 0 _ rfl
  have kaR_0_1 : w_aR_0.cell? ⟨w.heap.size, 1, none⟩ = some (.int .i64 aR_grams) := by rw [← hw_aR_0]; exact box_new _ _ _ 1 _ rfl
  have kaR_0_2 : w_aR_0.cell? ⟨w.heap.size, 2, none⟩ = some (.int .i64 aR_from_) := by rw [← hw_aR_0]; exact box_new _ _ _ 2 _ rfl
  have kaR_0_3 : w_aR_0.cell? ⟨w.heap.size, 3, none⟩ = some (.int .i64 aR_until_) := by rw [← hw_aR_0]; exact box_new _ _ _ 3 _ rfl
  have kaR_0_4 : w_aR_0.cell? ⟨w.heap.size, 4, none⟩ = some (.int .i64 aR_cents) := by rw [← hw_aR_0]; exact box_new _ _ _ 4 _ rfl
  replace H := bind_hid H
  obtain ⟨t_3, qt_3, H⟩ := H
  obtain ⟨t_3_zone, t_3_grams, t_3_from_, t_3_until_, t_3_cents⟩ := t_3
  replace H := unRate_hid H
  go_wp2_with fail
  go_at_call 7
  refine (Go.Proofs.YtkinlkmmelkdnaaDoor.GlToRate.C ((Go.Proofs.YtkinlkmmelkdnaaDoor.PRate.Rate.mk aR_zone aR_grams aR_from_ aR_until_ aR_cents))  _    qt_3).mono ?_
  rintro e_t_3 wt_3 ⟨rfl, bt_3⟩
  unfold Go.Proofs.YtkinlkmmelkdnaaDoor.PRate.Rate.val
  have HBwt_3 := Lib.hid (Below.step HBw_aR_0.out bt_3)
  replace kaR_0_0 := cell_below bt_3 kaR_0_0
  replace kaR_0_1 := cell_below bt_3 kaR_0_1
  replace kaR_0_2 := cell_below bt_3 kaR_0_2
  replace kaR_0_3 := cell_below bt_3 kaR_0_3
  replace kaR_0_4 := cell_below bt_3 kaR_0_4
  clear bt_3
  replace H := bind2_hid H
  obtain ⟨t_4a, t_4b, qt_4, H⟩ := H
  go_wp2_with fail
  go_at_call 6
  refine (Go.Proofs.YtkinlkmmelkdnaaDoor.GsRateText.C ((Go.Proofs.YtkinlkmmelkdnaaDoor.PRate.Rate.mk t_3_zone t_3_grams t_3_from_ t_3_until_ t_3_cents))  _    qt_4).mono ?_
  rintro e_t_4 wt_4 ⟨rfl, bt_4⟩
  have HBwt_4 := Lib.hid (Below.step HBwt_3.out bt_4)
  replace kaR_0_0 := cell_below bt_4 kaR_0_0
  replace kaR_0_1 := cell_below bt_4 kaR_0_1
  replace kaR_0_2 := cell_below bt_4 kaR_0_2
  replace kaR_0_3 := cell_below bt_4 kaR_0_3
  replace kaR_0_4 := cell_below bt_4 kaR_0_4
  clear bt_4
  replace H := bind_hid H
  obtain ⟨t_11, qt_11, H⟩ := H
  obtain ⟨t_11_zone, t_11_grams, t_11_from_, t_11_until_, t_11_cents⟩ := t_11
  replace H := unRate_hid H
  go_wp2_with fail
  go_at_call 7
  refine (Go.Proofs.YtkinlkmmelkdnaaDoor.GlToRate.C ((Go.Proofs.YtkinlkmmelkdnaaDoor.PRate.Rate.mk aR_zone aR_grams aR_from_ aR_until_ aR_cents))  _    qt_11).mono ?_
  rintro e_t_11 wt_11 ⟨rfl, bt_11⟩
  unfold Go.Proofs.YtkinlkmmelkdnaaDoor.PRate.Rate.val
  have HBwt_11 := Lib.hid (Below.step HBwt_4.out bt_11)
  replace kaR_0_0 := cell_below bt_11 kaR_0_0
  replace kaR_0_1 := cell_below bt_11 kaR_0_1
  replace kaR_0_2 := cell_below bt_11 kaR_0_2
  replace kaR_0_3 := cell_below bt_11 kaR_0_3
  replace kaR_0_4 := cell_below bt_11 kaR_0_4
  clear bt_11
  replace H := bind2_hid H
  obtain ⟨t_12a, t_12b, qt_12, H⟩ := H
  go_wp2_with fail
  go_at_call 8
  refine (Go.Proofs.YtkinlkmmelkdnaaDoor.GiRateText.C ((Go.Proofs.YtkinlkmmelkdnaaDoor.PRate.Rate.mk t_11_zone t_11_grams t_11_from_ t_11_until_ t_11_cents))  _ (tab_below HBwt_11.out HT)   qt_12).mono ?_
  rintro e_t_12 wt_12 ⟨rfl, bt_12⟩
  have HBwt_12 := Lib.hid (Below.step HBwt_11.out bt_12)
  replace kaR_0_0 := cell_below bt_12 kaR_0_0
  replace kaR_0_1 := cell_below bt_12 kaR_0_1
  replace kaR_0_2 := cell_below bt_12 kaR_0_2
  replace kaR_0_3 := cell_below bt_12 kaR_0_3
  replace kaR_0_4 := cell_below bt_12 kaR_0_4
  clear bt_12
  replace H := let_hid H
  obtain ⟨t_20, ht_20, H⟩ := H
  replace H := join_hid H
  cases t_20 with
  | false =>
    replace H := ite_f H
    replace H := let_hid H
    obtain ⟨t_24, ht_24, H⟩ := H
    replace H := app_hid H
    cases t_24 with
    | false =>
      replace H := ite_f H
      obtain rfl := ret_hid H
      go_wp2_with fail
      go_ret
      exact ⟨rfl, HBwt_12.out⟩
    | true =>
      replace H := ite_t H
      obtain rfl := ret_hid H
      go_wp2_with fail
      go_ret
      exact ⟨rfl, HBwt_12.out⟩
  | true =>
    replace H := ite_t H
    replace H := app_hid H
    replace H := ite_t H
    obtain rfl := ret_hid H
    go_wp2_with fail
    go_ret
    exact ⟨rfl, HBwt_12.out⟩
end Go.Proofs.YtkinlkmmelkdnaaDoor.GlFnExactRateText
