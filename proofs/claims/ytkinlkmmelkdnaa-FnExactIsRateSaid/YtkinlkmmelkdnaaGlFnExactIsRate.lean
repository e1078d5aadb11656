/- loop.example/g01062/laws.FnExactIsRate as a plain function, and the contract of the program's: where the plain one has an answer, the program has it. Conditions: slices read as lists. -/
import Derived.Test.YtkinlkmmelkdnaaChecked
import Derived.Test.YtkinlkmmelkdnaaGoM
import Derived.Test.YtkinlkmmelkdnaaGoRRate
import Derived.Test.YtkinlkmmelkdnaaGlToRate
import Derived.Test.YtkinlkmmelkdnaaGsIsRate
import Derived.Test.YtkinlkmmelkdnaaGiIsRate
import Derived.WalkKit
import Derived.WalkSpells
import Derived.WalkLawsBesides
import Derived.BigQuiet
import Derived.OwnWalk
import Derived.Deep.LoopGhost
import Derived.Deep.QuietTactic
import Derived.IntWalk
import Derived.Lib.QuietBelow
namespace Go.Proofs.Ytkinlkmmelkdnaa.GlFnExactIsRate
set_option linter.unusedVariables false
set_option linter.unusedSimpArgs false
open Go.RowKit
open Go.Proofs.Ytkinlkmmelkdnaa.Rowed Go.Proofs.Ytkinlkmmelkdnaa.Turn Go.Proofs.Ytkinlkmmelkdnaa.Aid Go.Proofs.Ytkinlkmmelkdnaa.GoP Go.Proofs.Ytkinlkmmelkdnaa.GoM

def P (aR : Go.Proofs.Ytkinlkmmelkdnaa.PRate.Rate) : Option (Bool) :=
  unRate aR fun (aR_zone : Int) (aR_grams : Int) (aR_from_ : Int) (aR_until_ : Int) (aR_cents : Int) =>
  Option.bind (Go.Proofs.Ytkinlkmmelkdnaa.GlToRate.P (Go.Proofs.Ytkinlkmmelkdnaa.PRate.Rate.mk aR_zone aR_grams aR_from_ aR_until_ aR_cents)) fun (t_3 : Go.Proofs.Ytkinlkmmelkdnaa.PRate.Rate) =>
  unRate t_3 fun (t_3_zone : Int) (t_3_grams : Int) (t_3_from_ : Int) (t_3_until_ : Int) (t_3_cents : Int) =>
  Option.bind (Go.Proofs.Ytkinlkmmelkdnaa.GsIsRate.P (Go.Proofs.Ytkinlkmmelkdnaa.PRate.Rate.mk t_3_zone t_3_grams t_3_from_ t_3_until_ t_3_cents)) fun (t_4 : Bool) =>
  Option.bind (Go.Proofs.Ytkinlkmmelkdnaa.GlToRate.P (Go.Proofs.Ytkinlkmmelkdnaa.PRate.Rate.mk aR_zone aR_grams aR_from_ aR_until_ aR_cents)) fun (t_7 : Go.Proofs.Ytkinlkmmelkdnaa.PRate.Rate) =>
  unRate t_7 fun (t_7_zone : Int) (t_7_grams : Int) (t_7_from_ : Int) (t_7_until_ : Int) (t_7_cents : Int) =>
  Option.bind (Go.Proofs.Ytkinlkmmelkdnaa.GiIsRate.P (Go.Proofs.Ytkinlkmmelkdnaa.PRate.Rate.mk t_7_zone t_7_grams t_7_from_ t_7_until_ t_7_cents)) fun (t_8 : Bool) =>
  letK (!(t_8 == t_4)) fun (t_12 : Bool) =>
  iteK t_12
  (some false)
  (some true)

set_option maxRecDepth 100000 in
set_option maxHeartbeats 2000000 in
theorem C (aR : Go.Proofs.Ytkinlkmmelkdnaa.PRate.Rate)   (w : World)   {r : Bool} (H : Hid (P aR = some r)) :
    Calls Try.prog 3 #[aR.val] w (Gives (.bool r) w) := by
  have HB := Lib.hid (Below.refl w.heap.size w)
  unfold P at H
  obtain ⟨aR_zone, aR_grams, aR_from_, aR_until_, aR_cents⟩ := aR
  replace H := unRate_hid H
  unfold Go.Proofs.Ytkinlkmmelkdnaa.PRate.Rate.val
  go_enter Try.func3, Try.ntmps3
  obtain ⟨w_aR_0, hw_aR_0⟩ : ∃ x, w.alloc (.cells #[.int .i64 aR_zone, .int .i64 aR_grams, .int .i64 aR_from_, .int .i64 aR_until_, .int .i64 aR_cents] 23) = x := ⟨_, rfl⟩
  have bw_aR_0 : Below w.heap.size w w_aR_0 := by rw [← hw_aR_0]; exact (Below.refl _ _).alloc (Nat.le_refl _) _
  have HBw_aR_0 := Lib.hid (Below.step HB.out bw_aR_0)
  clear bw_aR_0
  have kaR_0_0 : w_aR_0.cell? ⟨w.heap.size, 0, none⟩ = some (.int .i64 aR_zone) := by rw [← hw_aR_0]; exact box_new _ _ _ 0 _ rfl
  have kaR_0_1 : w_aR_0.cell? ⟨w.heap.size, 1, none⟩ = some (.int .i64 aR_grams) := by rw [← hw_aR_0]; exact box_new _ _ _ 1 _ rfl
  have kaR_0_2 : w_aR_0.cell? ⟨w.heap.size, 2, none⟩ = some (.int .i64 aR_from_) := by rw [← hw_aR_0]; exact box_new _ _ _ 2 _ rfl
  have kaR_0_3 : w_aR_0.cell? ⟨w.heap.size, 3, none⟩ = some (.int .i64 aR_until_) := by rw [← hw_aR_0]; exact box_new _ _ _ 3 _ rfl
  have kaR_0_4 : w_aR_0.cell? ⟨w.heap.size, 4, none⟩ = some (.int .i64 aR_cents) := by rw [← hw_aR_0]; exact box_new _ _ _ 4 _ rfl
  replace H := bind_hid H
  obtain ⟨t_3, qt_3, H⟩ := H
  obtain ⟨t_3_zone, t_3_grams, t_3_from_, t_3_until_, t_3_cents⟩ := t_3
  replace H := unRate_hid H
  go_wp2_with fail
  go_at_call 15
  refine (Go.Proofs.Ytkinlkmmelkdnaa.GlToRate.C ((Go.Proofs.Ytkinlkmmelkdnaa.PRate.Rate.mk aR_zone aR_grams aR_from_ aR_until_ aR_cents))  _    qt_3).mono ?_
  rintro e_t_3 wt_3 ⟨rfl, bt_3⟩
  unfold Go.Proofs.Ytkinlkmmelkdnaa.PRate.Rate.val
  have HBwt_3 := Lib.hid (Below.step HBw_aR_0.out bt_3)
  replace kaR_0_0 := cell_below bt_3 kaR_0_0
  replace kaR_0_1 := cell_below bt_3 kaR_0_1
  replace kaR_0_2 := cell_below bt_3 kaR_0_2
  replace kaR_0_3 := cell_below bt_3 kaR_0_3
  replace kaR_0_4 := cell_below bt_3 kaR_0_4
  clear bt_3
  replace H := bind_hid H
  obtain ⟨t_4, qt_4, H⟩ := H
  go_wp2_with fail
  go_at_call 14
  refine (Go.Proofs.Ytkinlkmmelkdnaa.GsIsRate.C ((Go.Proofs.Ytkinlkmmelkdnaa.PRate.Rate.mk t_3_zone t_3_grams t_3_from_ t_3_until_ t_3_cents))  _    qt_4).mono ?_
  rintro e_t_4 wt_4 ⟨rfl, bt_4⟩
  have HBwt_4 := Lib.hid (Below.step HBwt_3.out bt_4)
  replace kaR_0_0 := cell_below bt_4 kaR_0_0
  replace kaR_0_1 := cell_below bt_4 kaR_0_1
  replace kaR_0_2 := cell_below bt_4 kaR_0_2
  replace kaR_0_3 := cell_below bt_4 kaR_0_3
  replace kaR_0_4 := cell_below bt_4 kaR_0_4
  clear bt_4
  replace H := bind_hid H
  obtain ⟨t_7, qt_7, H⟩ := H
  obtain ⟨t_7_zone, t_7_grams, t_7_from_, t_7_until_, t_7_cents⟩ := t_7
  replace H := unRate_hid H
  go_wp2_with fail
  go_at_call 15
  refine (Go.Proofs.Ytkinlkmmelkdnaa.GlToRate.C ((Go.Proofs.Ytkinlkmmelkdnaa.PRate.Rate.mk aR_zone aR_grams aR_from_ aR_until_ aR_cents))  _    qt_7).mono ?_
  rintro e_t_7 wt_7 ⟨rfl, bt_7⟩
  unfold Go.Proofs.Ytkinlkmmelkdnaa.PRate.Rate.val
  have HBwt_7 := Lib.hid (Below.step HBwt_4.out bt_7)
  replace kaR_0_0 := cell_below bt_7 kaR_0_0
  replace kaR_0_1 := cell_below bt_7 kaR_0_1
  replace kaR_0_2 := cell_below bt_7 kaR_0_2
  replace kaR_0_3 := cell_below bt_7 kaR_0_3
  replace kaR_0_4 := cell_below bt_7 kaR_0_4
  clear bt_7
  replace H := bind_hid H
  obtain ⟨t_8, qt_8, H⟩ := H
  go_wp2_with fail
  go_at_call 16
  refine (Go.Proofs.Ytkinlkmmelkdnaa.GiIsRate.C ((Go.Proofs.Ytkinlkmmelkdnaa.PRate.Rate.mk t_7_zone t_7_grams t_7_from_ t_7_until_ t_7_cents))  _    qt_8).mono ?_
  rintro e_t_8 wt_8 ⟨rfl, bt_8⟩
  have HBwt_8 := Lib.hid (Below.step HBwt_7.out bt_8)
  replace kaR_0_0 := cell_below bt_8 kaR_0_0
  replace kaR_0_1 := cell_below bt_8 kaR_0_1
  replace kaR_0_2 := cell_below bt_8 kaR_0_2
  replace kaR_0_3 := cell_below bt_8 kaR_0_3
  replace kaR_0_4 := cell_below bt_8 kaR_0_4
  clear bt_8
  replace H := let_hid H
  obtain ⟨t_12, ht_12, H⟩ := H
  cases t_12 with
  | false =>
    replace H := ite_f H
    obtain rfl := ret_hid H
    go_wp2_with fail
    go_ret
    exact ⟨rfl, HBwt_8.out⟩
  | true =>
    replace H := ite_t H
    obtain rfl := ret_hid H
    go_wp2_with fail
    go_ret
    exact ⟨rfl, HBwt_8.out⟩
end Go.Proofs.Ytkinlkmmelkdnaa.GlFnExactIsRate
