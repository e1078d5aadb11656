/- loop.example/g01062/laws.FnExactMailText as a plain function, and the contract of the program's: where the plain one has an answer, the program has it. Conditions: slices read as lists. -/
import Derived.Test.YtfjcibkgbalkaaaDoorChecked
import Derived.Test.YtfjcibkgbalkaaaDoorGoM
import Derived.Test.YtfjcibkgbalkaaaDoorTab
import Derived.Test.YtfjcibkgbalkaaaDoorGoRMail
import Derived.Test.YtfjcibkgbalkaaaDoorGlToMail
import Derived.Test.YtfjcibkgbalkaaaDoorGsMailText
import Derived.Test.YtfjcibkgbalkaaaDoorGiMailText
import Derived.WalkKit
import Derived.WalkSpells
import Derived.WalkLawsBesides
import Derived.BigQuiet
import Derived.OwnWalk
import Derived.Deep.LoopGhost
import Derived.Deep.QuietTactic
import Derived.IntWalk
import Derived.Lib.QuietBelow
namespace Go.Proofs.YtfjcibkgbalkaaaDoor.GlFnExactMailText
set_option linter.unusedVariables false
set_option linter.unusedSimpArgs false
open Go.RowKit
open Go.Proofs.YtfjcibkgbalkaaaDoor.Rowed Go.Proofs.YtfjcibkgbalkaaaDoor.Turn Go.Proofs.YtfjcibkgbalkaaaDoor.Aid Go.Proofs.YtfjcibkgbalkaaaDoor.GoP Go.Proofs.YtfjcibkgbalkaaaDoor.GoM Go.Proofs.YtfjcibkgbalkaaaDoor.Tab

def P (aX : Go.Proofs.YtfjcibkgbalkaaaDoor.PMail.Mail) : Option (Bool) :=
  unMail aX fun (aX_leave : Int) (aX_from_ : Int) (aX_to_ : Int) (aX_arrive : Int) =>
  Option.bind (Go.Proofs.YtfjcibkgbalkaaaDoor.GlToMail.P (Go.Proofs.YtfjcibkgbalkaaaDoor.PMail.Mail.mk aX_leave aX_from_ aX_to_ aX_arrive)) fun (t_3 : Go.Proofs.YtfjcibkgbalkaaaDoor.PMail.Mail) =>
  unMail t_3 fun (t_3_leave : Int) (t_3_from_ : Int) (t_3_to_ : Int) (t_3_arrive : Int) =>
  bind2 (Go.Proofs.YtfjcibkgbalkaaaDoor.GsMailText.P (Go.Proofs.YtfjcibkgbalkaaaDoor.PMail.Mail.mk t_3_leave t_3_from_ t_3_to_ t_3_arrive)) fun (t_4a : ByteArray) (t_4b : Bool) =>
  Option.bind (Go.Proofs.YtfjcibkgbalkaaaDoor.GlToMail.P (Go.Proofs.YtfjcibkgbalkaaaDoor.PMail.Mail.mk aX_leave aX_from_ aX_to_ aX_arrive)) fun (t_11 : Go.Proofs.YtfjcibkgbalkaaaDoor.PMail.Mail) =>
  unMail t_11 fun (t_11_leave : Int) (t_11_from_ : Int) (t_11_to_ : Int) (t_11_arrive : Int) =>
  bind2 (Go.Proofs.YtfjcibkgbalkaaaDoor.GiMailText.P (Go.Proofs.YtfjcibkgbalkaaaDoor.PMail.Mail.mk t_11_leave t_11_from_ t_11_to_ t_11_arrive)) fun (t_12a : ByteArray) (t_12b : Bool) =>
  letK (!(t_12a.toList == t_4a.toList)) fun (t_20 : Bool) =>
  joinK (fun (t_25 : Bool) =>
  iteK t_25
  (some false)
  (some true)) fun jt_25 => iteK t_20 (appK jt_25 true) (letK (!(t_12b == t_4b)) fun (t_24 : Bool) =>
  appK jt_25 t_24)

set_option maxRecDepth 100000 in
set_option maxHeartbeats 2000000 in
theorem C (aX : Go.Proofs.YtfjcibkgbalkaaaDoor.PMail.Mail)   (w : World) (HT : Hid (Tab w))   {r : Bool} (H : Hid (P aX = some r)) :
    Calls Tryd.prog 5 #[aX.val] w (Gives (.bool r) w) := by
  have HB := Lib.hid (Below.refl w.heap.size w)
  unfold P at H
  obtain ⟨aX_leave, aX_from_, aX_to_, aX_arrive⟩ := aX
  replace H := unMail_hid H
  unfold Go.Proofs.YtfjcibkgbalkaaaDoor.PMail.Mail.val
  go_enter Tryd.func5, Tryd.ntmps5
  obtain ⟨w_aX_0, hw_aX_0⟩ : ∃ x, w.alloc (.cells #[.int .i64 aX_leave, .int .i64 aX_from_, .int .i64 aX_to_, .int .i64 aX_arrive] 59) = x := ⟨_, rfl⟩
  have bw_aX_0 : Below w.heap.size w w_aX_0 := by rw [← hw_aX_0]; exact (Below.refl _ _).alloc (Nat.le_refl _) _
  have HBw_aX_0 := Lib.hid (Below.step HB.out bw_aX_0)
  clear bw_aX_0
  have kaX_0_0 : w_aX_0.cell? ⟨w.heap.size, 0, none⟩ = some (.int .i64 aX_leave) := by rw [← hw_aX_0]; exact box_new _ _ _ 0 _ rfl
  have kaX_0_1 : w_aX_0.cell? ⟨w.heap.size, 1, none⟩ = some (.int .i64 aX_from_) := by rw [← hw_aX_0]; exact box_new _ _ _ 1 _ rfl
  have kaX_0_2 : w_aX_0.cell? ⟨w.heap.size, 2, none⟩ = some (.int .i64 aX_to_) := by rw [← hw_aX_0]; exact box_new _ _ _ 2 _ rfl
  have kaX_0_3 : w_aX_0.cell? ⟨w.heap.size, 3, none⟩ = some (.int .i64 aX_arrive) := by rw [← hw_aX_0]; exact box_new _ _ _ 3 _ rfl
  replace H := bind_hid H
  obtain ⟨t_3, qt_3, H⟩ := H
  obtain ⟨t_3_leave, t_3_from_, t_3_to_, t_3_arrive⟩ := t_3
  replace H := unMail_hid H
  go_wp2_with fail
  go_at_call 39
  refine (Go.Proofs.YtfjcibkgbalkaaaDoor.GlToMail.C ((Go.Proofs.YtfjcibkgbalkaaaDoor.PMail.Mail.mk aX_leave aX_from_ aX_to_ aX_arrive))  _    qt_3).mono ?_
  rintro e_t_3 wt_3 ⟨rfl, bt_3⟩
  unfold Go.Proofs.YtfjcibkgbalkaaaDoor.PMail.Mail.val
  have HBwt_3 := Lib.hid (Below.step HBw_aX_0.out bt_3)
  replace kaX_0_0 := cell_below bt_3 kaX_0_0
  replace kaX_0_1 := cell_below bt_3 kaX_0_1
  replace kaX_0_2 := cell_below bt_3 kaX_0_2
  replace kaX_0_3 := cell_below bt_3 kaX_0_3
  clear bt_3
  replace H := bind2_hid H
  obtain ⟨t_4a, t_4b, qt_4, H⟩ := H
  go_wp2_with fail
  go_at_call 38
  refine (Go.Proofs.YtfjcibkgbalkaaaDoor.GsMailText.C ((Go.Proofs.YtfjcibkgbalkaaaDoor.PMail.Mail.mk t_3_leave t_3_from_ t_3_to_ t_3_arrive))  _    qt_4).mono ?_
  rintro e_t_4 wt_4 ⟨rfl, bt_4⟩
  have HBwt_4 := Lib.hid (Below.step HBwt_3.out bt_4)
  replace kaX_0_0 := cell_below bt_4 kaX_0_0
  replace kaX_0_1 := cell_below bt_4 kaX_0_1
  replace kaX_0_2 := cell_below bt_4 kaX_0_2
  replace kaX_0_3 := cell_below bt_4 kaX_0_3
  clear bt_4
  replace H := bind_hid H
  obtain ⟨t_11, qt_11, H⟩ := H
  obtain ⟨t_11_leave, t_11_from_, t_11_to_, t_11_arrive⟩ := t_11
  replace H := unMail_hid H
  go_wp2_with fail
  go_at_call 39
  refine (Go.Proofs.YtfjcibkgbalkaaaDoor.GlToMail.C ((Go.Proofs.YtfjcibkgbalkaaaDoor.PMail.Mail.mk aX_leave aX_from_ aX_to_ aX_arrive))  _    qt_11).mono ?_
  rintro e_t_11 wt_11 ⟨rfl, bt_11⟩
  unfold Go.Proofs.YtfjcibkgbalkaaaDoor.PMail.Mail.val
  have HBwt_11 := Lib.hid (Below.step HBwt_4.out bt_11)
  replace kaX_0_0 := cell_below bt_11 kaX_0_0
  replace kaX_0_1 := cell_below bt_11 kaX_0_1
  replace kaX_0_2 := cell_below bt_11 kaX_0_2
  replace kaX_0_3 := cell_below bt_11 kaX_0_3
  clear bt_11
  replace H := bind2_hid H
  obtain ⟨t_12a, t_12b, qt_12, H⟩ := H
  go_wp2_with fail
  go_at_call 37
  refine (Go.Proofs.YtfjcibkgbalkaaaDoor.GiMailText.C ((Go.Proofs.YtfjcibkgbalkaaaDoor.PMail.Mail.mk t_11_leave t_11_from_ t_11_to_ t_11_arrive))  _ (tab_below HBwt_11.out HT)   qt_12).mono ?_
  rintro e_t_12 wt_12 ⟨rfl, bt_12⟩
  have HBwt_12 := Lib.hid (Below.step HBwt_11.out bt_12)
  replace kaX_0_0 := cell_below bt_12 kaX_0_0
  replace kaX_0_1 := cell_below bt_12 kaX_0_1
  replace kaX_0_2 := cell_below bt_12 kaX_0_2
  replace kaX_0_3 := cell_below bt_12 kaX_0_3
  clear bt_12
  replace H := let_hid H
  obtain ⟨t_20, ht_20, H⟩ := H
  replace H := join_hid H
  cases t_20 with
  | false =>
    replace H := ite_f H
    replace H := let_hid H
    obtain ⟨t_24, ht_24, H⟩ := H
    replace H := app_hid H
    cases t_24 with
    | false =>
      replace H := ite_f H
      obtain rfl := ret_hid H
      go_wp2_with fail
      go_ret
      exact ⟨rfl, HBwt_12.out⟩
    | true =>
      replace H := ite_t H
      obtain rfl := ret_hid H
      go_wp2_with fail
      go_ret
      exact ⟨rfl, HBwt_12.out⟩
  | true =>
    replace H := ite_t H
    replace H := app_hid H
    replace H := ite_t H
    obtain rfl := ret_hid H
    go_wp2_with fail
    go_ret
    exact ⟨rfl, HBwt_12.out⟩
end Go.Proofs.YtfjcibkgbalkaaaDoor.GlFnExactMailText
