/- loop.example/g01062/impl.canBegin as a plain function, and the contract of the program's: where the plain one has an answer, the program has it. Conditions: slices read as lists. -/
import Derived.Test.YtfjcibkgbalkaaaChecked
import Derived.Test.YtfjcibkgbalkaaaGoM
import Derived.Test.YtfjcibkgbalkaaaGoRMail
import Derived.Test.YtfjcibkgbalkaaaGiIsTimetable
import Derived.Test.YtfjcibkgbalkaaaGiIsPostOffice
import Derived.Test.YtfjcibkgbalkaaaGiIsMinute
import Derived.WalkKit
import Derived.WalkSpells
import Derived.WalkLawsBesides
import Derived.BigQuiet
import Derived.OwnWalk
import Derived.Deep.LoopGhost
import Derived.Deep.QuietTactic
import Derived.IntWalk
import Derived.Lib.QuietBelow
namespace Go.Proofs.Ytfjcibkgbalkaaa.GiCanBegin
set_option linter.unusedVariables false
set_option linter.unusedSimpArgs false
open Go.RowKit
open Go.Proofs.Ytfjcibkgbalkaaa.Rowed Go.Proofs.Ytfjcibkgbalkaaa.Turn Go.Proofs.Ytfjcibkgbalkaaa.Aid Go.Proofs.Ytfjcibkgbalkaaa.GoP Go.Proofs.Ytfjcibkgbalkaaa.GoM

def P (list : (List Go.Proofs.Ytfjcibkgbalkaaa.PMail.Mail)) (from_1 : Int) (minute : Int) : Option (Bool) :=
  Option.bind (Go.Proofs.Ytfjcibkgbalkaaa.GiIsTimetable.P list) fun (t_2 : Bool) =>
  joinK (fun (t_6 : Bool) =>
  joinK (fun (t_10 : Bool) =>
  some t_10) fun jt_10 => iteK t_6 (Option.bind (Go.Proofs.Ytfjcibkgbalkaaa.GiIsMinute.P minute) fun (t_9 : Bool) =>
  appK jt_10 t_9) (appK jt_10 false)) fun jt_6 => iteK t_2 (Option.bind (Go.Proofs.Ytfjcibkgbalkaaa.GiIsPostOffice.P from_1) fun (t_5 : Bool) =>
  appK jt_6 t_5) (appK jt_6 false)

set_option maxRecDepth 100000 in
set_option maxHeartbeats 2000000 in
theorem C (list : (List Go.Proofs.Ytfjcibkgbalkaaa.PMail.Mail)) (from_1 : Int) (minute : Int) (A0 : Option Addr) (c0 : Nat)  (w : World) (M0 : Hid (Cells w 4 A0 list.length (Go.Proofs.Ytfjcibkgbalkaaa.PMail.flat list))) (N0 : Hid (list.length ≤ 9223372036854775807))  {r : Bool} (H : Hid (P list from_1 minute = some r)) :
    Calls Try.prog 96 #[.slice A0 list.length c0, .int .i64 from_1, .int .i64 minute] w (Gives (.bool r) w) := by
  have HB := Lib.hid (Below.refl w.heap.size w)
  unfold P at H
  have N0o := N0.out
  go_enter Try.func96, Try.ntmps96
  replace H := bind_hid H
  obtain ⟨t_2, qt_2, H⟩ := H
  go_wp2_with fail
  go_at_call 34
  refine (Go.Proofs.Ytfjcibkgbalkaaa.GiIsTimetable.C (list) A0 c0 _   (Lib.hid (Cells.below M0.out HB.out)) N0 qt_2).mono ?_
  rintro e_t_2 wt_2 ⟨rfl, bt_2⟩
  have HBwt_2 := Lib.hid (Below.step HB.out bt_2)
  clear bt_2
  replace H := join_hid H
  cases t_2 with
  | false =>
    replace H := ite_f H
    replace H := app_hid H
    replace H := join_hid H
    replace H := ite_f H
    replace H := app_hid H
    obtain rfl := ret_hid H
    go_wp2_with fail
    go_ret
    exact ⟨rfl, HBwt_2.out⟩
  | true =>
    replace H := ite_t H
    replace H := bind_hid H
    obtain ⟨t_5, qt_5, H⟩ := H
    go_wp2_with fail
    go_at_call 97
    refine (Go.Proofs.Ytfjcibkgbalkaaa.GiIsPostOffice.C (from_1)  _    qt_5).mono ?_
    rintro e_t_5 wt_5 ⟨rfl, bt_5⟩
    have HBwt_5 := Lib.hid (Below.step HBwt_2.out bt_5)
    clear bt_5
    replace H := app_hid H
    replace H := join_hid H
    cases t_5 with
    | false =>
      replace H := ite_f H
      replace H := app_hid H
      obtain rfl := ret_hid H
      go_wp2_with fail
      go_ret
      exact ⟨rfl, HBwt_5.out⟩
    | true =>
      replace H := ite_t H
      replace H := bind_hid H
      obtain ⟨t_9, qt_9, H⟩ := H
      go_wp2_with fail
      go_at_call 102
      refine (Go.Proofs.Ytfjcibkgbalkaaa.GiIsMinute.C (minute)  _    qt_9).mono ?_
      rintro e_t_9 wt_9 ⟨rfl, bt_9⟩
      have HBwt_9 := Lib.hid (Below.step HBwt_5.out bt_9)
      clear bt_9
      replace H := app_hid H
      obtain rfl := ret_hid H
      go_wp2_with fail
      go_ret
      exact ⟨rfl, HBwt_9.out⟩
end Go.Proofs.Ytfjcibkgbalkaaa.GiCanBegin
