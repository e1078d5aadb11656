/- loop.example/g01062/laws.FnExactGaugeText as a plain function, and the contract of the program's: where the plain one has an answer, the program has it. Conditions: slices read as lists. -/
import Derived.Test.YtgfepdfamhnppaaDoorChecked
import Derived.Test.YtgfepdfamhnppaaDoorGoM
import Derived.Test.YtgfepdfamhnppaaDoorTab
import Derived.Test.YtgfepdfamhnppaaDoorGsGaugeText
import Derived.Test.YtgfepdfamhnppaaDoorGiGaugeText
import Derived.WalkKit
import Derived.WalkSpells
import Derived.WalkLawsBesides
import Derived.BigQuiet
import Derived.OwnWalk
import Derived.Deep.LoopGhost
import Derived.Deep.QuietTactic
import Derived.IntWalk
import Derived.Lib.QuietBelow
namespace Go.Proofs.YtgfepdfamhnppaaDoor.GlFnExactGaugeText
set_option linter.unusedVariables false
set_option linter.unusedSimpArgs false
open Go.RowKit
open Go.Proofs.YtgfepdfamhnppaaDoor.Rowed Go.Proofs.YtgfepdfamhnppaaDoor.Turn Go.Proofs.YtgfepdfamhnppaaDoor.Aid Go.Proofs.YtgfepdfamhnppaaDoor.GoP Go.Proofs.YtgfepdfamhnppaaDoor.GoM Go.Proofs.YtgfepdfamhnppaaDoor.Tab

def P (aGauge : Int) : Option (Bool) :=
  bind2 (Go.Proofs.YtgfepdfamhnppaaDoor.GsGaugeText.P aGauge) fun (t_2a : ByteArray) (t_2b : Bool) =>
  bind2 (Go.Proofs.YtgfepdfamhnppaaDoor.GiGaugeText.P aGauge) fun (t_9a : ByteArray) (t_9b : Bool) =>
  letK (!(t_9a.toList == t_2a.toList)) fun (t_17 : Bool) =>
  joinK (fun (t_22 : Bool) =>
  iteK t_22
  (some false)
  (some true)) fun jt_22 => iteK t_17 (appK jt_22 true) (letK (t_9b != t_2b) fun (t_21 : Bool) =>
  appK jt_22 t_21)

set_option maxRecDepth 100000 in
set_option maxHeartbeats 2000000 in
theorem C (aGauge : Int)   (w : World) (HT : Hid (Tab w))   {r : Bool} (H : Hid (P aGauge = some r)) :
    Calls Tryd.prog 3 #[.int .i64 aGauge] w (Gives (.bool r) w) := by
  have HB := Lib.hid (Below.refl w.heap.size w)
  unfold P at H
  go_enter Tryd.func3, Tryd.ntmps3
  replace H := bind2_hid H
  obtain ⟨t_2a, t_2b, qt_2, H⟩ := H
  go_wp2_with fail
  go_at_call 6
  refine (Go.Proofs.YtgfepdfamhnppaaDoor.GsGaugeText.C (aGauge)  _   qt_2).mono ?_
  rintro e_t_2 wt_2 ⟨rfl, bt_2⟩
  have HBwt_2 := Lib.hid (Below.step HB.out bt_2)
  clear bt_2
  replace H := bind2_hid H
  obtain ⟨t_9a, t_9b, qt_9, H⟩ := H
  go_wp2_with fail
  go_at_call 7
  refine (Go.Proofs.YtgfepdfamhnppaaDoor.GiGaugeText.C (aGauge)  _ (tab_below HBwt_2.out HT)  qt_9).mono ?_
  rintro e_t_9 wt_9 ⟨rfl, bt_9⟩
  have HBwt_9 := Lib.hid (Below.step HBwt_2.out bt_9)
  clear bt_9
  replace H := let_hid H
  obtain ⟨t_17, ht_17, H⟩ := H
  replace H := join_hid H
  cases t_17 with
  | false =>
    replace H := ite_f H
    cases t_9b with
    | false =>
      cases t_2b with
      | false =>
        replace H := let_hid H
        obtain ⟨t_21, ht_21, H⟩ := H
        obtain rfl : t_21 = false := ht_21.symm
        replace H := app_hid H
        replace H := ite_f H
        obtain rfl := ret_hid H
        go_wp2_with fail
        go_ret
        exact ⟨rfl, HBwt_9.out⟩
      | true =>
        replace H := let_hid H
        obtain ⟨t_21, ht_21, H⟩ := H
        obtain rfl : t_21 = true := ht_21.symm
        replace H := app_hid H
        replace H := ite_t H
        obtain rfl := ret_hid H
        go_wp2_with fail
        go_ret
        exact ⟨rfl, HBwt_9.out⟩
    | true =>
      cases t_2b with
      | false =>
        replace H := let_hid H
        obtain ⟨t_21, ht_21, H⟩ := H
        obtain rfl : t_21 = true := ht_21.symm
        replace H := app_hid H
        replace H := ite_t H
        obtain rfl := ret_hid H
        go_wp2_with fail
        go_ret
        exact ⟨rfl, HBwt_9.out⟩
      | true =>
        replace H := let_hid H
        obtain ⟨t_21, ht_21, H⟩ := H
        obtain rfl : t_21 = false := ht_21.symm
        replace H := app_hid H
        replace H := ite_f H
        obtain rfl := ret_hid H
        go_wp2_with fail
        go_ret
        exact ⟨rfl, HBwt_9.out⟩
  | true =>
    replace H := ite_t H
    replace H := app_hid H
    replace H := ite_t H
    obtain rfl := ret_hid H
    go_wp2_with fail
    go_ret
    exact ⟨rfl, HBwt_9.out⟩
end Go.Proofs.YtgfepdfamhnppaaDoor.GlFnExactGaugeText
