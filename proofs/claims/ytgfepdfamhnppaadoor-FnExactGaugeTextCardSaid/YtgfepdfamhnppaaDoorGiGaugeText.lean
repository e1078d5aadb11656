/- loop.example/g01062/impl.GaugeText as a plain function, and the contract of the program's: where the plain one has an answer, the program has it. Conditions: slices read as lists. -/
import Derived.Test.YtgfepdfamhnppaaDoorChecked
import Derived.Test.YtgfepdfamhnppaaDoorGoM
import Derived.Test.YtgfepdfamhnppaaDoorTab
import Derived.Test.YtgfepdfamhnppaaDoorGiIsGauge
import Derived.Test.YtgfepdfamhnppaaDoorGiHundredths
import Derived.Test.YtgfepdfamhnppaaDoorGxStringsTrimRight
import Derived.Test.YtgfepdfamhnppaaDoorGxStringsTrimSuffix
import Derived.WalkKit
import Derived.WalkSpells
import Derived.WalkLawsBesides
import Derived.BigQuiet
import Derived.OwnWalk
import Derived.Deep.LoopGhost
import Derived.Deep.QuietTactic
import Derived.IntWalk
import Derived.Lib.QuietBelow
namespace Go.Proofs.YtgfepdfamhnppaaDoor.GiGaugeText
set_option linter.unusedVariables false
set_option linter.unusedSimpArgs false
open Go.RowKit
open Go.Proofs.YtgfepdfamhnppaaDoor.Rowed Go.Proofs.YtgfepdfamhnppaaDoor.Turn Go.Proofs.YtgfepdfamhnppaaDoor.Aid Go.Proofs.YtgfepdfamhnppaaDoor.GoP Go.Proofs.YtgfepdfamhnppaaDoor.GoM Go.Proofs.YtgfepdfamhnppaaDoor.Tab

def P (gauge : Int) : Option (ByteArray × Bool) :=
  Option.bind (Go.Proofs.YtgfepdfamhnppaaDoor.GiIsGauge.P gauge) fun (t_3 : Bool) =>
  letK (!t_3) fun (t_4 : Bool) =>
  iteK t_4
  (some ((⟨#[]⟩ : ByteArray), false))
  (Option.bind (Go.Proofs.YtgfepdfamhnppaaDoor.GiHundredths.P gauge) fun (t_8 : ByteArray) =>
  Option.bind (Go.Proofs.YtgfepdfamhnppaaDoor.GxStringsTrimRight.P t_8 (⟨#[48]⟩ : ByteArray)) fun (t_9 : ByteArray) =>
  Option.bind (Go.Proofs.YtgfepdfamhnppaaDoor.GxStringsTrimSuffix.P t_9 (⟨#[46]⟩ : ByteArray)) fun (t_12 : ByteArray) =>
  some (t_12, true))

set_option maxRecDepth 100000 in
set_option maxHeartbeats 2000000 in
theorem C (gauge : Int)   (w : World) (HT : Hid (Tab w))   {r0 : ByteArray} {r1 : Bool} (H : Hid (P gauge = some (r0, r1))) :
    Calls Tryd.prog 7 #[.int .i64 gauge] w (Gives (.tuple #[.string r0, .bool r1]) w) := by
  have HB := Lib.hid (Below.refl w.heap.size w)
  unfold P at H
  go_enter Tryd.func7, Tryd.ntmps7
  replace H := bind_hid H
  obtain ⟨t_3, qt_3, H⟩ := H
  go_wp2_with fail
  go_at_call 15
  refine (Go.Proofs.YtgfepdfamhnppaaDoor.GiIsGauge.C (gauge)  _   qt_3).mono ?_
  rintro e_t_3 wt_3 ⟨rfl, bt_3⟩
  have HBwt_3 := Lib.hid (Below.step HB.out bt_3)
  clear bt_3
  cases t_3 with
  | false =>
    replace H := let_hid H
    obtain ⟨t_4, ht_4, H⟩ := H
    obtain rfl : t_4 = true := ht_4.symm
    replace H := ite_t H
    cases ret_hid H
    go_wp2_with fail
    go_ret2
    exact ⟨rfl, HBwt_3.out⟩
  | true =>
    replace H := let_hid H
    obtain ⟨t_4, ht_4, H⟩ := H
    obtain rfl : t_4 = false := ht_4.symm
    replace H := ite_f H
    replace H := bind_hid H
    obtain ⟨t_8, qt_8, H⟩ := H
    go_wp2_with fail
    go_at_call 17
    refine (Go.Proofs.YtgfepdfamhnppaaDoor.GiHundredths.C (gauge)  _ (tab_below HBwt_3.out HT)  qt_8).mono ?_
    rintro e_t_8 wt_8 ⟨rfl, bt_8⟩
    have HBwt_8 := Lib.hid (Below.step HBwt_3.out bt_8)
    clear bt_8
    replace H := bind_hid H
    obtain ⟨t_9, qt_9, H⟩ := H
    go_wp2_with fail
    go_at_call 16
    refine (Go.Proofs.YtgfepdfamhnppaaDoor.GxStringsTrimRight.C (t_8) ((⟨#[48]⟩ : ByteArray))  _   qt_9).mono ?_
    rintro e_t_9 wt_9 ⟨rfl, bt_9⟩
    have HBwt_9 := Lib.hid (Below.step HBwt_8.out bt_9)
    clear bt_9
    replace H := bind_hid H
    obtain ⟨t_12, qt_12, H⟩ := H
    go_wp2_with fail
    go_at_call 18
    refine (Go.Proofs.YtgfepdfamhnppaaDoor.GxStringsTrimSuffix.C (t_9) ((⟨#[46]⟩ : ByteArray))  _   qt_12).mono ?_
    rintro e_t_12 wt_12 ⟨rfl, bt_12⟩
    have HBwt_12 := Lib.hid (Below.step HBwt_9.out bt_12)
    clear bt_12
    cases ret_hid H
    go_wp2_with fail
    go_ret2
    exact ⟨rfl, HBwt_12.out⟩
end Go.Proofs.YtgfepdfamhnppaaDoor.GiGaugeText
