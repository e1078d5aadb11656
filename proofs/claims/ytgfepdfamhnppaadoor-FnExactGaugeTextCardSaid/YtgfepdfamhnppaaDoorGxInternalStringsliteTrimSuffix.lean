/- internal/stringslite.TrimSuffix as a plain function, and the contract of the program's: where the plain one has an answer, the program has it. Conditions: slices read as lists. -/
import Derived.Test.YtgfepdfamhnppaaDoorChecked
import Derived.Test.YtgfepdfamhnppaaDoorGoM
import Derived.Test.YtgfepdfamhnppaaDoorGxInternalStringsliteHasSuffix
import Derived.WalkKit
import Derived.WalkSpells
import Derived.WalkLawsBesides
import Derived.BigQuiet
import Derived.OwnWalk
import Derived.Deep.LoopGhost
import Derived.Deep.QuietTactic
import Derived.IntWalk
import Derived.Lib.QuietBelow
namespace Go.Proofs.YtgfepdfamhnppaaDoor.GxInternalStringsliteTrimSuffix
set_option linter.unusedVariables false
set_option linter.unusedSimpArgs false
open Go.RowKit
open Go.Proofs.YtgfepdfamhnppaaDoor.Rowed Go.Proofs.YtgfepdfamhnppaaDoor.Turn Go.Proofs.YtgfepdfamhnppaaDoor.Aid Go.Proofs.YtgfepdfamhnppaaDoor.GoP Go.Proofs.YtgfepdfamhnppaaDoor.GoM

def P (s_0 : ByteArray) (suffix : ByteArray) : Option (ByteArray) :=
  Option.bind (Go.Proofs.YtgfepdfamhnppaaDoor.GxInternalStringsliteHasSuffix.P s_0 suffix) fun (t_3 : Bool) =>
  iteK t_3
  (letK (IntKind.i64.wrap ((s_0.size : Int) - (suffix.size : Int))) fun (t_9 : Int) =>
  guardK ((0 : Int) ≤ t_9 ∧ (t_9 : Int) ≤ (s_0.size : Int)) <|
  letK (ByteArray.extract s_0 0 (Int.toNat t_9)) fun (t_10 : ByteArray) =>
  some t_10)
  (some s_0)

set_option maxRecDepth 100000 in
set_option maxHeartbeats 2000000 in
theorem C (s_0 : ByteArray) (suffix : ByteArray)   (w : World)   {r : ByteArray} (H : Hid (P s_0 suffix = some r)) :
    Calls Tryd.prog 30 #[.string s_0, .string suffix] w (Gives (.string r) w) := by
  have HB := Lib.hid (Below.refl w.heap.size w)
  unfold P at H
  go_enter Tryd.func30, Tryd.ntmps30
  replace H := bind_hid H
  obtain ⟨t_3, qt_3, H⟩ := H
  go_wp2_with fail
  go_at_call 35
  refine (Go.Proofs.YtgfepdfamhnppaaDoor.GxInternalStringsliteHasSuffix.C (s_0) (suffix)  _   qt_3).mono ?_
  rintro e_t_3 wt_3 ⟨rfl, bt_3⟩
  have HBwt_3 := Lib.hid (Below.step HB.out bt_3)
  clear bt_3
  cases t_3 with
  | false =>
    replace H := ite_f H
    obtain rfl := ret_hid H
    go_wp2_with fail
    go_ret
    exact ⟨rfl, HBwt_3.out⟩
  | true =>
    replace H := ite_t H
    replace H := let_hid H
    obtain ⟨t_9, ht_9, H⟩ := H
    replace H := guard_hid H
    obtain ⟨hl_t_10, H⟩ := H
    replace H := let_hid H
    obtain ⟨t_10, ht_10, H⟩ := H
    have ct_10 := slice_to (P := Tryd.prog) (t := 9) (k := .i64) Tryd.underlying9 ht_10 hl_t_10
    clear hl_t_10
    have hht_10 := Lib.hid ht_10
    clear ht_10
    obtain rfl := ret_hid H
    go_wp2_with fail
    go_ret
    exact ⟨rfl, HBwt_3.out⟩
end Go.Proofs.YtgfepdfamhnppaaDoor.GxInternalStringsliteTrimSuffix
