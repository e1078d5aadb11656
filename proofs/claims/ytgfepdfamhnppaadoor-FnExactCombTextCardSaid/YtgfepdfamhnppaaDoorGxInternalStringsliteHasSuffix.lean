/- internal/stringslite.HasSuffix as a plain function, and the contract of the program's: where the plain one has an answer, the program has it. Conditions: slices read as lists. -/
import Derived.Test.YtgfepdfamhnppaaDoorChecked
import Derived.Test.YtgfepdfamhnppaaDoorGoM
import Derived.WalkKit
import Derived.WalkSpells
import Derived.WalkLawsBesides
import Derived.BigQuiet
import Derived.OwnWalk
import Derived.Deep.LoopGhost
import Derived.Deep.QuietTactic
import Derived.IntWalk
import Derived.Lib.QuietBelow
namespace Go.Proofs.YtgfepdfamhnppaaDoor.GxInternalStringsliteHasSuffix
set_option linter.unusedVariables false
set_option linter.unusedSimpArgs false
open Go.RowKit
open Go.Proofs.YtgfepdfamhnppaaDoor.Rowed Go.Proofs.YtgfepdfamhnppaaDoor.Turn Go.Proofs.YtgfepdfamhnppaaDoor.Aid Go.Proofs.YtgfepdfamhnppaaDoor.GoP Go.Proofs.YtgfepdfamhnppaaDoor.GoM

def P (s_0 : ByteArray) (suffix : ByteArray) : Option (Bool) :=
  letK (decide ((suffix.size : Int) ≤ (s_0.size : Int))) fun (t_5 : Bool) =>
  joinK (fun (t_16 : Bool) =>
  some t_16) fun jt_16 => iteK t_5 (letK (IntKind.i64.wrap ((s_0.size : Int) - (suffix.size : Int))) fun (t_12 : Int) =>
  guardK ((0 : Int) ≤ t_12 ∧ (t_12 : Int) ≤ (s_0.size : Int)) <|
  letK (ByteArray.extract s_0 (Int.toNat t_12) s_0.size) fun (t_13 : ByteArray) =>
  letK (t_13.toList == suffix.toList) fun (t_15 : Bool) =>
  appK jt_16 t_15) (appK jt_16 false)

set_option maxRecDepth 100000 in
set_option maxHeartbeats 2000000 in
theorem C (s_0 : ByteArray) (suffix : ByteArray)   (w : World)   {r : Bool} (H : Hid (P s_0 suffix = some r)) :
    Calls Tryd.prog 35 #[.string s_0, .string suffix] w (Gives (.bool r) w) := by
  have HB := Lib.hid (Below.refl w.heap.size w)
  unfold P at H
  go_enter Tryd.func35, Tryd.ntmps35
  replace H := let_hid H
  obtain ⟨t_5, ht_5, H⟩ := H
  replace H := join_hid H
  cases t_5 with
  | false =>
    have nht_5 : ¬ (suffix.size ≤ s_0.size) := by have := of_decide_eq_false ht_5; omega
    replace H := ite_f H
    replace H := app_hid H
    obtain rfl := ret_hid H
    go_wp2_with fail
    go_ret
    exact ⟨rfl, HB.out⟩
  | true =>
    have nht_5 : suffix.size ≤ s_0.size := by have := of_decide_eq_true ht_5; omega
    replace H := ite_t H
    replace H := let_hid H
    obtain ⟨t_12, ht_12, H⟩ := H
    replace H := guard_hid H
    obtain ⟨hl_t_13, H⟩ := H
    replace H := let_hid H
    obtain ⟨t_13, ht_13, H⟩ := H
    have ct_13 := slice_from (P := Tryd.prog) (t := 9) (k := .i64) Tryd.underlying9 ht_13 hl_t_13
    clear hl_t_13
    have hht_13 := Lib.hid ht_13
    clear ht_13
    replace H := let_hid H
    obtain ⟨t_15, ht_15, H⟩ := H
    replace H := app_hid H
    obtain rfl := ret_hid H
    go_wp2_with fail
    go_ret
    exact ⟨rfl, HB.out⟩

set_option maxRecDepth 100000 in
set_option maxHeartbeats 2000000 in
theorem C0 (s_0 : ByteArray) (suffix : ByteArray)   (w : World)   {r : Bool} (H : Hid (P s_0 suffix = some r)) :
    Calls Tryd.prog 35 #[.string s_0, .string suffix] w (fun e w'' => e = .returned (.bool r) ∧ w'' = w) := by
  have HB := Lib.hid (Below.refl w.heap.size w)
  unfold P at H
  go_enter Tryd.func35, Tryd.ntmps35
  replace H := let_hid H
  obtain ⟨t_5, ht_5, H⟩ := H
  replace H := join_hid H
  cases t_5 with
  | false =>
    have nht_5 : ¬ (suffix.size ≤ s_0.size) := by have := of_decide_eq_false ht_5; omega
    replace H := ite_f H
    replace H := app_hid H
    obtain rfl := ret_hid H
    go_wp2_with fail
    go_ret
    exact ⟨rfl, rfl⟩
  | true =>
    have nht_5 : suffix.size ≤ s_0.size := by have := of_decide_eq_true ht_5; omega
    replace H := ite_t H
    replace H := let_hid H
    obtain ⟨t_12, ht_12, H⟩ := H
    replace H := guard_hid H
    obtain ⟨hl_t_13, H⟩ := H
    replace H := let_hid H
    obtain ⟨t_13, ht_13, H⟩ := H
    have ct_13 := slice_from (P := Tryd.prog) (t := 9) (k := .i64) Tryd.underlying9 ht_13 hl_t_13
    clear hl_t_13
    have hht_13 := Lib.hid ht_13
    clear ht_13
    replace H := let_hid H
    obtain ⟨t_15, ht_15, H⟩ := H
    replace H := app_hid H
    obtain rfl := ret_hid H
    go_wp2_with fail
    go_ret
    exact ⟨rfl, rfl⟩
end Go.Proofs.YtgfepdfamhnppaaDoor.GxInternalStringsliteHasSuffix
