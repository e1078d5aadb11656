/- loop.example/g01062/impl.hundredths as a plain function, and the contract of the program's: where the plain one has an answer, the program has it. Conditions: slices read as lists. -/
import Derived.Test.YtfnghemjonkjiaaDoorChecked
import Derived.Test.YtfnghemjonkjiaaDoorGoM
import Derived.Test.YtfnghemjonkjiaaDoorTab
import Derived.Test.YtfnghemjonkjiaaDoorGxStrconvItoa
import Derived.WalkKit
import Derived.WalkSpells
import Derived.WalkLawsBesides
import Derived.BigQuiet
import Derived.OwnWalk
import Derived.Deep.LoopGhost
import Derived.Deep.QuietTactic
import Derived.IntWalk
import Derived.Lib.QuietBelow
namespace Go.Proofs.YtfnghemjonkjiaaDoor.GiHundredths
set_option linter.unusedVariables false
set_option linter.unusedSimpArgs false
open Go.RowKit
open Go.Proofs.YtfnghemjonkjiaaDoor.Rowed Go.Proofs.YtfnghemjonkjiaaDoor.Turn Go.Proofs.YtfnghemjonkjiaaDoor.Aid Go.Proofs.YtfnghemjonkjiaaDoor.GoP Go.Proofs.YtfnghemjonkjiaaDoor.GoM Go.Proofs.YtfnghemjonkjiaaDoor.Tab

def P (n_0 : Int) : Option (ByteArray) :=
  letK (Int.tmod n_0 100) fun (t_2 : Int) =>
  letK (IntKind.i64.wrap (100 + t_2)) fun (t_3 : Int) =>
  Option.bind (Go.Proofs.YtfnghemjonkjiaaDoor.GxStrconvItoa.P t_3) fun (t_4 : ByteArray) =>
  guardK ((0 : Int) ≤ 1 ∧ (1 : Int) ≤ (t_4.size : Int)) <|
  letK (ByteArray.extract t_4 (Int.toNat 1) t_4.size) fun (t_5 : ByteArray) =>
  letK (IntKind.i64.wrap (Int.tdiv n_0 100)) fun (t_8 : Int) =>
  Option.bind (Go.Proofs.YtfnghemjonkjiaaDoor.GxStrconvItoa.P t_8) fun (t_9 : ByteArray) =>
  guardK (t_9.size + (⟨#[46]⟩ : ByteArray).size ≤ maxLen) <|
  letK (t_9 ++ (⟨#[46]⟩ : ByteArray)) fun (t_10 : ByteArray) =>
  guardK (t_10.size + t_5.size ≤ maxLen) <|
  letK (t_10 ++ t_5) fun (t_12 : ByteArray) =>
  some t_12

set_option maxRecDepth 100000 in
set_option maxHeartbeats 2000000 in
theorem C (n_0 : Int)   (w : World) (HT : Hid (Tab w))   {r : ByteArray} (H : Hid (P n_0 = some r)) :
    Calls Tryd.prog 17 #[.int .i64 n_0] w (Gives (.string r) w) := by
  have HB := Lib.hid (Below.refl w.heap.size w)
  unfold P at H
  go_enter Tryd.func17, Tryd.ntmps17
  replace H := let_hid H
  obtain ⟨t_2, ht_2, H⟩ := H
  replace H := let_hid H
  obtain ⟨t_3, ht_3, H⟩ := H
  replace H := bind_hid H
  obtain ⟨t_4, qt_4, H⟩ := H
  go_wp2_with fail
  go_at_call 11
  refine (Go.Proofs.YtfnghemjonkjiaaDoor.GxStrconvItoa.C (t_3)  _ (tab_below HB.out HT)   qt_4).mono ?_
  rintro e_t_4 wt_4 ⟨rfl, bt_4⟩
  have HBwt_4 := Lib.hid (Below.step HB.out bt_4)
  clear bt_4
  replace H := guard_hid H
  obtain ⟨hl_t_5, H⟩ := H
  replace H := let_hid H
  obtain ⟨t_5, ht_5, H⟩ := H
  have ct_5 := slice_from (P := Tryd.prog) (t := 9) (k := .i64) Tryd.underlying9 ht_5 hl_t_5
  clear hl_t_5
  have hht_5 := Lib.hid ht_5
  clear ht_5
  replace H := let_hid H
  obtain ⟨t_8, ht_8, H⟩ := H
  replace H := bind_hid H
  obtain ⟨t_9, qt_9, H⟩ := H
  go_wp2_with fail
  go_at_call 11
  refine (Go.Proofs.YtfnghemjonkjiaaDoor.GxStrconvItoa.C (t_8)  _ (tab_below HBwt_4.out HT)   qt_9).mono ?_
  rintro e_t_9 wt_9 ⟨rfl, bt_9⟩
  have HBwt_9 := Lib.hid (Below.step HBwt_4.out bt_9)
  clear bt_9
  replace H := guard_hid H
  obtain ⟨hl_t_10, H⟩ := H
  replace H := let_hid H
  obtain ⟨t_10, ht_10, H⟩ := H
  have ct_10 := cat_rule (P := Tryd.prog) ht_10 hl_t_10
  clear hl_t_10
  have hht_10 := Lib.hid ht_10
  clear ht_10
  replace H := guard_hid H
  obtain ⟨hl_t_12, H⟩ := H
  replace H := let_hid H
  obtain ⟨t_12, ht_12, H⟩ := H
  have ct_12 := cat_rule (P := Tryd.prog) ht_12 hl_t_12
  clear hl_t_12
  have hht_12 := Lib.hid ht_12
  clear ht_12
  obtain rfl := ret_hid H
  go_wp2_with fail
  go_ret
  exact ⟨rfl, HBwt_9.out⟩
end Go.Proofs.YtfnghemjonkjiaaDoor.GiHundredths
