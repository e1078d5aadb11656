/- loop.example/g01062/spec.l2Face as a plain function, and the contract of the program's: where the plain one has an answer, the program has it. Conditions: slices read as lists. -/
import Derived.Test.YtfnghemjonkjiaaDoorChecked
import Derived.Test.YtfnghemjonkjiaaDoorGoM
import Derived.Test.YtfnghemjonkjiaaDoorGsL1Num
import Derived.WalkKit
import Derived.WalkSpells
import Derived.WalkLawsBesides
import Derived.BigQuiet
import Derived.OwnWalk
import Derived.Deep.LoopGhost
import Derived.Deep.QuietTactic
import Derived.IntWalk
import Derived.Lib.QuietBelow
namespace Go.Proofs.YtfnghemjonkjiaaDoor.GsL2Face
set_option linter.unusedVariables false
set_option linter.unusedSimpArgs false
open Go.RowKit
open Go.Proofs.YtfnghemjonkjiaaDoor.Rowed Go.Proofs.YtfnghemjonkjiaaDoor.Turn Go.Proofs.YtfnghemjonkjiaaDoor.Aid Go.Proofs.YtfnghemjonkjiaaDoor.GoP Go.Proofs.YtfnghemjonkjiaaDoor.GoM

def P (face : Int) : Option (ByteArray) :=
  letK (IntKind.i64.wrap (Int.tdiv face 100)) fun (t_2 : Int) =>
  Option.bind (Go.Proofs.YtfnghemjonkjiaaDoor.GsL1Num.P t_2) fun (t_3 : ByteArray) =>
  guardK (t_3.size + (⟨#[46]⟩ : ByteArray).size ≤ maxLen) <|
  letK (t_3 ++ (⟨#[46]⟩ : ByteArray)) fun (t_4 : ByteArray) =>
  letK (IntKind.i64.wrap (Int.tdiv face 10)) fun (t_6 : Int) =>
  letK (Int.tmod t_6 10) fun (t_7 : Int) =>
  Option.bind (Go.Proofs.YtfnghemjonkjiaaDoor.GsL1Num.P t_7) fun (t_8 : ByteArray) =>
  guardK (t_4.size + t_8.size ≤ maxLen) <|
  letK (t_4 ++ t_8) fun (t_9 : ByteArray) =>
  letK (Int.tmod face 10) fun (t_11 : Int) =>
  Option.bind (Go.Proofs.YtfnghemjonkjiaaDoor.GsL1Num.P t_11) fun (t_12 : ByteArray) =>
  guardK (t_9.size + t_12.size ≤ maxLen) <|
  letK (t_9 ++ t_12) fun (t_13 : ByteArray) =>
  some t_13

set_option maxRecDepth 100000 in
set_option maxHeartbeats 2000000 in
theorem C (face : Int)   (w : World)   {r : ByteArray} (H : Hid (P face = some r)) :
    Calls Tryd.prog 15 #[.int .i64 face] w (Gives (.string r) w) := by
  have HB := Lib.hid (Below.refl w.heap.size w)
  unfold P at H
  go_enter Tryd.func15, Tryd.ntmps15
  replace H := let_hid H
  obtain ⟨t_2, ht_2, H⟩ := H
  replace H := bind_hid H
  obtain ⟨t_3, qt_3, H⟩ := H
  go_wp2_with fail
  go_at_call 14
  refine (Go.Proofs.YtfnghemjonkjiaaDoor.GsL1Num.C (t_2)  _    qt_3).mono ?_
  rintro e_t_3 wt_3 ⟨rfl, bt_3⟩
  have HBwt_3 := Lib.hid (Below.step HB.out bt_3)
  clear bt_3
  replace H := guard_hid H
  obtain ⟨hl_t_4, H⟩ := H
  replace H := let_hid H
  obtain ⟨t_4, ht_4, H⟩ := H
  have ct_4 := cat_rule (P := Tryd.prog) ht_4 hl_t_4
  clear hl_t_4
  have hht_4 := Lib.hid ht_4
  clear ht_4
  replace H := let_hid H
  obtain ⟨t_6, ht_6, H⟩ := H
  replace H := let_hid H
  obtain ⟨t_7, ht_7, H⟩ := H
  replace H := bind_hid H
  obtain ⟨t_8, qt_8, H⟩ := H
  go_wp2_with fail
  go_at_call 14
  refine (Go.Proofs.YtfnghemjonkjiaaDoor.GsL1Num.C (t_7)  _    qt_8).mono ?_
  rintro e_t_8 wt_8 ⟨rfl, bt_8⟩
  have HBwt_8 := Lib.hid (Below.step HBwt_3.out bt_8)
  clear bt_8
  replace H := guard_hid H
  obtain ⟨hl_t_9, H⟩ := H
  replace H := let_hid H
  obtain ⟨t_9, ht_9, H⟩ := H
  have ct_9 := cat_rule (P := Tryd.prog) ht_9 hl_t_9
  clear hl_t_9
  have hht_9 := Lib.hid ht_9
  clear ht_9
  replace H := let_hid H
  obtain ⟨t_11, ht_11, H⟩ := H
  replace H := bind_hid H
  obtain ⟨t_12, qt_12, H⟩ := H
  go_wp2_with fail
  go_at_call 14
  refine (Go.Proofs.YtfnghemjonkjiaaDoor.GsL1Num.C (t_11)  _    qt_12).mono ?_
  rintro e_t_12 wt_12 ⟨rfl, bt_12⟩
  have HBwt_12 := Lib.hid (Below.step HBwt_8.out bt_12)
  clear bt_12
  replace H := guard_hid H
  obtain ⟨hl_t_13, H⟩ := H
  replace H := let_hid H
  obtain ⟨t_13, ht_13, H⟩ := H
  have ct_13 := cat_rule (P := Tryd.prog) ht_13 hl_t_13
  clear hl_t_13
  have hht_13 := Lib.hid ht_13
  clear ht_13
  obtain rfl := ret_hid H
  go_wp2_with fail
  go_ret
  exact ⟨rfl, HBwt_12.out⟩
end Go.Proofs.YtfnghemjonkjiaaDoor.GsL2Face
