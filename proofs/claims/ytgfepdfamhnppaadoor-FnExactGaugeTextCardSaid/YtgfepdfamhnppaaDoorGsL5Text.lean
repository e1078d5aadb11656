/- loop.example/g01062/spec.l5Text as a plain function, and the contract of the program's: where the plain one has an answer, the program has it. Conditions: slices read as lists. -/
import Derived.Test.YtgfepdfamhnppaaDoorChecked
import Derived.Test.YtgfepdfamhnppaaDoorGoM
import Derived.Test.YtgfepdfamhnppaaDoorGsL1Num
import Derived.WalkKit
import Derived.WalkSpells
import Derived.WalkLawsBesides
import Derived.BigQuiet
import Derived.OwnWalk
import Derived.Deep.LoopGhost
import Derived.Deep.QuietTactic
import Derived.IntWalk
import Derived.Lib.QuietBelow
namespace Go.Proofs.YtgfepdfamhnppaaDoor.GsL5Text
set_option linter.unusedVariables false
set_option linter.unusedSimpArgs false
open Go.RowKit
open Go.Proofs.YtgfepdfamhnppaaDoor.Rowed Go.Proofs.YtgfepdfamhnppaaDoor.Turn Go.Proofs.YtgfepdfamhnppaaDoor.Aid Go.Proofs.YtgfepdfamhnppaaDoor.GoP Go.Proofs.YtgfepdfamhnppaaDoor.GoM

def j1  (s : ByteArray) : Option (ByteArray) :=
  some s

def j0 (gauge : Int) (s : ByteArray) : Option (ByteArray) :=
  letK (Int.tmod gauge 10) fun (t_17 : Int) =>
  letK (decide (0 < t_17)) fun (t_18 : Bool) =>
  iteK t_18
  (letK (Int.tmod gauge 10) fun (t_21 : Int) =>
  Option.bind (Go.Proofs.YtgfepdfamhnppaaDoor.GsL1Num.P t_21) fun (t_22 : ByteArray) =>
  guardK (s.size + t_22.size ≤ maxLen) <|
  letK (s ++ t_22) fun (t_23 : ByteArray) =>
  j1  (t_23))
  (j1  (s))

def P (gauge : Int) : Option (ByteArray) :=
  letK (IntKind.i64.wrap (Int.tdiv gauge 100)) fun (t_2 : Int) =>
  Option.bind (Go.Proofs.YtgfepdfamhnppaaDoor.GsL1Num.P t_2) fun (t_3 : ByteArray) =>
  letK (Int.tmod gauge 100) fun (t_6 : Int) =>
  letK (decide (0 < t_6)) fun (t_7 : Bool) =>
  iteK t_7
  (guardK (t_3.size + (⟨#[46]⟩ : ByteArray).size ≤ maxLen) <|
  letK (t_3 ++ (⟨#[46]⟩ : ByteArray)) fun (t_9 : ByteArray) =>
  letK (IntKind.i64.wrap (Int.tdiv gauge 10)) fun (t_11 : Int) =>
  letK (Int.tmod t_11 10) fun (t_12 : Int) =>
  Option.bind (Go.Proofs.YtgfepdfamhnppaaDoor.GsL1Num.P t_12) fun (t_13 : ByteArray) =>
  guardK (t_9.size + t_13.size ≤ maxLen) <|
  letK (t_9 ++ t_13) fun (t_14 : ByteArray) =>
  j0 gauge (t_14))
  (j0 gauge (t_3))

set_option maxRecDepth 100000 in
set_option maxHeartbeats 2000000 in
theorem C (gauge : Int)   (w : World)   {r : ByteArray} (H : Hid (P gauge = some r)) :
    Calls Tryd.prog 14 #[.int .i64 gauge] w (Gives (.string r) w) := by
  have HB := Lib.hid (Below.refl w.heap.size w)
  unfold P at H
  go_enter Tryd.func14, Tryd.ntmps14
  replace H := let_hid H
  obtain ⟨t_2, ht_2, H⟩ := H
  replace H := bind_hid H
  obtain ⟨t_3, qt_3, H⟩ := H
  go_wp2_with fail
  go_at_call 20
  refine (Go.Proofs.YtgfepdfamhnppaaDoor.GsL1Num.C (t_2)  _   qt_3).mono ?_
  rintro e_t_3 wt_3 ⟨rfl, bt_3⟩
  have HBwt_3 := Lib.hid (Below.step HB.out bt_3)
  clear bt_3
  replace H := let_hid H
  obtain ⟨t_6, ht_6, H⟩ := H
  replace H := let_hid H
  obtain ⟨t_7, ht_7, H⟩ := H
  cases t_7 with
  | false =>
    replace H := ite_f H
    unfold j0 at H
    replace H := let_hid H
    obtain ⟨t_17, ht_17, H⟩ := H
    replace H := let_hid H
    obtain ⟨t_18, ht_18, H⟩ := H
    cases t_18 with
    | false =>
      replace H := ite_f H
      unfold j1 at H
      obtain rfl := ret_hid H
      go_wp2_with fail
      go_ret
      exact ⟨rfl, HBwt_3.out⟩
    | true =>
      replace H := ite_t H
      replace H := let_hid H
      obtain ⟨t_21, ht_21, H⟩ := H
      obtain rfl := ht_17.symm.trans ht_21
      replace H := bind_hid H
      obtain ⟨t_22, qt_22, H⟩ := H
      go_wp2_with fail
      go_at_call 20
      refine (Go.Proofs.YtgfepdfamhnppaaDoor.GsL1Num.C (t_17)  _   qt_22).mono ?_
      rintro e_t_22 wt_22 ⟨rfl, bt_22⟩
      have HBwt_22 := Lib.hid (Below.step HBwt_3.out bt_22)
      clear bt_22
      replace H := guard_hid H
      obtain ⟨hl_t_23, H⟩ := H
      replace H := let_hid H
      obtain ⟨t_23, ht_23, H⟩ := H
      have ct_23 := cat_rule (P := Tryd.prog) ht_23 hl_t_23
      clear hl_t_23
      have hht_23 := Lib.hid ht_23
      clear ht_23
      unfold j1 at H
      obtain rfl := ret_hid H
      go_wp2_with fail
      go_ret
      exact ⟨rfl, HBwt_22.out⟩
  | true =>
    replace H := ite_t H
    replace H := guard_hid H
    obtain ⟨hl_t_9, H⟩ := H
    replace H := let_hid H
    obtain ⟨t_9, ht_9, H⟩ := H
    have ct_9 := cat_rule (P := Tryd.prog) ht_9 hl_t_9
    clear hl_t_9
    have hht_9 := Lib.hid ht_9
    clear ht_9
    replace H := let_hid H
    obtain ⟨t_11, ht_11, H⟩ := H
    replace H := let_hid H
    obtain ⟨t_12, ht_12, H⟩ := H
    replace H := bind_hid H
    obtain ⟨t_13, qt_13, H⟩ := H
    go_wp2_with fail
    go_at_call 20
    refine (Go.Proofs.YtgfepdfamhnppaaDoor.GsL1Num.C (t_12)  _   qt_13).mono ?_
    rintro e_t_13 wt_13 ⟨rfl, bt_13⟩
    have HBwt_13 := Lib.hid (Below.step HBwt_3.out bt_13)
    clear bt_13
    replace H := guard_hid H
    obtain ⟨hl_t_14, H⟩ := H
    replace H := let_hid H
    obtain ⟨t_14, ht_14, H⟩ := H
    have ct_14 := cat_rule (P := Tryd.prog) ht_14 hl_t_14
    clear hl_t_14
    have hht_14 := Lib.hid ht_14
    clear ht_14
    unfold j0 at H
    replace H := let_hid H
    obtain ⟨t_17, ht_17, H⟩ := H
    replace H := let_hid H
    obtain ⟨t_18, ht_18, H⟩ := H
    cases t_18 with
    | false =>
      replace H := ite_f H
      unfold j1 at H
      obtain rfl := ret_hid H
      go_wp2_with fail
      go_ret
      exact ⟨rfl, HBwt_13.out⟩
    | true =>
      replace H := ite_t H
      replace H := let_hid H
      obtain ⟨t_21, ht_21, H⟩ := H
      obtain rfl := ht_17.symm.trans ht_21
      replace H := bind_hid H
      obtain ⟨t_22, qt_22, H⟩ := H
      go_wp2_with fail
      go_at_call 20
      refine (Go.Proofs.YtgfepdfamhnppaaDoor.GsL1Num.C (t_17)  _   qt_22).mono ?_
      rintro e_t_22 wt_22 ⟨rfl, bt_22⟩
      have HBwt_22 := Lib.hid (Below.step HBwt_13.out bt_22)
      clear bt_22
      replace H := guard_hid H
      obtain ⟨hl_t_23, H⟩ := H
      replace H := let_hid H
      obtain ⟨t_23, ht_23, H⟩ := H
      have ct_23 := cat_rule (P := Tryd.prog) ht_23 hl_t_23
      clear hl_t_23
      have hht_23 := Lib.hid ht_23
      clear ht_23
      unfold j1 at H
      obtain rfl := ret_hid H
      go_wp2_with fail
      go_ret
      exact ⟨rfl, HBwt_22.out⟩
end Go.Proofs.YtgfepdfamhnppaaDoor.GsL5Text
