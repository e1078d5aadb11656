/- loop.example/g01062/impl.FaceText as a plain function, and the contract of the program's: where the plain one has an answer, the program has it. Conditions: slices read as lists. -/
import Derived.Test.YtfbdaedoofkcbabDoorChecked
import Derived.Test.YtfbdaedoofkcbabDoorGoM
import Derived.Test.YtfbdaedoofkcbabDoorTab
import Derived.Test.YtfbdaedoofkcbabDoorGiWithin
import Derived.Test.YtfbdaedoofkcbabDoorGxStrconvItoa
import Derived.WalkKit
import Derived.WalkSpells
import Derived.WalkLawsBesides
import Derived.BigQuiet
import Derived.OwnWalk
import Derived.Deep.LoopGhost
import Derived.Deep.QuietTactic
import Derived.IntWalk
import Derived.Lib.QuietBelow
namespace Go.Proofs.YtfbdaedoofkcbabDoor.GiFaceText
set_option linter.unusedVariables false
set_option linter.unusedSimpArgs false
open Go.RowKit
open Go.Proofs.YtfbdaedoofkcbabDoor.Rowed Go.Proofs.YtfbdaedoofkcbabDoor.Turn Go.Proofs.YtfbdaedoofkcbabDoor.Aid Go.Proofs.YtfbdaedoofkcbabDoor.GoP Go.Proofs.YtfbdaedoofkcbabDoor.GoM Go.Proofs.YtfbdaedoofkcbabDoor.Tab

def P (face : Int) : Option (ByteArray × Bool) :=
  Option.bind (Go.Proofs.YtfbdaedoofkcbabDoor.GiWithin.P face 0 9999) fun (t_3 : Bool) =>
  letK (!t_3) fun (t_4 : Bool) =>
  iteK t_4
  (some ((⟨#[]⟩ : ByteArray), false))
  (letK (Int.tmod face 100) fun (t_8 : Int) =>
  letK (IntKind.i64.wrap (100 + t_8)) fun (t_9 : Int) =>
  Option.bind (Go.Proofs.YtfbdaedoofkcbabDoor.GxStrconvItoa.P t_9) fun (t_10 : ByteArray) =>
  guardK ((0 : Int) ≤ 1 ∧ (1 : Int) ≤ (t_10.size : Int)) <|
  letK (ByteArray.extract t_10 (Int.toNat 1) t_10.size) fun (t_11 : ByteArray) =>
  letK (IntKind.i64.wrap (Int.tdiv face 100)) fun (t_14 : Int) =>
  Option.bind (Go.Proofs.YtfbdaedoofkcbabDoor.GxStrconvItoa.P t_14) fun (t_15 : ByteArray) =>
  guardK (t_15.size + (⟨#[46]⟩ : ByteArray).size ≤ maxLen) <|
  letK (t_15 ++ (⟨#[46]⟩ : ByteArray)) fun (t_16 : ByteArray) =>
  guardK (t_16.size + t_11.size ≤ maxLen) <|
  letK (t_16 ++ t_11) fun (t_18 : ByteArray) =>
  some (t_18, true))

set_option maxRecDepth 100000 in
set_option maxHeartbeats 2000000 in
theorem C (face : Int)   (w : World) (HT : Hid (Tab w))   {r0 : ByteArray} {r1 : Bool} (H : Hid (P face = some (r0, r1))) :
    Calls Tryd.prog 14 #[.int .i64 face] w (Gives (.tuple #[.string r0, .bool r1]) w) := by
  have HB := Lib.hid (Below.refl w.heap.size w)
  unfold P at H
  go_enter Tryd.func14, Tryd.ntmps14
  replace H := bind_hid H
  obtain ⟨t_3, qt_3, H⟩ := H
  go_wp2_with fail
  go_at_call 24
  refine (Go.Proofs.YtfbdaedoofkcbabDoor.GiWithin.C (face) (0) (9999)  _   qt_3).mono ?_
  rintro e_t_3 wt_3 ⟨rfl, bt_3⟩
  have HBwt_3 := Lib.hid (Below.step HB.out bt_3)
  clear bt_3
  cases t_3 with
  | false =>
    replace H := let_hid H
    obtain ⟨t_4, ht_4, H⟩ := H
    obtain rfl : t_4 = true := ht_4.symm
    replace H := ite_t H
    cases ret_hid H
    go_wp2_with fail
    go_ret2
    exact ⟨rfl, HBwt_3.out⟩
  | true =>
    replace H := let_hid H
    obtain ⟨t_4, ht_4, H⟩ := H
    obtain rfl : t_4 = false := ht_4.symm
    replace H := ite_f H
    replace H := let_hid H
    obtain ⟨t_8, ht_8, H⟩ := H
    replace H := let_hid H
    obtain ⟨t_9, ht_9, H⟩ := H
    replace H := bind_hid H
    obtain ⟨t_10, qt_10, H⟩ := H
    go_wp2_with fail
    go_at_call 16
    refine (Go.Proofs.YtfbdaedoofkcbabDoor.GxStrconvItoa.C (t_9)  _ (tab_below HBwt_3.out HT)  qt_10).mono ?_
    rintro e_t_10 wt_10 ⟨rfl, bt_10⟩
    have HBwt_10 := Lib.hid (Below.step HBwt_3.out bt_10)
    clear bt_10
    replace H := guard_hid H
    obtain ⟨hl_t_11, H⟩ := H
    replace H := let_hid H
    obtain ⟨t_11, ht_11, H⟩ := H
    have ct_11 := slice_from (P := Tryd.prog) (t := 9) (k := .i64) Tryd.underlying9 ht_11 hl_t_11
    clear hl_t_11
    have hht_11 := Lib.hid ht_11
    clear ht_11
    replace H := let_hid H
    obtain ⟨t_14, ht_14, H⟩ := H
    replace H := bind_hid H
    obtain ⟨t_15, qt_15, H⟩ := H
    go_wp2_with fail
    go_at_call 16
    refine (Go.Proofs.YtfbdaedoofkcbabDoor.GxStrconvItoa.C (t_14)  _ (tab_below HBwt_10.out HT)  qt_15).mono ?_
    rintro e_t_15 wt_15 ⟨rfl, bt_15⟩
    have HBwt_15 := Lib.hid (Below.step HBwt_10.out bt_15)
    clear bt_15
    replace H := guard_hid H
    obtain ⟨hl_t_16, H⟩ := H
    replace H := let_hid H
    obtain ⟨t_16, ht_16, H⟩ := H
    have ct_16 := cat_rule (P := Tryd.prog) ht_16 hl_t_16
    clear hl_t_16
    have hht_16 := Lib.hid ht_16
    clear ht_16
    replace H := guard_hid H
    obtain ⟨hl_t_18, H⟩ := H
    replace H := let_hid H
    obtain ⟨t_18, ht_18, H⟩ := H
    have ct_18 := cat_rule (P := Tryd.prog) ht_18 hl_t_18
    clear hl_t_18
    have hht_18 := Lib.hid ht_18
    clear ht_18
    cases ret_hid H
    go_wp2_with fail
    go_ret2
    exact ⟨rfl, HBwt_15.out⟩
end Go.Proofs.YtfbdaedoofkcbabDoor.GiFaceText
