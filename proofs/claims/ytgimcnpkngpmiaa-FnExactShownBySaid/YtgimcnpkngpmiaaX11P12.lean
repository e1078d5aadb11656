/- Texts on which the proofs of several laws stand, one behind the other (12 of 18). No condition of their own. -/
import Derived.Test.YtgimcnpkngpmiaaChecked
import Derived.Test.YtgimcnpkngpmiaaX11P1
import Derived.Test.YtgimcnpkngpmiaaX11P4
import Derived.WalkKit
import Derived.WalkSpells
import Derived.WalkLawsBesides
import Derived.BigQuiet
import Derived.OwnWalk
import Derived.Deep.LoopGhost
import Derived.Deep.QuietTactic
import Derived.IntWalk
import Derived.Lib.QuietBelow
import Derived.Test.YtgimcnpkngpmiaaX11P2
import Derived.Test.YtgimcnpkngpmiaaX11P3
/- loop.example/g01062/spec.ShownBy as a plain function, and the contract of the program's: where the plain one has an answer, the program has it. Conditions: slices read as lists. -/
namespace Go.Proofs.Ytgimcnpkngpmiaa.GsShownBy
set_option linter.unusedVariables false
set_option linter.unusedSimpArgs false
open Go.RowKit
open Go.Proofs.Ytgimcnpkngpmiaa.Rowed Go.Proofs.Ytgimcnpkngpmiaa.Turn Go.Proofs.Ytgimcnpkngpmiaa.Aid Go.Proofs.Ytgimcnpkngpmiaa.GoP Go.Proofs.Ytgimcnpkngpmiaa.GoM

def P (fuel : Nat) (p : Go.Proofs.Ytgimcnpkngpmiaa.PPostmark.Postmark) : Option (ByteArray × Bool) :=
  unPostmark p fun (p_id : Int) (p_town : ByteArray) (p_kind_ : Int) (p_first : Int) (p_last : Int) (p_lost : ByteArray) =>
  Option.bind (Go.Proofs.Ytgimcnpkngpmiaa.GsL11One.P fuel (Go.Proofs.Ytgimcnpkngpmiaa.PPostmark.Postmark.mk p_id p_town p_kind_ p_first p_last p_lost)) fun (t_4 : Bool) =>
  letK (!t_4) fun (t_5 : Bool) =>
  iteK t_5
  (some ((⟨#[]⟩ : ByteArray), false))
  (Option.bind (Go.Proofs.Ytgimcnpkngpmiaa.GsL11Shown.P fuel (Go.Proofs.Ytgimcnpkngpmiaa.PPostmark.Postmark.mk p_id p_town p_kind_ p_first p_last p_lost)) fun (t_9 : ByteArray) =>
  some (t_9, true))

set_option maxRecDepth 100000 in
set_option maxHeartbeats 2000000 in
theorem C (fuel : Nat) (p : Go.Proofs.Ytgimcnpkngpmiaa.PPostmark.Postmark)   (w : World)   {r0 : ByteArray} {r1 : Bool} (H : Hid (P fuel p = some (r0, r1))) :
    Calls Try.prog 21 #[p.val] w (Gives (.tuple #[.string r0, .bool r1]) w) := by
  have HB := Lib.hid (Below.refl w.heap.size w)
  unfold P at H
  obtain ⟨p_id, p_town, p_kind_, p_first, p_last, p_lost⟩ := p
  replace H := unPostmark_hid H
  unfold Go.Proofs.Ytgimcnpkngpmiaa.PPostmark.Postmark.val
  go_enter Try.func21, Try.ntmps21
  obtain ⟨w_p_0, hw_p_0⟩ : ∃ x, w.alloc (.cells #[.int .i64 p_id, .string p_town, .int .i64 p_kind_, .int .i64 p_first, .int .i64 p_last, .string p_lost] 26) = x := ⟨_, rfl⟩
  have bw_p_0 : Below w.heap.size w w_p_0 := by rw [← hw_p_0]; exact (Below.refl _ _).alloc (Nat.le_refl _) _
  have HBw_p_0 := Lib.hid (Below.step HB.out bw_p_0)
  clear bw_p_0
  have kp_0_0 : w_p_0.cell? ⟨w.heap.size, 0, none⟩ = some (.int .i64 p_id) := by rw [← hw_p_0]; exact box_new _ _ _ 0 _ rfl
  have kp_0_1 : w_p_0.cell? ⟨w.heap.size, 1, none⟩ = some (.string p_town) := by rw [← hw_p_0]; exact box_new _ _ _ 1 _ rfl
  have kp_0_2 : w_p_0.cell? ⟨w.heap.size, 2, none⟩ = some (.int .i64 p_kind_) := by rw [← hw_p_0]; exact box_new _ _ _ 2 _ rfl
  have kp_0_3 : w_p_0.cell? ⟨w.heap.size, 3, none⟩ = some (.int .i64 p_first) := by rw [← hw_p_0]; exact box_new _ _ _ 3 _ rfl
  have kp_0_4 : w_p_0.cell? ⟨w.heap.size, 4, none⟩ = some (.int .i64 p_last) := by rw [← hw_p_0]; exact box_new _ _ _ 4 _ rfl
  have kp_0_5 : w_p_0.cell? ⟨w.heap.size, 5, none⟩ = some (.string p_lost) := by rw [← hw_p_0]; exact box_new _ _ _ 5 _ rfl
  replace H := bind_hid H
  obtain ⟨t_4, qt_4, H⟩ := H
  go_wp2_with fail
  go_at_call 40
  refine (Go.Proofs.Ytgimcnpkngpmiaa.GsL11One.C fuel ((Go.Proofs.Ytgimcnpkngpmiaa.PPostmark.Postmark.mk p_id p_town p_kind_ p_first p_last p_lost))  _    qt_4).mono ?_
  rintro e_t_4 wt_4 ⟨rfl, bt_4⟩
  have HBwt_4 := Lib.hid (Below.step HBw_p_0.out bt_4)
  replace kp_0_0 := cell_below bt_4 kp_0_0
  replace kp_0_1 := cell_below bt_4 kp_0_1
  replace kp_0_2 := cell_below bt_4 kp_0_2
  replace kp_0_3 := cell_below bt_4 kp_0_3
  replace kp_0_4 := cell_below bt_4 kp_0_4
  replace kp_0_5 := cell_below bt_4 kp_0_5
  clear bt_4
  cases t_4 with
  | false =>
    replace H := let_hid H
    obtain ⟨t_5, ht_5, H⟩ := H
    obtain rfl : t_5 = true := ht_5.symm
    replace H := ite_t H
    cases ret_hid H
    go_wp2_with fail
    go_ret2
    exact ⟨rfl, HBwt_4.out⟩
  | true =>
    replace H := let_hid H
    obtain ⟨t_5, ht_5, H⟩ := H
    obtain rfl : t_5 = false := ht_5.symm
    replace H := ite_f H
    replace H := bind_hid H
    obtain ⟨t_9, qt_9, H⟩ := H
    go_wp2_with fail
    go_at_call 49
    refine (Go.Proofs.Ytgimcnpkngpmiaa.GsL11Shown.C fuel ((Go.Proofs.Ytgimcnpkngpmiaa.PPostmark.Postmark.mk p_id p_town p_kind_ p_first p_last p_lost))  _    qt_9).mono ?_
    rintro e_t_9 wt_9 ⟨rfl, bt_9⟩
    have HBwt_9 := Lib.hid (Below.step HBwt_4.out bt_9)
    replace kp_0_0 := cell_below bt_9 kp_0_0
    replace kp_0_1 := cell_below bt_9 kp_0_1
    replace kp_0_2 := cell_below bt_9 kp_0_2
    replace kp_0_3 := cell_below bt_9 kp_0_3
    replace kp_0_4 := cell_below bt_9 kp_0_4
    replace kp_0_5 := cell_below bt_9 kp_0_5
    clear bt_9
    cases ret_hid H
    go_wp2_with fail
    go_ret2
    exact ⟨rfl, HBwt_9.out⟩
end Go.Proofs.Ytgimcnpkngpmiaa.GsShownBy

/- loop.example/g01062/impl.ShownBy as a plain function, and the contract of the program's: where the plain one has an answer, the program has it. Conditions: slices read as lists. -/
namespace Go.Proofs.Ytgimcnpkngpmiaa.GiShownBy
set_option linter.unusedVariables false
set_option linter.unusedSimpArgs false
open Go.RowKit
open Go.Proofs.Ytgimcnpkngpmiaa.Rowed Go.Proofs.Ytgimcnpkngpmiaa.Turn Go.Proofs.Ytgimcnpkngpmiaa.Aid Go.Proofs.Ytgimcnpkngpmiaa.GoP Go.Proofs.Ytgimcnpkngpmiaa.GoM

def P (p : Go.Proofs.Ytgimcnpkngpmiaa.PPostmark.Postmark) : Option (ByteArray × Bool) :=
  unPostmark p fun (p_id : Int) (p_town : ByteArray) (p_kind_ : Int) (p_first : Int) (p_last : Int) (p_lost : ByteArray) =>
  Option.bind (Go.Proofs.Ytgimcnpkngpmiaa.GiIsPostmark.P (Go.Proofs.Ytgimcnpkngpmiaa.PPostmark.Postmark.mk p_id p_town p_kind_ p_first p_last p_lost)) fun (t_4 : Bool) =>
  letK (!t_4) fun (t_5 : Bool) =>
  iteK t_5
  (some ((⟨#[]⟩ : ByteArray), false))
  (Option.bind (Go.Proofs.Ytgimcnpkngpmiaa.GiLoShownBy.P (Go.Proofs.Ytgimcnpkngpmiaa.PPostmark.Postmark.mk p_id p_town p_kind_ p_first p_last p_lost)) fun (t_9 : ByteArray) =>
  some (t_9, true))

set_option maxRecDepth 100000 in
set_option maxHeartbeats 2000000 in
theorem C (p : Go.Proofs.Ytgimcnpkngpmiaa.PPostmark.Postmark)   (w : World)   {r0 : ByteArray} {r1 : Bool} (H : Hid (P p = some (r0, r1))) :
    Calls Try.prog 22 #[p.val] w (Gives (.tuple #[.string r0, .bool r1]) w) := by
  have HB := Lib.hid (Below.refl w.heap.size w)
  unfold P at H
  obtain ⟨p_id, p_town, p_kind_, p_first, p_last, p_lost⟩ := p
  replace H := unPostmark_hid H
  unfold Go.Proofs.Ytgimcnpkngpmiaa.PPostmark.Postmark.val
  go_enter Try.func22, Try.ntmps22
  obtain ⟨w_p_0, hw_p_0⟩ : ∃ x, w.alloc (.cells #[.int .i64 p_id, .string p_town, .int .i64 p_kind_, .int .i64 p_first, .int .i64 p_last, .string p_lost] 26) = x := ⟨_, rfl⟩
  have bw_p_0 : Below w.heap.size w w_p_0 := by rw [← hw_p_0]; exact (Below.refl _ _).alloc (Nat.le_refl _) _
  have HBw_p_0 := Lib.hid (Below.step HB.out bw_p_0)
  clear bw_p_0
  have kp_0_0 : w_p_0.cell? ⟨w.heap.size, 0, none⟩ = some (.int .i64 p_id) := by rw [← hw_p_0]; exact box_new _ _ _ 0 _ rfl
  have kp_0_1 : w_p_0.cell? ⟨w.heap.size, 1, none⟩ = some (.string p_town) := by rw [← hw_p_0]; exact box_new _ _ _ 1 _ rfl
  have kp_0_2 : w_p_0.cell? ⟨w.heap.size, 2, none⟩ = some (.int .i64 p_kind_) := by rw [← hw_p_0]; exact box_new _ _ _ 2 _ rfl
  have kp_0_3 : w_p_0.cell? ⟨w.heap.size, 3, none⟩ = some (.int .i64 p_first) := by rw [← hw_p_0]; exact box_new _ _ _ 3 _ rfl
  have kp_0_4 : w_p_0.cell? ⟨w.heap.size, 4, none⟩ = some (.int .i64 p_last) := by rw [← hw_p_0]; exact box_new _ _ _ 4 _ rfl
  have kp_0_5 : w_p_0.cell? ⟨w.heap.size, 5, none⟩ = some (.string p_lost) := by rw [← hw_p_0]; exact box_new _ _ _ 5 _ rfl
  replace H := bind_hid H
  obtain ⟨t_4, qt_4, H⟩ := H
  go_wp2_with fail
  go_at_call 15
  refine (Go.Proofs.Ytgimcnpkngpmiaa.GiIsPostmark.C ((Go.Proofs.Ytgimcnpkngpmiaa.PPostmark.Postmark.mk p_id p_town p_kind_ p_first p_last p_lost))  _    qt_4).mono ?_
  rintro e_t_4 wt_4 ⟨rfl, bt_4⟩
  have HBwt_4 := Lib.hid (Below.step HBw_p_0.out bt_4)
  replace kp_0_0 := cell_below bt_4 kp_0_0
  replace kp_0_1 := cell_below bt_4 kp_0_1
  replace kp_0_2 := cell_below bt_4 kp_0_2
  replace kp_0_3 := cell_below bt_4 kp_0_3
  replace kp_0_4 := cell_below bt_4 kp_0_4
  replace kp_0_5 := cell_below bt_4 kp_0_5
  clear bt_4
  cases t_4 with
  | false =>
    replace H := let_hid H
    obtain ⟨t_5, ht_5, H⟩ := H
    obtain rfl : t_5 = true := ht_5.symm
    replace H := ite_t H
    cases ret_hid H
    go_wp2_with fail
    go_ret2
    exact ⟨rfl, HBwt_4.out⟩
  | true =>
    replace H := let_hid H
    obtain ⟨t_5, ht_5, H⟩ := H
    obtain rfl : t_5 = false := ht_5.symm
    replace H := ite_f H
    replace H := bind_hid H
    obtain ⟨t_9, qt_9, H⟩ := H
    go_wp2_with fail
    go_at_call 50
    refine (Go.Proofs.Ytgimcnpkngpmiaa.GiLoShownBy.C ((Go.Proofs.Ytgimcnpkngpmiaa.PPostmark.Postmark.mk p_id p_town p_kind_ p_first p_last p_lost))  _    qt_9).mono ?_
    rintro e_t_9 wt_9 ⟨rfl, bt_9⟩
    have HBwt_9 := Lib.hid (Below.step HBwt_4.out bt_9)
    replace kp_0_0 := cell_below bt_9 kp_0_0
    replace kp_0_1 := cell_below bt_9 kp_0_1
    replace kp_0_2 := cell_below bt_9 kp_0_2
    replace kp_0_3 := cell_below bt_9 kp_0_3
    replace kp_0_4 := cell_below bt_9 kp_0_4
    replace kp_0_5 := cell_below bt_9 kp_0_5
    clear bt_9
    cases ret_hid H
    go_wp2_with fail
    go_ret2
    exact ⟨rfl, HBwt_9.out⟩
end Go.Proofs.Ytgimcnpkngpmiaa.GiShownBy

/- loop.example/g01062/laws.FnExactShownBy as a plain function, and the contract of the program's: where the plain one has an answer, the program has it. Conditions: slices read as lists. -/
namespace Go.Proofs.Ytgimcnpkngpmiaa.GlFnExactShownBy
set_option linter.unusedVariables false
set_option linter.unusedSimpArgs false
open Go.RowKit
open Go.Proofs.Ytgimcnpkngpmiaa.Rowed Go.Proofs.Ytgimcnpkngpmiaa.Turn Go.Proofs.Ytgimcnpkngpmiaa.Aid Go.Proofs.Ytgimcnpkngpmiaa.GoP Go.Proofs.Ytgimcnpkngpmiaa.GoM

def P (fuel : Nat) (aP : Go.Proofs.Ytgimcnpkngpmiaa.PPostmark.Postmark) : Option (Bool) :=
  unPostmark aP fun (aP_id : Int) (aP_town : ByteArray) (aP_kind_ : Int) (aP_first : Int) (aP_last : Int) (aP_lost : ByteArray) =>
  Option.bind (Go.Proofs.Ytgimcnpkngpmiaa.GlSzPostmark.P (Go.Proofs.Ytgimcnpkngpmiaa.PPostmark.Postmark.mk aP_id aP_town aP_kind_ aP_first aP_last aP_lost) 1048576) fun (t_5 : Int) =>
  letK (decide (t_5 < 0)) fun (t_8 : Bool) =>
  iteK t_8
  (some true)
  (Option.bind (Go.Proofs.Ytgimcnpkngpmiaa.GlToPostmark.P (Go.Proofs.Ytgimcnpkngpmiaa.PPostmark.Postmark.mk aP_id aP_town aP_kind_ aP_first aP_last aP_lost)) fun (t_11 : Go.Proofs.Ytgimcnpkngpmiaa.PPostmark.Postmark) =>
  unPostmark t_11 fun (t_11_id : Int) (t_11_town : ByteArray) (t_11_kind_ : Int) (t_11_first : Int) (t_11_last : Int) (t_11_lost : ByteArray) =>
  bind2 (Go.Proofs.Ytgimcnpkngpmiaa.GsShownBy.P fuel (Go.Proofs.Ytgimcnpkngpmiaa.PPostmark.Postmark.mk t_11_id t_11_town t_11_kind_ t_11_first t_11_last t_11_lost)) fun (t_12a : ByteArray) (t_12b : Bool) =>
  Option.bind (Go.Proofs.Ytgimcnpkngpmiaa.GlToPostmark.P (Go.Proofs.Ytgimcnpkngpmiaa.PPostmark.Postmark.mk aP_id aP_town aP_kind_ aP_first aP_last aP_lost)) fun (t_19 : Go.Proofs.Ytgimcnpkngpmiaa.PPostmark.Postmark) =>
  unPostmark t_19 fun (t_19_id : Int) (t_19_town : ByteArray) (t_19_kind_ : Int) (t_19_first : Int) (t_19_last : Int) (t_19_lost : ByteArray) =>
  bind2 (Go.Proofs.Ytgimcnpkngpmiaa.GiShownBy.P (Go.Proofs.Ytgimcnpkngpmiaa.PPostmark.Postmark.mk t_19_id t_19_town t_19_kind_ t_19_first t_19_last t_19_lost)) fun (t_20a : ByteArray) (t_20b : Bool) =>
  letK (!(t_20a.toList == t_12a.toList)) fun (t_28 : Bool) =>
  joinK (fun (t_33 : Bool) =>
  iteK t_33
  (some false)
  (some true)) fun jt_33 => iteK t_28 (appK jt_33 true) (letK (!(t_20b == t_12b)) fun (t_32 : Bool) =>
  appK jt_33 t_32))

set_option maxRecDepth 100000 in
set_option maxHeartbeats 2000000 in
theorem C (fuel : Nat) (aP : Go.Proofs.Ytgimcnpkngpmiaa.PPostmark.Postmark)   (w : World)   {r : Bool} (H : Hid (P fuel aP = some r)) :
    Calls Try.prog 5 #[aP.val] w (Gives (.bool r) w) := by
  have HB := Lib.hid (Below.refl w.heap.size w)
  unfold P at H
  obtain ⟨aP_id, aP_town, aP_kind_, aP_first, aP_last, aP_lost⟩ := aP
  replace H := unPostmark_hid H
  unfold Go.Proofs.Ytgimcnpkngpmiaa.PPostmark.Postmark.val
  go_enter Try.func5, Try.ntmps5
  obtain ⟨w_aP_0, hw_aP_0⟩ : ∃ x, w.alloc (.cells #[.int .i64 aP_id, .string aP_town, .int .i64 aP_kind_, .int .i64 aP_first, .int .i64 aP_last, .string aP_lost] 23) = x := ⟨_, rfl⟩
  have bw_aP_0 : Below w.heap.size w w_aP_0 := by rw [← hw_aP_0]; exact (Below.refl _ _).alloc (Nat.le_refl _) _
  have HBw_aP_0 := Lib.hid (Below.step HB.out bw_aP_0)
  clear bw_aP_0
  have kaP_0_0 : w_aP_0.cell? ⟨w.heap.size, 0, none⟩ = some (.int .i64 aP_id) := by rw [← hw_aP_0]; exact box_new _ _ _ 0 _ rfl
  have kaP_0_1 : w_aP_0.cell? ⟨w.heap.size, 1, none⟩ = some (.string aP_town) := by rw [← hw_aP_0]; exact box_new _ _ _ 1 _ rfl
  have kaP_0_2 : w_aP_0.cell? ⟨w.heap.size, 2, none⟩ = some (.int .i64 aP_kind_) := by rw [← hw_aP_0]; exact box_new _ _ _ 2 _ rfl
  have kaP_0_3 : w_aP_0.cell? ⟨w.heap.size, 3, none⟩ = some (.int .i64 aP_first) := by rw [← hw_aP_0]; exact box_new _ _ _ 3 _ rfl
  have kaP_0_4 : w_aP_0.cell? ⟨w.heap.size, 4, none⟩ = some (.int .i64 aP_last) := by rw [← hw_aP_0]; exact box_new _ _ _ 4 _ rfl
  have kaP_0_5 : w_aP_0.cell? ⟨w.heap.size, 5, none⟩ = some (.string aP_lost) := by rw [← hw_aP_0]; exact box_new _ _ _ 5 _ rfl
  replace H := bind_hid H
  obtain ⟨t_5, qt_5, H⟩ := H
  go_wp2_with fail
  go_at_call 12
  refine (Go.Proofs.Ytgimcnpkngpmiaa.GlSzPostmark.C ((Go.Proofs.Ytgimcnpkngpmiaa.PPostmark.Postmark.mk aP_id aP_town aP_kind_ aP_first aP_last aP_lost)) (1048576)  _    qt_5).mono ?_
  rintro e_t_5 wt_5 ⟨rfl, bt_5⟩
  have HBwt_5 := Lib.hid (Below.step HBw_aP_0.out bt_5)
  replace kaP_0_0 := cell_below bt_5 kaP_0_0
  replace kaP_0_1 := cell_below bt_5 kaP_0_1
  replace kaP_0_2 := cell_below bt_5 kaP_0_2
  replace kaP_0_3 := cell_below bt_5 kaP_0_3
  replace kaP_0_4 := cell_below bt_5 kaP_0_4
  replace kaP_0_5 := cell_below bt_5 kaP_0_5
  clear bt_5
  replace H := let_hid H
  obtain ⟨t_8, ht_8, H⟩ := H
  cases t_8 with
  | false =>
    replace H := ite_f H
    replace H := bind_hid H
    obtain ⟨t_11, qt_11, H⟩ := H
    obtain ⟨t_11_id, t_11_town, t_11_kind_, t_11_first, t_11_last, t_11_lost⟩ := t_11
    replace H := unPostmark_hid H
    go_wp2_with fail
    go_at_call 14
    refine (Go.Proofs.Ytgimcnpkngpmiaa.GlToPostmark.C ((Go.Proofs.Ytgimcnpkngpmiaa.PPostmark.Postmark.mk aP_id aP_town aP_kind_ aP_first aP_last aP_lost))  _    qt_11).mono ?_
    rintro e_t_11 wt_11 ⟨rfl, bt_11⟩
    unfold Go.Proofs.Ytgimcnpkngpmiaa.PPostmark.Postmark.val
    have HBwt_11 := Lib.hid (Below.step HBwt_5.out bt_11)
    replace kaP_0_0 := cell_below bt_11 kaP_0_0
    replace kaP_0_1 := cell_below bt_11 kaP_0_1
    replace kaP_0_2 := cell_below bt_11 kaP_0_2
    replace kaP_0_3 := cell_below bt_11 kaP_0_3
    replace kaP_0_4 := cell_below bt_11 kaP_0_4
    replace kaP_0_5 := cell_below bt_11 kaP_0_5
    clear bt_11
    replace H := bind2_hid H
    obtain ⟨t_12a, t_12b, qt_12, H⟩ := H
    go_wp2_with fail
    go_at_call 21
    refine (Go.Proofs.Ytgimcnpkngpmiaa.GsShownBy.C fuel ((Go.Proofs.Ytgimcnpkngpmiaa.PPostmark.Postmark.mk t_11_id t_11_town t_11_kind_ t_11_first t_11_last t_11_lost))  _    qt_12).mono ?_
    rintro e_t_12 wt_12 ⟨rfl, bt_12⟩
    have HBwt_12 := Lib.hid (Below.step HBwt_11.out bt_12)
    replace kaP_0_0 := cell_below bt_12 kaP_0_0
    replace kaP_0_1 := cell_below bt_12 kaP_0_1
    replace kaP_0_2 := cell_below bt_12 kaP_0_2
    replace kaP_0_3 := cell_below bt_12 kaP_0_3
    replace kaP_0_4 := cell_below bt_12 kaP_0_4
    replace kaP_0_5 := cell_below bt_12 kaP_0_5
    clear bt_12
    replace H := bind_hid H
    obtain ⟨t_19, qt_19, H⟩ := H
    obtain ⟨t_19_id, t_19_town, t_19_kind_, t_19_first, t_19_last, t_19_lost⟩ := t_19
    replace H := unPostmark_hid H
    go_wp2_with fail
    go_at_call 14
    refine (Go.Proofs.Ytgimcnpkngpmiaa.GlToPostmark.C ((Go.Proofs.Ytgimcnpkngpmiaa.PPostmark.Postmark.mk aP_id aP_town aP_kind_ aP_first aP_last aP_lost))  _    qt_19).mono ?_
    rintro e_t_19 wt_19 ⟨rfl, bt_19⟩
    unfold Go.Proofs.Ytgimcnpkngpmiaa.PPostmark.Postmark.val
    have HBwt_19 := Lib.hid (Below.step HBwt_12.out bt_19)
    replace kaP_0_0 := cell_below bt_19 kaP_0_0
    replace kaP_0_1 := cell_below bt_19 kaP_0_1
    replace kaP_0_2 := cell_below bt_19 kaP_0_2
    replace kaP_0_3 := cell_below bt_19 kaP_0_3
    replace kaP_0_4 := cell_below bt_19 kaP_0_4
    replace kaP_0_5 := cell_below bt_19 kaP_0_5
    clear bt_19
    replace H := bind2_hid H
    obtain ⟨t_20a, t_20b, qt_20, H⟩ := H
    go_wp2_with fail
    go_at_call 22
    refine (Go.Proofs.Ytgimcnpkngpmiaa.GiShownBy.C ((Go.Proofs.Ytgimcnpkngpmiaa.PPostmark.Postmark.mk t_19_id t_19_town t_19_kind_ t_19_first t_19_last t_19_lost))  _    qt_20).mono ?_
    rintro e_t_20 wt_20 ⟨rfl, bt_20⟩
    have HBwt_20 := Lib.hid (Below.step HBwt_19.out bt_20)
    replace kaP_0_0 := cell_below bt_20 kaP_0_0
    replace kaP_0_1 := cell_below bt_20 kaP_0_1
    replace kaP_0_2 := cell_below bt_20 kaP_0_2
    replace kaP_0_3 := cell_below bt_20 kaP_0_3
    replace kaP_0_4 := cell_below bt_20 kaP_0_4
    replace kaP_0_5 := cell_below bt_20 kaP_0_5
    clear bt_20
    replace H := let_hid H
    obtain ⟨t_28, ht_28, H⟩ := H
    replace H := join_hid H
    cases t_28 with
    | false =>
      replace H := ite_f H
      replace H := let_hid H
      obtain ⟨t_32, ht_32, H⟩ := H
      replace H := app_hid H
      cases t_32 with
      | false =>
        replace H := ite_f H
        obtain rfl := ret_hid H
        go_wp2_with fail
        go_ret
        exact ⟨rfl, HBwt_20.out⟩
      | true =>
        replace H := ite_t H
        obtain rfl := ret_hid H
        go_wp2_with fail
        go_ret
        exact ⟨rfl, HBwt_20.out⟩
    | true =>
      replace H := ite_t H
      replace H := app_hid H
      replace H := ite_t H
      obtain rfl := ret_hid H
      go_wp2_with fail
      go_ret
      exact ⟨rfl, HBwt_20.out⟩
  | true =>
    replace H := ite_t H
    obtain rfl := ret_hid H
    go_wp2_with fail
    go_ret
    exact ⟨rfl, HBwt_5.out⟩
end Go.Proofs.Ytgimcnpkngpmiaa.GlFnExactShownBy

/- Chapter 11: postmarks: the plain functions of the program and of the reference agree, and the laws answer true. (Q11ShownBy) No condition but those of each theorem. -/
namespace Go.Proofs.Ytgimcnpkngpmiaa.Q11ShownBy
set_option linter.unusedVariables false
set_option linter.unusedSimpArgs false
open Go.RowKit
open Go.Proofs.Ytgimcnpkngpmiaa.GoP Go.Proofs.Ytgimcnpkngpmiaa.PlainStamp Go.Proofs.Ytgimcnpkngpmiaa.QBase Go.Proofs.Ytgimcnpkngpmiaa.Q11Show Go.Proofs.Ytgimcnpkngpmiaa.Q11Mark Go.Proofs.Ytgimcnpkngpmiaa.QLoop Go.Proofs.Ytgimcnpkngpmiaa.PPostmark

theorem shownBy_impl (p : Postmark) (h : p.lost.size ≤ 9223372036854775807) : GiShownBy.P p = some (shownRes p) := by
  have h1 := isPostmark_eq p h
  unfold shownRes
  cases hc : okPm p with
  | false =>
    rw [hc] at h1
    obtain ⟨a, b, c, d, e, g⟩ := p
    simp [GiShownBy.P, unPostmark, h1, letK, iteK_if]
  | true =>
    rw [hc] at h1
    have hz := okPm_size hc
    have h2 := shown_impl hz.1 (by omega)
    obtain ⟨a, b, c, d, e, g⟩ := p
    simp [GiShownBy.P, unPostmark, h1, h2, letK, iteK_if]
theorem shownBy_spec (p : Postmark) (h : p.fits) (fuel : Nat) (hfu : 100 ≤ fuel) : GsShownBy.P fuel p = some (shownRes p) := by
  have h1 := l11One_eq p h fuel hfu
  unfold shownRes
  cases hc : okPm p with
  | false =>
    rw [hc] at h1
    obtain ⟨a, b, c, d, e, g⟩ := p
    simp [GsShownBy.P, unPostmark, h1, letK, iteK_if]
  | true =>
    rw [hc] at h1
    have hz := okPm_size hc
    have h2 := shown_spec hz.1 (by omega) fuel hfu
    obtain ⟨a, b, c, d, e, g⟩ := p
    simp [GsShownBy.P, unPostmark, h1, h2, letK, iteK_if]
end Go.Proofs.Ytgimcnpkngpmiaa.Q11ShownBy

/- Chapter 11: postmarks: the plain functions of the program and of the reference agree, and the laws answer true. (QL11Shown) No condition but those of each theorem. -/
namespace Go.Proofs.Ytgimcnpkngpmiaa.QL11Shown
set_option linter.unusedVariables false
set_option linter.unusedSimpArgs false
open Go.RowKit
open Go.Proofs.Ytgimcnpkngpmiaa.GoP Go.Proofs.Ytgimcnpkngpmiaa.PlainStamp Go.Proofs.Ytgimcnpkngpmiaa.QBase Go.Proofs.Ytgimcnpkngpmiaa.Q11ShownBy Go.Proofs.Ytgimcnpkngpmiaa.Q11Show Go.Proofs.Ytgimcnpkngpmiaa.Q11Mark Go.Proofs.Ytgimcnpkngpmiaa.QLoop Go.Proofs.Ytgimcnpkngpmiaa.PPostmark Go.Proofs.Ytgimcnpkngpmiaa.QHPostmarkE

theorem law_shown (fuel : Nat) (hfu : 100 ≤ fuel) (x : Postmark) (h : x.fits) : GlFnExactShownBy.P fuel x = some true := by
  obtain ⟨v, hv, _⟩ := szOne x 1048576 h (by omega) (by omega)
  have h1 := shownBy_impl x (fits_sz h).2
  have h2 := shownBy_spec x h fuel hfu
  obtain ⟨⟨r, s⟩, hr⟩ : ∃ z, z = shownRes x := ⟨_, rfl⟩
  rw [← hr] at h1 h2
  obtain ⟨a, b, c, d, e, g⟩ := x
  simp only [GlFnExactShownBy.P, unPostmark, hv, Option.bind_some, letK, iteK_if]
  by_cases hb : v < 0
  · rw [if_pos (by simpa using hb)]
  · rw [if_neg (by simpa using hb)]
    simp [toOne, unPostmark, h1, h2, bind2, joinK, appK, iteK_if]
end Go.Proofs.Ytgimcnpkngpmiaa.QL11Shown

