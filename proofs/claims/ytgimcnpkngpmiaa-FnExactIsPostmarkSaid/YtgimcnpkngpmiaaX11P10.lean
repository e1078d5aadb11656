/- Texts on which the proofs of several laws stand, one behind the other (10 of 18). No condition of their own. -/
import Derived.Test.YtgimcnpkngpmiaaChecked
import Derived.Test.YtgimcnpkngpmiaaX11P1
import Derived.WalkKit
import Derived.WalkSpells
import Derived.WalkLawsBesides
import Derived.BigQuiet
import Derived.OwnWalk
import Derived.Deep.LoopGhost
import Derived.Deep.QuietTactic
import Derived.IntWalk
import Derived.Lib.QuietBelow
import Derived.Test.YtgimcnpkngpmiaaX11P2
import Derived.Test.YtgimcnpkngpmiaaX11P3
/- loop.example/g01062/spec.IsPostmark as a plain function, and the contract of the program's: where the plain one has an answer, the program has it. Conditions: slices read as lists. -/
namespace Go.Proofs.Ytgimcnpkngpmiaa.GsIsPostmark
set_option linter.unusedVariables false
set_option linter.unusedSimpArgs false
open Go.RowKit
open Go.Proofs.Ytgimcnpkngpmiaa.Rowed Go.Proofs.Ytgimcnpkngpmiaa.Turn Go.Proofs.Ytgimcnpkngpmiaa.Aid Go.Proofs.Ytgimcnpkngpmiaa.GoP Go.Proofs.Ytgimcnpkngpmiaa.GoM

def P (fuel : Nat) (p : Go.Proofs.Ytgimcnpkngpmiaa.PPostmark.Postmark) : Option (Bool) :=
  unPostmark p fun (p_id : Int) (p_town : ByteArray) (p_kind_ : Int) (p_first : Int) (p_last : Int) (p_lost : ByteArray) =>
  Option.bind (Go.Proofs.Ytgimcnpkngpmiaa.GsL11One.P fuel (Go.Proofs.Ytgimcnpkngpmiaa.PPostmark.Postmark.mk p_id p_town p_kind_ p_first p_last p_lost)) fun (t_3 : Bool) =>
  some t_3

set_option maxRecDepth 100000 in
set_option maxHeartbeats 2000000 in
theorem C (fuel : Nat) (p : Go.Proofs.Ytgimcnpkngpmiaa.PPostmark.Postmark)   (w : World)   {r : Bool} (H : Hid (P fuel p = some r)) :
    Calls Try.prog 13 #[p.val] w (Gives (.bool r) w) := by
  have HB := Lib.hid (Below.refl w.heap.size w)
  unfold P at H
  obtain ⟨p_id, p_town, p_kind_, p_first, p_last, p_lost⟩ := p
  replace H := unPostmark_hid H
  unfold Go.Proofs.Ytgimcnpkngpmiaa.PPostmark.Postmark.val
  go_enter Try.func13, Try.ntmps13
  obtain ⟨w_p_0, hw_p_0⟩ : ∃ x, w.alloc (.cells #[.int .i64 p_id, .string p_town, .int .i64 p_kind_, .int .i64 p_first, .int .i64 p_last, .string p_lost] 26) = x := ⟨_, rfl⟩
  have bw_p_0 : Below w.heap.size w w_p_0 := by rw [← hw_p_0]; exact (Below.refl _ _).alloc (Nat.le_refl _) _
  have HBw_p_0 := Lib.hid (Below.step HB.out bw_p_0)
  clear bw_p_0
  have kp_0_0 : w_p_0.cell? ⟨w.heap.size, 0, none⟩ = some (.int .i64 p_id) := by rw [← hw_p_0]; exact box_new _ _ _ 0 _ rfl
  have kp_0_1 : w_p_0.cell? ⟨w.heap.size, 1, none⟩ = some (.string p_town) := by rw [← hw_p_0]; exact box_new _ _ _ 1 _ rfl
  have kp_0_2 : w_p_0.cell? ⟨w.heap.size, 2, none⟩ = some (.int .i64 p_kind_) := by rw [← hw_p_0]; exact box_new _ _ _ 2 _ rfl
  have kp_0_3 : w_p_0.cell? ⟨w.heap.size, 3, none⟩ = some (.int .i64 p_first) := by rw [← hw_p_0]; exact box_new _ _ _ 3 _ rfl
  have kp_0_4 : w_p_0.cell? ⟨w.heap.size, 4, none⟩ = some (.int .i64 p_last) := by rw [← hw_p_0]; exact box_new _ _ _ 4 _ rfl
  have kp_0_5 : w_p_0.cell? ⟨w.heap.size, 5, none⟩ = some (.string p_lost) := by rw [← hw_p_0]; exact box_new _ _ _ 5 _ rfl
  replace H := bind_hid H
  obtain ⟨t_3, qt_3, H⟩ := H
  go_wp2_with fail
  go_at_call 40
  refine (Go.Proofs.Ytgimcnpkngpmiaa.GsL11One.C fuel ((Go.Proofs.Ytgimcnpkngpmiaa.PPostmark.Postmark.mk p_id p_town p_kind_ p_first p_last p_lost))  _    qt_3).mono ?_
  rintro e_t_3 wt_3 ⟨rfl, bt_3⟩
  have HBwt_3 := Lib.hid (Below.step HBw_p_0.out bt_3)
  replace kp_0_0 := cell_below bt_3 kp_0_0
  replace kp_0_1 := cell_below bt_3 kp_0_1
  replace kp_0_2 := cell_below bt_3 kp_0_2
  replace kp_0_3 := cell_below bt_3 kp_0_3
  replace kp_0_4 := cell_below bt_3 kp_0_4
  replace kp_0_5 := cell_below bt_3 kp_0_5
  clear bt_3
  obtain rfl := ret_hid H
  go_wp2_with fail
  go_ret
  exact ⟨rfl, HBwt_3.out⟩
end Go.Proofs.Ytgimcnpkngpmiaa.GsIsPostmark

/- loop.example/g01062/laws.FnExactIsPostmark as a plain function, and the contract of the program's: where the plain one has an answer, the program has it. Conditions: slices read as lists. -/
namespace Go.Proofs.Ytgimcnpkngpmiaa.GlFnExactIsPostmark
set_option linter.unusedVariables false
set_option linter.unusedSimpArgs false
open Go.RowKit
open Go.Proofs.Ytgimcnpkngpmiaa.Rowed Go.Proofs.Ytgimcnpkngpmiaa.Turn Go.Proofs.Ytgimcnpkngpmiaa.Aid Go.Proofs.Ytgimcnpkngpmiaa.GoP Go.Proofs.Ytgimcnpkngpmiaa.GoM

def P (fuel : Nat) (aP : Go.Proofs.Ytgimcnpkngpmiaa.PPostmark.Postmark) : Option (Bool) :=
  unPostmark aP fun (aP_id : Int) (aP_town : ByteArray) (aP_kind_ : Int) (aP_first : Int) (aP_last : Int) (aP_lost : ByteArray) =>
  Option.bind (Go.Proofs.Ytgimcnpkngpmiaa.GlSzPostmark.P (Go.Proofs.Ytgimcnpkngpmiaa.PPostmark.Postmark.mk aP_id aP_town aP_kind_ aP_first aP_last aP_lost) 1048576) fun (t_5 : Int) =>
  letK (decide (t_5 < 0)) fun (t_8 : Bool) =>
  iteK t_8
  (some true)
  (Option.bind (Go.Proofs.Ytgimcnpkngpmiaa.GlToPostmark.P (Go.Proofs.Ytgimcnpkngpmiaa.PPostmark.Postmark.mk aP_id aP_town aP_kind_ aP_first aP_last aP_lost)) fun (t_11 : Go.Proofs.Ytgimcnpkngpmiaa.PPostmark.Postmark) =>
  unPostmark t_11 fun (t_11_id : Int) (t_11_town : ByteArray) (t_11_kind_ : Int) (t_11_first : Int) (t_11_last : Int) (t_11_lost : ByteArray) =>
  Option.bind (Go.Proofs.Ytgimcnpkngpmiaa.GsIsPostmark.P fuel (Go.Proofs.Ytgimcnpkngpmiaa.PPostmark.Postmark.mk t_11_id t_11_town t_11_kind_ t_11_first t_11_last t_11_lost)) fun (t_12 : Bool) =>
  Option.bind (Go.Proofs.Ytgimcnpkngpmiaa.GlToPostmark.P (Go.Proofs.Ytgimcnpkngpmiaa.PPostmark.Postmark.mk aP_id aP_town aP_kind_ aP_first aP_last aP_lost)) fun (t_15 : Go.Proofs.Ytgimcnpkngpmiaa.PPostmark.Postmark) =>
  unPostmark t_15 fun (t_15_id : Int) (t_15_town : ByteArray) (t_15_kind_ : Int) (t_15_first : Int) (t_15_last : Int) (t_15_lost : ByteArray) =>
  Option.bind (Go.Proofs.Ytgimcnpkngpmiaa.GiIsPostmark.P (Go.Proofs.Ytgimcnpkngpmiaa.PPostmark.Postmark.mk t_15_id t_15_town t_15_kind_ t_15_first t_15_last t_15_lost)) fun (t_16 : Bool) =>
  letK (!(t_16 == t_12)) fun (t_20 : Bool) =>
  iteK t_20
  (some false)
  (some true))

set_option maxRecDepth 100000 in
set_option maxHeartbeats 2000000 in
theorem C (fuel : Nat) (aP : Go.Proofs.Ytgimcnpkngpmiaa.PPostmark.Postmark)   (w : World)   {r : Bool} (H : Hid (P fuel aP = some r)) :
    Calls Try.prog 3 #[aP.val] w (Gives (.bool r) w) := by
  have HB := Lib.hid (Below.refl w.heap.size w)
  unfold P at H
  obtain ⟨aP_id, aP_town, aP_kind_, aP_first, aP_last, aP_lost⟩ := aP
  replace H := unPostmark_hid H
  unfold Go.Proofs.Ytgimcnpkngpmiaa.PPostmark.Postmark.val
  go_enter Try.func3, Try.ntmps3
  obtain ⟨w_aP_0, hw_aP_0⟩ : ∃ x, w.alloc (.cells #[.int .i64 aP_id, .string aP_town, .int .i64 aP_kind_, .int .i64 aP_first, .int .i64 aP_last, .string aP_lost] 23) = x := ⟨_, rfl⟩
  have bw_aP_0 : Below w.heap.size w w_aP_0 := by rw [← hw_aP_0]; exact (Below.refl _ _).alloc (Nat.le_refl _) _
  have HBw_aP_0 := Lib.hid (Below.step HB.out bw_aP_0)
  clear bw_aP_0
  have kaP_0_0 : w_aP_0.cell? ⟨w.heap.size, 0, none⟩ = some (.int .i64 aP_id) := by rw [← hw_aP_0]; exact box_new _ _ _ 0 _ rfl
  have kaP_0_1 : w_aP_0.cell? ⟨w.heap.size, 1, none⟩ = some (.string aP_town) := by rw [← hw_aP_0]; exact box_new _ _ _ 1 _ rfl
  have kaP_0_2 : w_aP_0.cell? ⟨w.heap.size, 2, none⟩ = some (.int .i64 aP_kind_) := by rw [← hw_aP_0]; exact box_new _ _ _ 2 _ rfl
  have kaP_0_3 : w_aP_0.cell? ⟨w.heap.size, 3, none⟩ = some (.int .i64 aP_first) := by rw [← hw_aP_0]; exact box_new _ _ _ 3 _ rfl
  have kaP_0_4 : w_aP_0.cell? ⟨w.heap.size, 4, none⟩ = some (.int .i64 aP_last) := by rw [← hw_aP_0]; exact box_new _ _ _ 4 _ rfl
  have kaP_0_5 : w_aP_0.cell? ⟨w.heap.size, 5, none⟩ = some (.string aP_lost) := by rw [← hw_aP_0]; exact box_new _ _ _ 5 _ rfl
  replace H := bind_hid H
  obtain ⟨t_5, qt_5, H⟩ := H
  go_wp2_with fail
  go_at_call 12
  refine (Go.Proofs.Ytgimcnpkngpmiaa.GlSzPostmark.C ((Go.Proofs.Ytgimcnpkngpmiaa.PPostmark.Postmark.mk aP_id aP_town aP_kind_ aP_first aP_last aP_lost)) (1048576)  _    qt_5).mono ?_
  rintro e_t_5 wt_5 ⟨rfl, bt_5⟩
  have HBwt_5 := Lib.hid (Below.step HBw_aP_0.out bt_5)
  replace kaP_0_0 := cell_below bt_5 kaP_0_0
  replace kaP_0_1 := cell_below bt_5 kaP_0_1
  replace kaP_0_2 := cell_below bt_5 kaP_0_2
  replace kaP_0_3 := cell_below bt_5 kaP_0_3
  replace kaP_0_4 := cell_below bt_5 kaP_0_4
  replace kaP_0_5 := cell_below bt_5 kaP_0_5
  clear bt_5
  replace H := let_hid H
  obtain ⟨t_8, ht_8, H⟩ := H
  cases t_8 with
  | false =>
    replace H := ite_f H
    replace H := bind_hid H
    obtain ⟨t_11, qt_11, H⟩ := H
    obtain ⟨t_11_id, t_11_town, t_11_kind_, t_11_first, t_11_last, t_11_lost⟩ := t_11
    replace H := unPostmark_hid H
    go_wp2_with fail
    go_at_call 14
    refine (Go.Proofs.Ytgimcnpkngpmiaa.GlToPostmark.C ((Go.Proofs.Ytgimcnpkngpmiaa.PPostmark.Postmark.mk aP_id aP_town aP_kind_ aP_first aP_last aP_lost))  _    qt_11).mono ?_
    rintro e_t_11 wt_11 ⟨rfl, bt_11⟩
    unfold Go.Proofs.Ytgimcnpkngpmiaa.PPostmark.Postmark.val
    have HBwt_11 := Lib.hid (Below.step HBwt_5.out bt_11)
    replace kaP_0_0 := cell_below bt_11 kaP_0_0
    replace kaP_0_1 := cell_below bt_11 kaP_0_1
    replace kaP_0_2 := cell_below bt_11 kaP_0_2
    replace kaP_0_3 := cell_below bt_11 kaP_0_3
    replace kaP_0_4 := cell_below bt_11 kaP_0_4
    replace kaP_0_5 := cell_below bt_11 kaP_0_5
    clear bt_11
    replace H := bind_hid H
    obtain ⟨t_12, qt_12, H⟩ := H
    go_wp2_with fail
    go_at_call 13
    refine (Go.Proofs.Ytgimcnpkngpmiaa.GsIsPostmark.C fuel ((Go.Proofs.Ytgimcnpkngpmiaa.PPostmark.Postmark.mk t_11_id t_11_town t_11_kind_ t_11_first t_11_last t_11_lost))  _    qt_12).mono ?_
    rintro e_t_12 wt_12 ⟨rfl, bt_12⟩
    have HBwt_12 := Lib.hid (Below.step HBwt_11.out bt_12)
    replace kaP_0_0 := cell_below bt_12 kaP_0_0
    replace kaP_0_1 := cell_below bt_12 kaP_0_1
    replace kaP_0_2 := cell_below bt_12 kaP_0_2
    replace kaP_0_3 := cell_below bt_12 kaP_0_3
    replace kaP_0_4 := cell_below bt_12 kaP_0_4
    replace kaP_0_5 := cell_below bt_12 kaP_0_5
    clear bt_12
    replace H := bind_hid H
    obtain ⟨t_15, qt_15, H⟩ := H
    obtain ⟨t_15_id, t_15_town, t_15_kind_, t_15_first, t_15_last, t_15_lost⟩ := t_15
    replace H := unPostmark_hid H
    go_wp2_with fail
    go_at_call 14
    refine (Go.Proofs.Ytgimcnpkngpmiaa.GlToPostmark.C ((Go.Proofs.Ytgimcnpkngpmiaa.PPostmark.Postmark.mk aP_id aP_town aP_kind_ aP_first aP_last aP_lost))  _    qt_15).mono ?_
    rintro e_t_15 wt_15 ⟨rfl, bt_15⟩
    unfold Go.Proofs.Ytgimcnpkngpmiaa.PPostmark.Postmark.val
    have HBwt_15 := Lib.hid (Below.step HBwt_12.out bt_15)
    replace kaP_0_0 := cell_below bt_15 kaP_0_0
    replace kaP_0_1 := cell_below bt_15 kaP_0_1
    replace kaP_0_2 := cell_below bt_15 kaP_0_2
    replace kaP_0_3 := cell_below bt_15 kaP_0_3
    replace kaP_0_4 := cell_below bt_15 kaP_0_4
    replace kaP_0_5 := cell_below bt_15 kaP_0_5
    clear bt_15
    replace H := bind_hid H
    obtain ⟨t_16, qt_16, H⟩ := H
    go_wp2_with fail
    go_at_call 15
    refine (Go.Proofs.Ytgimcnpkngpmiaa.GiIsPostmark.C ((Go.Proofs.Ytgimcnpkngpmiaa.PPostmark.Postmark.mk t_15_id t_15_town t_15_kind_ t_15_first t_15_last t_15_lost))  _    qt_16).mono ?_
    rintro e_t_16 wt_16 ⟨rfl, bt_16⟩
    have HBwt_16 := Lib.hid (Below.step HBwt_15.out bt_16)
    replace kaP_0_0 := cell_below bt_16 kaP_0_0
    replace kaP_0_1 := cell_below bt_16 kaP_0_1
    replace kaP_0_2 := cell_below bt_16 kaP_0_2
    replace kaP_0_3 := cell_below bt_16 kaP_0_3
    replace kaP_0_4 := cell_below bt_16 kaP_0_4
    replace kaP_0_5 := cell_below bt_16 kaP_0_5
    clear bt_16
    replace H := let_hid H
    obtain ⟨t_20, ht_20, H⟩ := H
    cases t_20 with
    | false =>
      replace H := ite_f H
      obtain rfl := ret_hid H
      go_wp2_with fail
      go_ret
      exact ⟨rfl, HBwt_16.out⟩
    | true =>
      replace H := ite_t H
      obtain rfl := ret_hid H
      go_wp2_with fail
      go_ret
      exact ⟨rfl, HBwt_16.out⟩
  | true =>
    replace H := ite_t H
    obtain rfl := ret_hid H
    go_wp2_with fail
    go_ret
    exact ⟨rfl, HBwt_5.out⟩
end Go.Proofs.Ytgimcnpkngpmiaa.GlFnExactIsPostmark

/- Chapter 11: postmarks: the plain functions of the program and of the reference agree, and the laws answer true. (QL11Is) No condition but those of each theorem. -/
namespace Go.Proofs.Ytgimcnpkngpmiaa.QL11Is
set_option linter.unusedVariables false
set_option linter.unusedSimpArgs false
open Go.RowKit
open Go.Proofs.Ytgimcnpkngpmiaa.GoP Go.Proofs.Ytgimcnpkngpmiaa.PlainStamp Go.Proofs.Ytgimcnpkngpmiaa.QBase Go.Proofs.Ytgimcnpkngpmiaa.Q11Mark Go.Proofs.Ytgimcnpkngpmiaa.QLoop Go.Proofs.Ytgimcnpkngpmiaa.PPostmark Go.Proofs.Ytgimcnpkngpmiaa.QHPostmarkE

theorem law_isPostmark (fuel : Nat) (hfu : 100 ≤ fuel) (x : Postmark) (h : x.fits) : GlFnExactIsPostmark.P fuel x = some true := by
  obtain ⟨v, hv, _⟩ := szOne x 1048576 h (by omega) (by omega)
  have h1 := isPostmark_eq x (fits_sz h).2
  have h2 := l11One_eq x h fuel hfu
  obtain ⟨a, b, c, d, e, g⟩ := x
  simp only [GlFnExactIsPostmark.P, unPostmark, hv, Option.bind_some, letK, iteK_if]
  by_cases hb : v < 0
  · rw [if_pos (by simpa using hb)]
  · rw [if_neg (by simpa using hb)]
    simp [toOne, unPostmark, GsIsPostmark.P, h1, h2]
end Go.Proofs.Ytgimcnpkngpmiaa.QL11Is

