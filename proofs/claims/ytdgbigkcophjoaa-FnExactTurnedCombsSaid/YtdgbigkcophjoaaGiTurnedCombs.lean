/- loop.example/g01062/impl.TurnedCombs as a plain function, and the contract of the program's: where the plain one has an answer, the program has it. Conditions: slices read as lists. -/
import Derived.Test.YtdgbigkcophjoaaChecked
import Derived.Test.YtdgbigkcophjoaaGoM
import Derived.Test.YtdgbigkcophjoaaGoRComb
import Derived.Test.YtdgbigkcophjoaaHelpInt
import Derived.Test.YtdgbigkcophjoaaGiCanMatch
import Derived.Test.YtdgbigkcophjoaaGiKeysWhereCombIntiIdOfCombiTurnedCombs1
import Derived.WalkKit
import Derived.WalkSpells
import Derived.WalkLawsBesides
import Derived.BigQuiet
import Derived.OwnWalk
import Derived.Deep.LoopGhost
import Derived.Deep.QuietTactic
import Derived.IntWalk
import Derived.Lib.QuietBelow
namespace Go.Proofs.Ytdgbigkcophjoaa.GiTurnedCombs
set_option linter.unusedVariables false
set_option linter.unusedSimpArgs false
open Go.RowKit
open Go.Proofs.Ytdgbigkcophjoaa.Rowed Go.Proofs.Ytdgbigkcophjoaa.Turn Go.Proofs.Ytdgbigkcophjoaa.Aid Go.Proofs.Ytdgbigkcophjoaa.GoP Go.Proofs.Ytdgbigkcophjoaa.GoM

def P (list : (List Go.Proofs.Ytdgbigkcophjoaa.PComb.Comb)) (wide : Int) (high : Int) (off : Int) : Option ((List Int) × Bool) :=
  Option.bind (Go.Proofs.Ytdgbigkcophjoaa.GiCanMatch.P list wide high off) fun (t_9 : Bool) =>
  letK (!t_9) fun (t_10 : Bool) =>
  iteK t_10
  (some (([] : List Int), false))
  (Option.bind (Go.Proofs.Ytdgbigkcophjoaa.GiKeysWhereCombIntiIdOfCombiTurnedCombs1.P list wide high off) fun (t_16 : (List Int)) =>
  some (t_16, true))

set_option maxRecDepth 100000 in
set_option maxHeartbeats 2000000 in
theorem C (list : (List Go.Proofs.Ytdgbigkcophjoaa.PComb.Comb)) (wide : Int) (high : Int) (off : Int) (A0 : Option Addr) (c0 : Nat)  (w : World) (M0 : Hid (Cells w 4 A0 list.length (Go.Proofs.Ytdgbigkcophjoaa.PComb.flat list))) (N0 : Hid (list.length ≤ 9223372036854775807))  {r0 : (List Int)} {r1 : Bool} (H : Hid (P list wide high off = some (r0, r1))) :
    Calls Try.prog 55 #[.slice A0 list.length c0, .int .i64 wide, .int .i64 high, .int .i64 off] w (fun e w' => ∃ A_r0 c_r0, e = .returned (.tuple #[.slice A_r0 r0.length c_r0, .bool r1]) ∧ w'.ownsRow w.heap.size 3 1 (.slice A_r0 r0.length c_r0) r0.length (Go.Proofs.Ytdgbigkcophjoaa.HelpInt.iv r0) ∧ Below w.heap.size w w') := by
  have HB := Lib.hid (Below.refl w.heap.size w)
  unfold P at H
  have N0o := N0.out
  go_enter Try.func55, Try.ntmps55
  obtain ⟨w_wide_0, hw_wide_0⟩ : ∃ x, w.alloc (.cells #[.int .i64 wide] 3) = x := ⟨_, rfl⟩
  have bw_wide_0 : Below w.heap.size w w_wide_0 := by rw [← hw_wide_0]; exact (Below.refl _ _).alloc (Nat.le_refl _) _
  have HBw_wide_0 := Lib.hid (Below.step HB.out bw_wide_0)
  clear bw_wide_0
  have kwide_0_0 : w_wide_0.cell? ⟨w.heap.size, 0, none⟩ = some (.int .i64 wide) := by rw [← hw_wide_0]; exact box_new _ _ _ 0 _ rfl
  obtain ⟨w_high_1, hw_high_1⟩ : ∃ x, w_wide_0.alloc (.cells #[.int .i64 high] 3) = x := ⟨_, rfl⟩
  have bw_high_1 : Below w_wide_0.heap.size w_wide_0 w_high_1 := by rw [← hw_high_1]; exact (Below.refl _ _).alloc (Nat.le_refl _) _
  have HBw_high_1 := Lib.hid (Below.step HBw_wide_0.out bw_high_1)
  have kwide_0_0__530 := cell_below bw_high_1 kwide_0_0
  clear bw_high_1
  have khigh_1_0 : w_high_1.cell? ⟨w_wide_0.heap.size, 0, none⟩ = some (.int .i64 high) := by rw [← hw_high_1]; exact box_new _ _ _ 0 _ rfl
  obtain ⟨w_off_2, hw_off_2⟩ : ∃ x, w_high_1.alloc (.cells #[.int .i64 off] 3) = x := ⟨_, rfl⟩
  have bw_off_2 : Below w_high_1.heap.size w_high_1 w_off_2 := by rw [← hw_off_2]; exact (Below.refl _ _).alloc (Nat.le_refl _) _
  have HBw_off_2 := Lib.hid (Below.step HBw_high_1.out bw_off_2)
  have kwide_0_0__531 := cell_below bw_off_2 kwide_0_0__530
  have khigh_1_0__532 := cell_below bw_off_2 khigh_1_0
  clear bw_off_2
  have koff_2_0 : w_off_2.cell? ⟨w_high_1.heap.size, 0, none⟩ = some (.int .i64 off) := by rw [← hw_off_2]; exact box_new _ _ _ 0 _ rfl
  replace H := bind_hid H
  obtain ⟨t_9, qt_9, H⟩ := H
  go_wp2_with fail
  clear kwide_0_0 kwide_0_0__530 khigh_1_0
  go_at_call 98
  refine (Go.Proofs.Ytdgbigkcophjoaa.GiCanMatch.C (list) (wide) (high) (off) A0 c0 _   (Lib.hid (Cells.below M0.out HBw_off_2.out)) N0 qt_9).mono ?_
  rintro e_t_9 wt_9 ⟨rfl, bt_9⟩
  have HBwt_9 := Lib.hid (Below.step HBw_off_2.out bt_9)
  replace kwide_0_0__531 := cell_below bt_9 kwide_0_0__531
  replace khigh_1_0__532 := cell_below bt_9 khigh_1_0__532
  replace koff_2_0 := cell_below bt_9 koff_2_0
  clear bt_9
  cases t_9 with
  | false =>
    replace H := let_hid H
    obtain ⟨t_10, ht_10, H⟩ := H
    obtain rfl : t_10 = true := ht_10.symm
    replace H := ite_t H
    obtain ⟨w_t_11, hw_t_11⟩ : ∃ x, wt_9.alloc (.cells #[] 3) = x := ⟨_, rfl⟩
    have bw_t_11 : Below wt_9.heap.size wt_9 w_t_11 := by rw [← hw_t_11]; exact (Below.refl _ _).alloc (Nat.le_refl _) _
    have Ot_11 : Hid (w_t_11.ownsRow w.heap.size 3 1 (.slice (some ⟨wt_9.heap.size, 0, none⟩) 0 0) 0 []) := Lib.hid (by rw [← hw_t_11]; exact own_empty HBwt_9.out.size)
    have Dt_11_wide_0 := Lib.hid (apart_box kwide_0_0__531)
    have Dt_11_high_1 := Lib.hid (apart_box khigh_1_0__532)
    have Dt_11_off_2 := Lib.hid (apart_box koff_2_0)
    have HBw_t_11 := Lib.hid (Below.step HBwt_9.out bw_t_11)
    have kwide_0_0__533 := cell_below bw_t_11 kwide_0_0__531
    have khigh_1_0__534 := cell_below bw_t_11 khigh_1_0__532
    have koff_2_0__535 := cell_below bw_t_11 koff_2_0
    clear bw_t_11
    cases ret_hid H
    go_wp2_with fail
    go_ret2
    exact ⟨(some ⟨wt_9.heap.size, 0, none⟩), 0, rfl, Ot_11.out, HBw_t_11.out⟩
  | true =>
    replace H := let_hid H
    obtain ⟨t_10, ht_10, H⟩ := H
    obtain rfl : t_10 = false := ht_10.symm
    replace H := ite_f H
    replace H := bind_hid H
    obtain ⟨t_16, qt_16, H⟩ := H
    go_wp2_with fail
    go_at_call 99
    refine (Go.Proofs.Ytdgbigkcophjoaa.GiKeysWhereCombIntiIdOfCombiTurnedCombs1.C (list) (wide) (high) (off) A0 c0 (w.heap.size) (w_wide_0.heap.size) (w_high_1.heap.size) _   (Lib.hid (Cells.below M0.out HBwt_9.out)) N0 (Lib.hid kwide_0_0__531) (Lib.hid khigh_1_0__532) (Lib.hid koff_2_0) qt_16).mono ?_
    rintro e_t_16 wt_16 ⟨At_16, ct_16, rfl, ot_16, bt_16⟩
    have Dt_16_wide_0 := Lib.hid (apart_callbox ot_16 kwide_0_0__531)
    have Dt_16_high_1 := Lib.hid (apart_callbox ot_16 khigh_1_0__532)
    have Dt_16_off_2 := Lib.hid (apart_callbox ot_16 koff_2_0)
    have Ot_16 := Lib.hid (own_lower ot_16 HBwt_9.out.size)
    clear ot_16
    have HBwt_16 := Lib.hid (Below.step HBwt_9.out bt_16)
    replace kwide_0_0__531 := cell_below bt_16 kwide_0_0__531
    replace khigh_1_0__532 := cell_below bt_16 khigh_1_0__532
    replace koff_2_0 := cell_below bt_16 koff_2_0
    clear bt_16
    cases ret_hid H
    go_wp2_with fail
    go_ret2
    exact ⟨At_16, ct_16, rfl, Ot_16.out, HBwt_16.out⟩
end Go.Proofs.Ytdgbigkcophjoaa.GiTurnedCombs
