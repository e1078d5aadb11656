/- loop.example/g01062/impl.DoAgree as a plain function, and the contract of the program's: where the plain one has an answer, the program has it. Conditions: slices read as lists. -/
import Derived.Test.YtfbdaedoofkcbaaChecked
import Derived.Test.YtfbdaedoofkcbaaGoM
import Derived.Test.YtfbdaedoofkcbaaGoRBlock
import Derived.Test.YtfbdaedoofkcbaaPBlock
import Derived.Test.YtfbdaedoofkcbaaGiIsBlock
import Derived.Test.YtfbdaedoofkcbaaGiAgree
import Derived.Test.YtfbdaedoofkcbaaGiWithin
import Derived.WalkKit
import Derived.WalkSpells
import Derived.WalkLawsBesides
import Derived.BigQuiet
import Derived.OwnWalk
import Derived.Deep.LoopGhost
import Derived.Deep.QuietTactic
import Derived.IntWalk
import Derived.Lib.QuietBelow
namespace Go.Proofs.Ytfbdaedoofkcbaa.GiDoAgree
set_option linter.unusedVariables false
set_option linter.unusedSimpArgs false
open Go.RowKit
open Go.Proofs.Ytfbdaedoofkcbaa.Rowed Go.Proofs.Ytfbdaedoofkcbaa.Turn Go.Proofs.Ytfbdaedoofkcbaa.Aid Go.Proofs.Ytfbdaedoofkcbaa.GoP Go.Proofs.Ytfbdaedoofkcbaa.GoM

def P (a_rows : (List ByteArray)) (b_rows : (List ByteArray)) (down : Int) (right : Int) : Option (Bool × Bool) :=
  Option.bind (Go.Proofs.Ytfbdaedoofkcbaa.GiIsBlock.P a_rows) fun (t_5 : Bool) =>
  letK (!t_5) fun (t_6 : Bool) =>
  joinK (fun (t_11 : Bool) =>
  joinK (fun (t_16 : Bool) =>
  joinK (fun (t_21 : Bool) =>
  iteK t_21
  (some (false, false))
  (Option.bind (Go.Proofs.Ytfbdaedoofkcbaa.GiAgree.P a_rows b_rows down right) fun (t_30 : Bool) =>
  some (t_30, true))) fun jt_21 => iteK t_16 (appK jt_21 true) (Option.bind (Go.Proofs.Ytfbdaedoofkcbaa.GiWithin.P right (-2) 2) fun (t_19 : Bool) =>
  letK (!t_19) fun (t_20 : Bool) =>
  appK jt_21 t_20)) fun jt_16 => iteK t_11 (appK jt_16 true) (Option.bind (Go.Proofs.Ytfbdaedoofkcbaa.GiWithin.P down (-2) 2) fun (t_14 : Bool) =>
  letK (!t_14) fun (t_15 : Bool) =>
  appK jt_16 t_15)) fun jt_11 => iteK t_6 (appK jt_11 true) (Option.bind (Go.Proofs.Ytfbdaedoofkcbaa.GiIsBlock.P b_rows) fun (t_9 : Bool) =>
  letK (!t_9) fun (t_10 : Bool) =>
  appK jt_11 t_10)

set_option maxRecDepth 100000 in
set_option maxHeartbeats 2000000 in
theorem C (a_rows : (List ByteArray)) (b_rows : (List ByteArray)) (down : Int) (right : Int) (A0_0 : Option Addr) (c0_0 : Nat) (A1_0 : Option Addr) (c1_0 : Nat)  (w : World) (M0_0 : Hid (Cells w 1 A0_0 a_rows.length (a_rows.map Value.string))) (N0_0 : Hid (a_rows.length ≤ 9223372036854775807)) (M1_0 : Hid (Cells w 1 A1_0 b_rows.length (b_rows.map Value.string))) (N1_0 : Hid (b_rows.length ≤ 9223372036854775807))  {r0 : Bool} {r1 : Bool} (H : Hid (P a_rows b_rows down right = some (r0, r1))) :
    Calls Try.prog 46 #[.agg #[.slice A0_0 a_rows.length c0_0], .agg #[.slice A1_0 b_rows.length c1_0], .int .i64 down, .int .i64 right] w (Gives (.tuple #[.bool r0, .bool r1]) w) := by
  have HB := Lib.hid (Below.refl w.heap.size w)
  unfold P at H
  have N0_0o := N0_0.out
  have N1_0o := N1_0.out
  go_enter Try.func46, Try.ntmps46
  obtain ⟨w_a_0, hw_a_0⟩ : ∃ x, w.alloc (.cells #[.slice A0_0 a_rows.length c0_0] 27) = x := ⟨_, rfl⟩
  have bw_a_0 : Below w.heap.size w w_a_0 := by rw [← hw_a_0]; exact (Below.refl _ _).alloc (Nat.le_refl _) _
  have HBw_a_0 := Lib.hid (Below.step HB.out bw_a_0)
  clear bw_a_0
  have ka_0_0 : w_a_0.cell? ⟨w.heap.size, 0, none⟩ = some (.slice A0_0 a_rows.length c0_0) := by rw [← hw_a_0]; exact box_new _ _ _ 0 _ rfl
  obtain ⟨w_b_1, hw_b_1⟩ : ∃ x, w_a_0.alloc (.cells #[.slice A1_0 b_rows.length c1_0] 27) = x := ⟨_, rfl⟩
  have bw_b_1 : Below w_a_0.heap.size w_a_0 w_b_1 := by rw [← hw_b_1]; exact (Below.refl _ _).alloc (Nat.le_refl _) _
  have HBw_b_1 := Lib.hid (Below.step HBw_a_0.out bw_b_1)
  have ka_0_0__14 := cell_below bw_b_1 ka_0_0
  clear bw_b_1
  have kb_1_0 : w_b_1.cell? ⟨w_a_0.heap.size, 0, none⟩ = some (.slice A1_0 b_rows.length c1_0) := by rw [← hw_b_1]; exact box_new _ _ _ 0 _ rfl
  replace H := bind_hid H
  obtain ⟨t_5, qt_5, H⟩ := H
  go_wp2_with fail
  clear ka_0_0
  go_at_call 18
  refine (Go.Proofs.Ytfbdaedoofkcbaa.GiIsBlock.C (a_rows) A0_0 c0_0 _ (Lib.hid (Cells.below M0_0.out HBw_b_1.out)) N0_0 qt_5).mono ?_
  rintro e_t_5 wt_5 ⟨rfl, bt_5⟩
  have HBwt_5 := Lib.hid (Below.step HBw_b_1.out bt_5)
  replace ka_0_0__14 := cell_below bt_5 ka_0_0__14
  replace kb_1_0 := cell_below bt_5 kb_1_0
  clear bt_5
  cases t_5 with
  | false =>
    replace H := let_hid H
    obtain ⟨t_6, ht_6, H⟩ := H
    obtain rfl : t_6 = true := ht_6.symm
    replace H := join_hid H
    replace H := ite_t H
    replace H := app_hid H
    replace H := join_hid H
    replace H := ite_t H
    replace H := app_hid H
    replace H := join_hid H
    replace H := ite_t H
    replace H := app_hid H
    replace H := ite_t H
    cases ret_hid H
    go_wp2_with fail
    go_ret2
    exact ⟨rfl, HBwt_5.out⟩
  | true =>
    replace H := let_hid H
    obtain ⟨t_6, ht_6, H⟩ := H
    obtain rfl : t_6 = false := ht_6.symm
    replace H := join_hid H
    replace H := ite_f H
    replace H := bind_hid H
    obtain ⟨t_9, qt_9, H⟩ := H
    go_wp2_with fail
    go_at_call 18
    refine (Go.Proofs.Ytfbdaedoofkcbaa.GiIsBlock.C (b_rows) A1_0 c1_0 _ (Lib.hid (Cells.below M1_0.out HBwt_5.out)) N1_0 qt_9).mono ?_
    rintro e_t_9 wt_9 ⟨rfl, bt_9⟩
    have HBwt_9 := Lib.hid (Below.step HBwt_5.out bt_9)
    replace ka_0_0__14 := cell_below bt_9 ka_0_0__14
    replace kb_1_0 := cell_below bt_9 kb_1_0
    clear bt_9
    cases t_9 with
    | false =>
      replace H := let_hid H
      obtain ⟨t_10, ht_10, H⟩ := H
      obtain rfl : t_10 = true := ht_10.symm
      replace H := app_hid H
      replace H := join_hid H
      replace H := ite_t H
      replace H := app_hid H
      replace H := join_hid H
      replace H := ite_t H
      replace H := app_hid H
      replace H := ite_t H
      cases ret_hid H
      go_wp2_with fail
      go_ret2
      exact ⟨rfl, HBwt_9.out⟩
    | true =>
      replace H := let_hid H
      obtain ⟨t_10, ht_10, H⟩ := H
      obtain rfl : t_10 = false := ht_10.symm
      replace H := app_hid H
      replace H := join_hid H
      replace H := ite_f H
      replace H := bind_hid H
      obtain ⟨t_14, qt_14, H⟩ := H
      go_wp2_with fail
      go_at_call 78
      refine (Go.Proofs.Ytfbdaedoofkcbaa.GiWithin.C (down) ((-2)) (2)  _  qt_14).mono ?_
      rintro e_t_14 wt_14 ⟨rfl, bt_14⟩
      have HBwt_14 := Lib.hid (Below.step HBwt_9.out bt_14)
      replace ka_0_0__14 := cell_below bt_14 ka_0_0__14
      replace kb_1_0 := cell_below bt_14 kb_1_0
      clear bt_14
      cases t_14 with
      | false =>
        replace H := let_hid H
        obtain ⟨t_15, ht_15, H⟩ := H
        obtain rfl : t_15 = true := ht_15.symm
        replace H := app_hid H
        replace H := join_hid H
        replace H := ite_t H
        replace H := app_hid H
        replace H := ite_t H
        cases ret_hid H
        go_wp2_with fail
        go_ret2
        exact ⟨rfl, HBwt_14.out⟩
      | true =>
        replace H := let_hid H
        obtain ⟨t_15, ht_15, H⟩ := H
        obtain rfl : t_15 = false := ht_15.symm
        replace H := app_hid H
        replace H := join_hid H
        replace H := ite_f H
        replace H := bind_hid H
        obtain ⟨t_19, qt_19, H⟩ := H
        go_wp2_with fail
        go_at_call 78
        refine (Go.Proofs.Ytfbdaedoofkcbaa.GiWithin.C (right) ((-2)) (2)  _  qt_19).mono ?_
        rintro e_t_19 wt_19 ⟨rfl, bt_19⟩
        have HBwt_19 := Lib.hid (Below.step HBwt_14.out bt_19)
        replace ka_0_0__14 := cell_below bt_19 ka_0_0__14
        replace kb_1_0 := cell_below bt_19 kb_1_0
        clear bt_19
        cases t_19 with
        | false =>
          replace H := let_hid H
          obtain ⟨t_20, ht_20, H⟩ := H
          obtain rfl : t_20 = true := ht_20.symm
          replace H := app_hid H
          replace H := ite_t H
          cases ret_hid H
          go_wp2_with fail
          go_ret2
          exact ⟨rfl, HBwt_19.out⟩
        | true =>
          replace H := let_hid H
          obtain ⟨t_20, ht_20, H⟩ := H
          obtain rfl : t_20 = false := ht_20.symm
          replace H := app_hid H
          replace H := ite_f H
          replace H := bind_hid H
          obtain ⟨t_30, qt_30, H⟩ := H
          go_wp2_with fail
          go_at_call 81
          refine (Go.Proofs.Ytfbdaedoofkcbaa.GiAgree.C (a_rows) (b_rows) (down) (right) A0_0 c0_0 A1_0 c1_0 _ (Lib.hid (Cells.below M0_0.out HBwt_19.out)) N0_0 (Lib.hid (Cells.below M1_0.out HBwt_19.out)) N1_0 qt_30).mono ?_
          rintro e_t_30 wt_30 ⟨rfl, bt_30⟩
          have HBwt_30 := Lib.hid (Below.step HBwt_19.out bt_30)
          replace ka_0_0__14 := cell_below bt_30 ka_0_0__14
          replace kb_1_0 := cell_below bt_30 kb_1_0
          clear bt_30
          cases ret_hid H
          go_wp2_with fail
          go_ret2
          exact ⟨rfl, HBwt_30.out⟩
end Go.Proofs.Ytfbdaedoofkcbaa.GiDoAgree
