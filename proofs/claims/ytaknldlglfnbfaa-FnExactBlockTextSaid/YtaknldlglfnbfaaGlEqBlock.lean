/- loop.example/g01062/laws.eqBlock as a plain function, and the contract of the program's: where the plain one has an answer, the program has it. Conditions: slices read as lists. -/
import Derived.Test.YtaknldlglfnbfaaChecked
import Derived.Test.YtaknldlglfnbfaaGoM
import Derived.Test.YtaknldlglfnbfaaGoRBlock
import Derived.Test.YtaknldlglfnbfaaGlEqStringS
import Derived.WalkKit
import Derived.WalkSpells
import Derived.WalkLawsBesides
import Derived.BigQuiet
import Derived.OwnWalk
import Derived.Deep.LoopGhost
import Derived.Deep.QuietTactic
import Derived.IntWalk
import Derived.Lib.QuietBelow
namespace Go.Proofs.Ytaknldlglfnbfaa.GlEqBlock
set_option linter.unusedVariables false
set_option linter.unusedSimpArgs false
open Go.RowKit
open Go.Proofs.Ytaknldlglfnbfaa.Rowed Go.Proofs.Ytaknldlglfnbfaa.Turn Go.Proofs.Ytaknldlglfnbfaa.Aid Go.Proofs.Ytaknldlglfnbfaa.GoP Go.Proofs.Ytaknldlglfnbfaa.GoM

def P (a_rows : (List ByteArray)) (b_rows : (List ByteArray)) : Option (Bool) :=
  Option.bind (Go.Proofs.Ytaknldlglfnbfaa.GlEqStringS.P a_rows b_rows) fun (t_7 : Bool) =>
  letK (!t_7) fun (t_8 : Bool) =>
  iteK t_8
  (some false)
  (some true)

set_option maxRecDepth 100000 in
set_option maxHeartbeats 2000000 in
theorem C (a_rows : (List ByteArray)) (b_rows : (List ByteArray)) (A0_0 : Option Addr) (c0_0 : Nat) (A1_0 : Option Addr) (c1_0 : Nat)  (w : World) (M0_0 : Hid (Cells w 1 A0_0 a_rows.length (a_rows.map Value.string))) (N0_0 : Hid (a_rows.length ≤ 9223372036854775807)) (M1_0 : Hid (Cells w 1 A1_0 b_rows.length (b_rows.map Value.string))) (N1_0 : Hid (b_rows.length ≤ 9223372036854775807))  {r : Bool} (H : Hid (P a_rows b_rows = some r)) :
    Calls Try.prog 42 #[.agg #[.slice A0_0 a_rows.length c0_0], .agg #[.slice A1_0 b_rows.length c1_0]] w (Gives (.bool r) w) := by
  have HB := Lib.hid (Below.refl w.heap.size w)
  unfold P at H
  have N0_0o := N0_0.out
  have N1_0o := N1_0.out
  go_enter Try.func42, Try.ntmps42
  obtain ⟨w_a_0, hw_a_0⟩ : ∃ x, w.alloc (.cells #[.slice A0_0 a_rows.length c0_0] 57) = x := ⟨_, rfl⟩
  have bw_a_0 : Below w.heap.size w w_a_0 := by rw [← hw_a_0]; exact (Below.refl _ _).alloc (Nat.le_refl _) _
  have HBw_a_0 := Lib.hid (Below.step HB.out bw_a_0)
  clear bw_a_0
  have ka_0_0 : w_a_0.cell? ⟨w.heap.size, 0, none⟩ = some (.slice A0_0 a_rows.length c0_0) := by rw [← hw_a_0]; exact box_new _ _ _ 0 _ rfl
  obtain ⟨w_b_1, hw_b_1⟩ : ∃ x, w_a_0.alloc (.cells #[.slice A1_0 b_rows.length c1_0] 57) = x := ⟨_, rfl⟩
  have bw_b_1 : Below w_a_0.heap.size w_a_0 w_b_1 := by rw [← hw_b_1]; exact (Below.refl _ _).alloc (Nat.le_refl _) _
  have HBw_b_1 := Lib.hid (Below.step HBw_a_0.out bw_b_1)
  have ka_0_0__17 := cell_below bw_b_1 ka_0_0
  clear bw_b_1
  have kb_1_0 : w_b_1.cell? ⟨w_a_0.heap.size, 0, none⟩ = some (.slice A1_0 b_rows.length c1_0) := by rw [← hw_b_1]; exact box_new _ _ _ 0 _ rfl
  replace H := bind_hid H
  obtain ⟨t_7, qt_7, H⟩ := H
  go_wp2_with fail
  clear ka_0_0
  go_at_call 31
  refine (Go.Proofs.Ytaknldlglfnbfaa.GlEqStringS.C (a_rows) (b_rows) A0_0 c0_0 A1_0 c1_0 _  (Lib.hid (Cells.below M0_0.out HBw_b_1.out)) N0_0 (Lib.hid (Cells.below M1_0.out HBw_b_1.out)) N1_0 qt_7).mono ?_
  rintro e_t_7 wt_7 ⟨rfl, bt_7⟩
  have HBwt_7 := Lib.hid (Below.step HBw_b_1.out bt_7)
  replace ka_0_0__17 := cell_below bt_7 ka_0_0__17
  replace kb_1_0 := cell_below bt_7 kb_1_0
  clear bt_7
  cases t_7 with
  | false =>
    replace H := let_hid H
    obtain ⟨t_8, ht_8, H⟩ := H
    obtain rfl : t_8 = true := ht_8.symm
    replace H := ite_t H
    obtain rfl := ret_hid H
    go_wp2_with fail
    go_ret
    exact ⟨rfl, HBwt_7.out⟩
  | true =>
    replace H := let_hid H
    obtain ⟨t_8, ht_8, H⟩ := H
    obtain rfl : t_8 = false := ht_8.symm
    replace H := ite_f H
    obtain rfl := ret_hid H
    go_wp2_with fail
    go_ret
    exact ⟨rfl, HBwt_7.out⟩
end Go.Proofs.Ytaknldlglfnbfaa.GlEqBlock
