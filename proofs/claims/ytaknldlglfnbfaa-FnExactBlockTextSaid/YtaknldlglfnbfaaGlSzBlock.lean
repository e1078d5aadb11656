/- loop.example/g01062/laws.szBlock as a plain function, and the contract of the program's: where the plain one has an answer, the program has it. Conditions: slices read as lists. -/
import Derived.Test.YtaknldlglfnbfaaChecked
import Derived.Test.YtaknldlglfnbfaaGoM
import Derived.Test.YtaknldlglfnbfaaGoRBlock
import Derived.Test.YtaknldlglfnbfaaGlSzStringS
import Derived.WalkKit
import Derived.WalkSpells
import Derived.WalkLawsBesides
import Derived.BigQuiet
import Derived.OwnWalk
import Derived.Deep.LoopGhost
import Derived.Deep.QuietTactic
import Derived.IntWalk
import Derived.Lib.QuietBelow
namespace Go.Proofs.Ytaknldlglfnbfaa.GlSzBlock
set_option linter.unusedVariables false
set_option linter.unusedSimpArgs false
open Go.RowKit
open Go.Proofs.Ytaknldlglfnbfaa.Rowed Go.Proofs.Ytaknldlglfnbfaa.Turn Go.Proofs.Ytaknldlglfnbfaa.Aid Go.Proofs.Ytaknldlglfnbfaa.GoP Go.Proofs.Ytaknldlglfnbfaa.GoM

def P (a_rows : (List ByteArray)) (left : Int) : Option (Int) :=
  Option.bind (Go.Proofs.Ytaknldlglfnbfaa.GlSzStringS.P a_rows left) fun (t_5 : Int) =>
  letK (decide (t_5 < 0)) fun (t_8 : Bool) =>
  iteK t_8
  (some (-1))
  (some t_5)

set_option maxRecDepth 100000 in
set_option maxHeartbeats 2000000 in
theorem C (a_rows : (List ByteArray)) (left : Int) (A0_0 : Option Addr) (c0_0 : Nat)  (w : World) (M0_0 : Hid (Cells w 1 A0_0 a_rows.length (a_rows.map Value.string))) (N0_0 : Hid (a_rows.length ≤ 9223372036854775807))  {r : Int} (H : Hid (P a_rows left = some r)) :
    Calls Try.prog 37 #[.agg #[.slice A0_0 a_rows.length c0_0], .int .i64 left] w (Gives (.int .i64 r) w) := by
  have HB := Lib.hid (Below.refl w.heap.size w)
  unfold P at H
  have N0_0o := N0_0.out
  go_enter Try.func37, Try.ntmps37
  obtain ⟨w_a_0, hw_a_0⟩ : ∃ x, w.alloc (.cells #[.slice A0_0 a_rows.length c0_0] 53) = x := ⟨_, rfl⟩
  have bw_a_0 : Below w.heap.size w w_a_0 := by rw [← hw_a_0]; exact (Below.refl _ _).alloc (Nat.le_refl _) _
  have HBw_a_0 := Lib.hid (Below.step HB.out bw_a_0)
  clear bw_a_0
  have ka_0_0 : w_a_0.cell? ⟨w.heap.size, 0, none⟩ = some (.slice A0_0 a_rows.length c0_0) := by rw [← hw_a_0]; exact box_new _ _ _ 0 _ rfl
  replace H := bind_hid H
  obtain ⟨t_5, qt_5, H⟩ := H
  go_wp2_with fail
  go_at_call 36
  refine (Go.Proofs.Ytaknldlglfnbfaa.GlSzStringS.C (a_rows) (left) A0_0 c0_0 _  (Lib.hid (Cells.below M0_0.out HBw_a_0.out)) N0_0 qt_5).mono ?_
  rintro e_t_5 wt_5 ⟨rfl, bt_5⟩
  have HBwt_5 := Lib.hid (Below.step HBw_a_0.out bt_5)
  replace ka_0_0 := cell_below bt_5 ka_0_0
  clear bt_5
  replace H := let_hid H
  obtain ⟨t_8, ht_8, H⟩ := H
  cases t_8 with
  | false =>
    replace H := ite_f H
    obtain rfl := ret_hid H
    go_wp2_with fail
    go_ret
    exact ⟨rfl, HBwt_5.out⟩
  | true =>
    replace H := ite_t H
    obtain rfl := ret_hid H
    go_wp2_with fail
    go_ret
    exact ⟨rfl, HBwt_5.out⟩
end Go.Proofs.Ytaknldlglfnbfaa.GlSzBlock
