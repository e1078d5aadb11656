/- slices.ContainsFunc[[]loop.example/g01062/impl.Comb,loop.example/g01062/impl.Comb] as a plain function, and the contract of the program's: where the plain one has an answer, the program has it. Conditions: slices read as lists. -/
import Derived.Test.YtdgbigkcophjoaaChecked
import Derived.Test.YtdgbigkcophjoaaGoM
import Derived.Test.YtdgbigkcophjoaaGoRComb
import Derived.Test.YtdgbigkcophjoaaGxSlicesIndexFuncLoopExampleG01062ImplCombLoopExampleG01062ImplCombiSameGauges1
import Derived.WalkKit
import Derived.WalkSpells
import Derived.WalkLawsBesides
import Derived.BigQuiet
import Derived.OwnWalk
import Derived.Deep.LoopGhost
import Derived.Deep.QuietTactic
import Derived.IntWalk
import Derived.Lib.QuietBelow
namespace Go.Proofs.Ytdgbigkcophjoaa.GxSlicesContainsFuncLoopExampleG01062ImplCombLoopExampleG01062ImplCombiSameGauges1
set_option linter.unusedVariables false
set_option linter.unusedSimpArgs false
open Go.RowKit
open Go.Proofs.Ytdgbigkcophjoaa.Rowed Go.Proofs.Ytdgbigkcophjoaa.Turn Go.Proofs.Ytdgbigkcophjoaa.Aid Go.Proofs.Ytdgbigkcophjoaa.GoP Go.Proofs.Ytdgbigkcophjoaa.GoM

def P (s_0 : (List Go.Proofs.Ytdgbigkcophjoaa.PComb.Comb)) (hf1_0_id : Int) (hf1_0_wide : Int) (hf1_0_high : Int) (hf1_0_line : Bool) : Option (Bool) :=
  Option.bind (Go.Proofs.Ytdgbigkcophjoaa.GxSlicesIndexFuncLoopExampleG01062ImplCombLoopExampleG01062ImplCombiSameGauges1.P s_0 hf1_0_id hf1_0_wide hf1_0_high hf1_0_line) fun (t_3 : Int) =>
  letK (decide (0 ≤ t_3)) fun (t_4 : Bool) =>
  some t_4

set_option maxRecDepth 100000 in
set_option maxHeartbeats 2000000 in
theorem C (s_0 : (List Go.Proofs.Ytdgbigkcophjoaa.PComb.Comb)) (hf1_0_id : Int) (hf1_0_wide : Int) (hf1_0_high : Int) (hf1_0_line : Bool) (A0 : Option Addr) (c0 : Nat) (gf1_0 : Nat) (w : World) (M0 : Hid (Cells w 4 A0 s_0.length (Go.Proofs.Ytdgbigkcophjoaa.PComb.flat s_0))) (N0 : Hid (s_0.length ≤ 9223372036854775807)) (Ff1_0_0h : Hid (w.cell? ⟨gf1_0, 0, none⟩ = some (.int .i64 hf1_0_id))) (Ff1_0_1h : Hid (w.cell? ⟨gf1_0, 1, none⟩ = some (.int .i64 hf1_0_wide))) (Ff1_0_2h : Hid (w.cell? ⟨gf1_0, 2, none⟩ = some (.int .i64 hf1_0_high))) (Ff1_0_3h : Hid (w.cell? ⟨gf1_0, 3, none⟩ = some (.bool hf1_0_line))) {r : Bool} (H : Hid (P s_0 hf1_0_id hf1_0_wide hf1_0_high hf1_0_line = some r)) :
    Calls Try.prog 104 #[.slice A0 s_0.length c0, .func (.func 103) #[] #[.pointer (some ⟨gf1_0, 0, none⟩)]] w (Gives (.bool r) w) := by
  have HB := Lib.hid (Below.refl w.heap.size w)
  unfold P at H
  have N0o := N0.out
  have Ff1_0_0 := Ff1_0_0h.out
  have Ff1_0_1 := Ff1_0_1h.out
  have Ff1_0_2 := Ff1_0_2h.out
  have Ff1_0_3 := Ff1_0_3h.out
  go_enter Try.func104, Try.ntmps104
  replace H := bind_hid H
  obtain ⟨t_3, qt_3, H⟩ := H
  go_wp2_with fail
  go_at_call 117
  refine (Go.Proofs.Ytdgbigkcophjoaa.GxSlicesIndexFuncLoopExampleG01062ImplCombLoopExampleG01062ImplCombiSameGauges1.C (s_0) (hf1_0_id) (hf1_0_wide) (hf1_0_high) (hf1_0_line) A0 c0 (gf1_0) _   (Lib.hid (Cells.below M0.out HB.out)) N0 (Lib.hid Ff1_0_0) (Lib.hid Ff1_0_1) (Lib.hid Ff1_0_2) (Lib.hid Ff1_0_3) qt_3).mono ?_
  rintro e_t_3 wt_3 ⟨rfl, bt_3⟩
  have HBwt_3 := Lib.hid (Below.step HB.out bt_3)
  replace Ff1_0_0 := cell_below bt_3 Ff1_0_0
  replace Ff1_0_1 := cell_below bt_3 Ff1_0_1
  replace Ff1_0_2 := cell_below bt_3 Ff1_0_2
  replace Ff1_0_3 := cell_below bt_3 Ff1_0_3
  clear bt_3
  replace H := let_hid H
  obtain ⟨t_4, ht_4, H⟩ := H
  obtain rfl := ret_hid H
  go_wp2_with fail
  go_ret
  exact ⟨rfl, HBwt_3.out⟩
end Go.Proofs.Ytdgbigkcophjoaa.GxSlicesContainsFuncLoopExampleG01062ImplCombLoopExampleG01062ImplCombiSameGauges1
