/- loop.example/g01062/spec.DrawJoinPositions as a plain function, and the contract of the program's: where the plain one has an answer, the program has it. Conditions: slices read as lists. -/
import Derived.Test.YtbpjhmhnicfdfaaChecked
import Derived.Test.YtbpjhmhnicfdfaaGoM
import Derived.Test.YtbpjhmhnicfdfaaGoC
import Derived.Test.YtbpjhmhnicfdfaaGsL1CurPosition3
import Derived.WalkKit
import Derived.WalkSpells
import Derived.WalkLawsBesides
import Derived.BigQuiet
import Derived.OwnWalk
import Derived.Deep.LoopGhost
import Derived.Deep.QuietTactic
import Derived.IntWalk
import Derived.Lib.QuietBelow
namespace Go.Proofs.Ytbpjhmhnicfdfaa.GsDrawJoinPositions
set_option linter.unusedVariables false
set_option linter.unusedSimpArgs false
open Go.RowKit
open Go.Proofs.Ytbpjhmhnicfdfaa.Rowed Go.Proofs.Ytbpjhmhnicfdfaa.Turn Go.Proofs.Ytbpjhmhnicfdfaa.Aid Go.Proofs.Ytbpjhmhnicfdfaa.GoP Go.Proofs.Ytbpjhmhnicfdfaa.GoM

def P (tapes : List Int → Go.Proofs.Ytbpjhmhnicfdfaa.GoC.Tape) (code : (List Int)) : Option (Int × Int) :=
  letK (tapes code) fun (t_4 : Go.Proofs.Ytbpjhmhnicfdfaa.GoC.Tape) =>
  bind2 (Go.Proofs.Ytbpjhmhnicfdfaa.GsL1CurPosition3.P t_4) fun (t_7 : Int) (t_7_tp : Go.Proofs.Ytbpjhmhnicfdfaa.GoC.Tape) =>
  bind2 (Go.Proofs.Ytbpjhmhnicfdfaa.GsL1CurPosition3.P t_7_tp) fun (t_9 : Int) (t_9_tp : Go.Proofs.Ytbpjhmhnicfdfaa.GoC.Tape) =>
  some (t_7, t_9)

set_option maxRecDepth 100000 in
set_option maxHeartbeats 2000000 in
theorem C (tapes : List Int → Go.Proofs.Ytbpjhmhnicfdfaa.GoC.Tape) (code : (List Int)) (A0 : Option Addr) (c0 : Nat)  (w : World) (HE : Hid (Go.Proofs.Ytbpjhmhnicfdfaa.GoC.Tells tapes)) (M0 : Hid (Cells w 1 A0 code.length (Go.Proofs.Ytbpjhmhnicfdfaa.GoC.u8s code))) (N0 : Hid (code.length ≤ 9223372036854775807)) (V0 : Hid (∀ z ∈ code, 0 ≤ z ∧ z ≤ 255))  {r0 : Int} {r1 : Int} (H : Hid (P tapes code = some (r0, r1))) :
    Calls Try.prog 20 #[.slice A0 code.length c0] w (Gives (.tuple #[.int .i64 r0, .int .i64 r1]) w) := by
  have HB := Lib.hid (Below.refl w.heap.size w)
  unfold P at H
  have N0o := N0.out
  go_enter Try.func20, Try.ntmps20
  replace H := let_hid H
  obtain ⟨t_4, ht_4, H⟩ := H
  obtain ⟨w_t_4, hw_t_4⟩ : ∃ x, w.alloc (.cells #[.slice A0 code.length c0, .int .i64 0, .int .u64 0] 46) = x := ⟨_, rfl⟩
  have bw_t_4 : Below w.heap.size w w_t_4 := by rw [← hw_t_4]; exact (Below.refl _ _).alloc (Nat.le_refl _) _
  have Kt_4 : Hid (Go.Proofs.Ytbpjhmhnicfdfaa.GoC.CurIs w_t_4 w.heap.size w.heap.size A0 c0 t_4) := Lib.hid (by rw [← hw_t_4, ← ht_4]; exact Go.Proofs.Ytbpjhmhnicfdfaa.GoC.cur_new HB.out.size (Cells.below M0.out HB.out) (fun a_ ha_ h0_ => by subst ha_; exact Go.Proofs.Ytbpjhmhnicfdfaa.GoC.cells_lt M0.out (by unfold Go.Proofs.Ytbpjhmhnicfdfaa.GoC.u8s; rw [List.length_map]; exact h0_)) (HE.out.2.2 code V0.out N0.out))
  have hht_4 := Lib.hid ht_4
  clear ht_4
  have HBw_t_4 := Lib.hid (Below.step HB.out bw_t_4)
  clear bw_t_4
  replace H := bind2_hid H
  obtain ⟨t_7, t_7_tp, qt_7, H⟩ := H
  go_wp2_with fail
  go_at_call 46
  refine (Go.Proofs.Ytbpjhmhnicfdfaa.GsL1CurPosition3.C (t_4) (w.heap.size) (A0) (c0) (w.heap.size) _   Kt_4 qt_7).mono ?_
  rintro e_t_7 wt_7 ⟨rfl, kt_7, gt_7⟩
  have Kt_7 := Lib.hid kt_7
  have Gt_7 : Hid (w_t_4.grownBy wt_7 (Value.slice (some ⟨w.heap.size, 0, none⟩) 1 1).ownBlock) := Lib.hid gt_7
  clear kt_7 gt_7
  have HBwt_7 := Lib.hid (Go.Proofs.Ytbpjhmhnicfdfaa.GoC.below_cur HBw_t_4.out Gt_7.out HBw_t_4.out.size (Go.Proofs.Ytbpjhmhnicfdfaa.GoC.cur_lt Kt_4.out).1)
  clear Kt_4 Gt_7
  replace H := bind2_hid H
  obtain ⟨t_9, t_9_tp, qt_9, H⟩ := H
  go_wp2_with fail
  go_at_call 46
  refine (Go.Proofs.Ytbpjhmhnicfdfaa.GsL1CurPosition3.C (t_7_tp) (w.heap.size) (A0) (c0) (w.heap.size) _   Kt_7 qt_9).mono ?_
  rintro e_t_9 wt_9 ⟨rfl, kt_9, gt_9⟩
  have Kt_9 := Lib.hid kt_9
  have Gt_9 : Hid (wt_7.grownBy wt_9 (Value.slice (some ⟨w.heap.size, 0, none⟩) 1 1).ownBlock) := Lib.hid gt_9
  clear kt_9 gt_9
  have HBwt_9 := Lib.hid (Go.Proofs.Ytbpjhmhnicfdfaa.GoC.below_cur HBwt_7.out Gt_9.out HBwt_7.out.size (Go.Proofs.Ytbpjhmhnicfdfaa.GoC.cur_lt Kt_7.out).1)
  clear Kt_7 Gt_9
  cases ret_hid H
  go_wp2_with fail
  go_ret2
  exact ⟨rfl, HBwt_9.out⟩
end Go.Proofs.Ytbpjhmhnicfdfaa.GsDrawJoinPositions
