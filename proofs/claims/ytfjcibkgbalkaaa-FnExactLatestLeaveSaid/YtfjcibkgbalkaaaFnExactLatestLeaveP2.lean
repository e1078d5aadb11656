/- The texts on which the proof of FnExactLatestLeave stands, one behind the other (2 of 2). No condition of their own. -/
import Derived.Test.YtfjcibkgbalkaaaChecked
import Derived.Test.YtfjcibkgbalkaaaFnExactLatestLeaveP1
import Derived.WalkKit
import Derived.WalkSpells
import Derived.WalkLawsBesides
import Derived.BigQuiet
import Derived.OwnWalk
import Derived.Deep.LoopGhost
import Derived.Deep.QuietTactic
import Derived.IntWalk
import Derived.Lib.QuietBelow
import Derived.StillTailTactics
/- loop.example/g01062/impl.filledWith as a plain function, and the contract of the program's: where the plain one has an answer, the program has it. Conditions: slices read as lists. -/
namespace Go.Proofs.Ytfjcibkgbalkaaa.GiFilledWith
set_option linter.unusedVariables false
set_option linter.unusedSimpArgs false
open Go.RowKit
open Go.Proofs.Ytfjcibkgbalkaaa.Rowed Go.Proofs.Ytfjcibkgbalkaaa.Turn Go.Proofs.Ytfjcibkgbalkaaa.Aid Go.Proofs.Ytfjcibkgbalkaaa.GoP Go.Proofs.Ytfjcibkgbalkaaa.GoM

def l0 (minute : Int) (k0 : Nat) (s : (List Int)) (nx0 bk0 : (List Int) → Option (Go.Proofs.Ytfjcibkgbalkaaa.PIntA10.IntA10)) : Option (Go.Proofs.Ytfjcibkgbalkaaa.PIntA10.IntA10) :=
  letK s fun minutes_3l0 =>
  Option.bind (idx minutes_3l0 (k0 : Int)) fun (yt_8 : Int) =>
  letK (minutes_3l0.set k0 minute) fun (l9_9 : (List Int)) =>
  appK nx0 (l9_9)

def e0  (s : (List Int)) : Option (Go.Proofs.Ytfjcibkgbalkaaa.PIntA10.IntA10) :=
  letK s fun minutes_3l0 =>
  some (Go.Proofs.Ytfjcibkgbalkaaa.PIntA10.IntA10.mk (Go.Proofs.Ytfjcibkgbalkaaa.GoA.nth minutes_3l0 0) (Go.Proofs.Ytfjcibkgbalkaaa.GoA.nth minutes_3l0 1) (Go.Proofs.Ytfjcibkgbalkaaa.GoA.nth minutes_3l0 2) (Go.Proofs.Ytfjcibkgbalkaaa.GoA.nth minutes_3l0 3) (Go.Proofs.Ytfjcibkgbalkaaa.GoA.nth minutes_3l0 4) (Go.Proofs.Ytfjcibkgbalkaaa.GoA.nth minutes_3l0 5) (Go.Proofs.Ytfjcibkgbalkaaa.GoA.nth minutes_3l0 6) (Go.Proofs.Ytfjcibkgbalkaaa.GoA.nth minutes_3l0 7) (Go.Proofs.Ytfjcibkgbalkaaa.GoA.nth minutes_3l0 8) (Go.Proofs.Ytfjcibkgbalkaaa.GoA.nth minutes_3l0 9))

def P (minute : Int) : Option (Go.Proofs.Ytfjcibkgbalkaaa.PIntA10.IntA10) :=
  letK ([0, 0, 0, 0, 0, 0, 0, 0, 0, 0]) fun (vminutes_1 : (List Int)) =>
  cntK (l0 minute) (10) 0 (vminutes_1) (e0 )

set_option maxRecDepth 100000 in
set_option maxHeartbeats 2000000 in
theorem C (minute : Int)   (w : World)   {r : Go.Proofs.Ytfjcibkgbalkaaa.PIntA10.IntA10} (H : Hid (P minute = some r)) :
    Calls Try.prog 115 #[.int .i64 minute] w (Gives ((Go.Proofs.Ytfjcibkgbalkaaa.PIntA10.IntA10.val r)) w) := by
  have HB := Lib.hid (Below.refl w.heap.size w)
  unfold P at H
  go_enter Try.func115, Try.ntmps115
  obtain ⟨w_t_0, hw_t_0⟩ : ∃ x, w.alloc (.cells #[.int .i64 0, .int .i64 0, .int .i64 0, .int .i64 0, .int .i64 0, .int .i64 0, .int .i64 0, .int .i64 0, .int .i64 0, .int .i64 0] 92) = x := ⟨_, rfl⟩
  have bw_t_0 : Below w.heap.size w w_t_0 := by rw [← hw_t_0]; exact (Below.refl _ _).alloc (Nat.le_refl _) _
  have HBw_t_0 := Lib.hid (Below.step HB.out bw_t_0)
  clear bw_t_0
  have kt_0_0 : w_t_0.cell? ⟨w.heap.size, 0, none⟩ = some (.int .i64 0) := by rw [← hw_t_0]; exact box_new _ _ _ 0 _ rfl
  have kt_0_1 : w_t_0.cell? ⟨w.heap.size, 1, none⟩ = some (.int .i64 0) := by rw [← hw_t_0]; exact box_new _ _ _ 1 _ rfl
  have kt_0_2 : w_t_0.cell? ⟨w.heap.size, 2, none⟩ = some (.int .i64 0) := by rw [← hw_t_0]; exact box_new _ _ _ 2 _ rfl
  have kt_0_3 : w_t_0.cell? ⟨w.heap.size, 3, none⟩ = some (.int .i64 0) := by rw [← hw_t_0]; exact box_new _ _ _ 3 _ rfl
  have kt_0_4 : w_t_0.cell? ⟨w.heap.size, 4, none⟩ = some (.int .i64 0) := by rw [← hw_t_0]; exact box_new _ _ _ 4 _ rfl
  have kt_0_5 : w_t_0.cell? ⟨w.heap.size, 5, none⟩ = some (.int .i64 0) := by rw [← hw_t_0]; exact box_new _ _ _ 5 _ rfl
  have kt_0_6 : w_t_0.cell? ⟨w.heap.size, 6, none⟩ = some (.int .i64 0) := by rw [← hw_t_0]; exact box_new _ _ _ 6 _ rfl
  have kt_0_7 : w_t_0.cell? ⟨w.heap.size, 7, none⟩ = some (.int .i64 0) := by rw [← hw_t_0]; exact box_new _ _ _ 7 _ rfl
  have kt_0_8 : w_t_0.cell? ⟨w.heap.size, 8, none⟩ = some (.int .i64 0) := by rw [← hw_t_0]; exact box_new _ _ _ 8 _ rfl
  have kt_0_9 : w_t_0.cell? ⟨w.heap.size, 9, none⟩ = some (.int .i64 0) := by rw [← hw_t_0]; exact box_new _ _ _ 9 _ rfl
  have Ot_0 : Hid (w_t_0.ownsRow w.heap.size 92 10 (.slice (some ⟨w.heap.size, 0, none⟩) 1 1) 1 [.int .i64 0, .int .i64 0, .int .i64 0, .int .i64 0, .int .i64 0, .int .i64 0, .int .i64 0, .int .i64 0, .int .i64 0, .int .i64 0]) := Lib.hid (by rw [← hw_t_0]; exact own_laid (n := 1) HB.out.size rfl rfl (by unfold maxLen; omega))
  replace H := let_hid H
  obtain ⟨vminutes_1, hvminutes_1, H⟩ := H
  obtain ⟨w_minutes_1, hw_minutes_1⟩ : ∃ x, w_t_0.alloc (.cells #[.int .i64 0, .int .i64 0, .int .i64 0, .int .i64 0, .int .i64 0, .int .i64 0, .int .i64 0, .int .i64 0, .int .i64 0, .int .i64 0] 92) = x := ⟨_, rfl⟩
  have bw_minutes_1 : Below w_t_0.heap.size w_t_0 w_minutes_1 := by rw [← hw_minutes_1]; exact (Below.refl _ _).alloc (Nat.le_refl _) _
  have hs_minutes_1 := HBw_t_0.out.size
  have nminutes_1 : vminutes_1.length = 10 := by rw [← hvminutes_1]; rfl
  have Ominutes_1 : Hid (w_minutes_1.ownsRow w.heap.size 92 1 (.slice (some ⟨w_t_0.heap.size, 0, none⟩) 10 10) 10 (Go.Proofs.Ytfjcibkgbalkaaa.HelpInt.iv vminutes_1)) := by
    rw [← hw_minutes_1, ← hvminutes_1]
    have e_ : ([.int .i64 0, .int .i64 0, .int .i64 0, .int .i64 0, .int .i64 0, .int .i64 0, .int .i64 0, .int .i64 0, .int .i64 0, .int .i64 0] : List Value) = Go.Proofs.Ytfjcibkgbalkaaa.HelpInt.iv [0, 0, 0, 0, 0, 0, 0, 0, 0, 0] := rfl
    exact Lib.hid (own_laid (n := 10) hs_minutes_1 e_ rfl (by unfold maxLen; omega))
  clear hs_minutes_1
  have hhminutes_1 := Lib.hid hvminutes_1
  clear hvminutes_1
  replace nminutes_1 := Lib.hid nminutes_1
  have Dminutes_1_t_0 := Lib.hid (apart_box kt_0_0)
  have HBw_minutes_1 := Lib.hid (Below.step HBw_t_0.out bw_minutes_1)
  have kt_0_0__605 := cell_below bw_minutes_1 kt_0_0
  have kt_0_1__606 := cell_below bw_minutes_1 kt_0_1
  have kt_0_2__607 := cell_below bw_minutes_1 kt_0_2
  have kt_0_3__608 := cell_below bw_minutes_1 kt_0_3
  have kt_0_4__609 := cell_below bw_minutes_1 kt_0_4
  have kt_0_5__610 := cell_below bw_minutes_1 kt_0_5
  have kt_0_6__611 := cell_below bw_minutes_1 kt_0_6
  have kt_0_7__612 := cell_below bw_minutes_1 kt_0_7
  have kt_0_8__613 := cell_below bw_minutes_1 kt_0_8
  have kt_0_9__614 := cell_below bw_minutes_1 kt_0_9
  replace Ot_0 := Lib.hid (own_below Ot_0.out bw_minutes_1)
  clear bw_minutes_1
  go_wp2_with fail
  clear kt_0_0 kt_0_1 kt_0_2 kt_0_3 kt_0_4 kt_0_5 kt_0_6 kt_0_7 kt_0_8 kt_0_9
  go_wp2_with fail
  go_loopg [5] (10) (fun m_ v5_ wr => ∃ (k0 : Nat) (minutes_3l0 : (List Int)), k0 + m_ = 10 ∧ v5_ = .int .i64 (k0 : Int) ∧ Hid (cntK (l0 minute) m_ k0 (minutes_3l0) (e0 ) = some r) ∧ Hid (Below w.heap.size w wr) ∧ wr.cell? ⟨w.heap.size, 0, none⟩ = some (.int .i64 0) ∧ wr.cell? ⟨w.heap.size, 1, none⟩ = some (.int .i64 0) ∧ wr.cell? ⟨w.heap.size, 2, none⟩ = some (.int .i64 0) ∧ wr.cell? ⟨w.heap.size, 3, none⟩ = some (.int .i64 0) ∧ wr.cell? ⟨w.heap.size, 4, none⟩ = some (.int .i64 0) ∧ wr.cell? ⟨w.heap.size, 5, none⟩ = some (.int .i64 0) ∧ wr.cell? ⟨w.heap.size, 6, none⟩ = some (.int .i64 0) ∧ wr.cell? ⟨w.heap.size, 7, none⟩ = some (.int .i64 0) ∧ wr.cell? ⟨w.heap.size, 8, none⟩ = some (.int .i64 0) ∧ wr.cell? ⟨w.heap.size, 9, none⟩ = some (.int .i64 0) ∧ Hid (wr.ownsRow w.heap.size 92 10 (.slice (some ⟨w.heap.size, 0, none⟩) 1 1) 1 [.int .i64 0, .int .i64 0, .int .i64 0, .int .i64 0, .int .i64 0, .int .i64 0, .int .i64 0, .int .i64 0, .int .i64 0, .int .i64 0]) ∧ Hid (wr.ownsRow w.heap.size 92 1 (.slice (some ⟨w_t_0.heap.size, 0, none⟩) 10 10) 10 (Go.Proofs.Ytfjcibkgbalkaaa.HelpInt.iv minutes_3l0)) ∧ Hid (minutes_3l0.length = 10) ∧ Hid (Apart (some ⟨w_t_0.heap.size, 0, none⟩) (some ⟨w.heap.size, 0, none⟩)))
  case atStart => exact ⟨0, _, by omega, rfl, H, HBw_minutes_1, kt_0_0__605, kt_0_1__606, kt_0_2__607, kt_0_3__608, kt_0_4__609, kt_0_5__610, kt_0_6__611, kt_0_7__612, kt_0_8__613, kt_0_9__614, Ot_0, Ominutes_1, Lib.hid (nminutes_1.out), Lib.hid Dminutes_1_t_0.out⟩
  case round =>
    obtain ⟨k0, minutes_3l0, hkm0, rfl, H, HBwr0, kt_0_0__605, kt_0_1__606, kt_0_2__607, kt_0_3__608, kt_0_4__609, kt_0_5__610, kt_0_6__611, kt_0_7__612, kt_0_8__613, kt_0_9__614, Ot_0, Ominutes_3l0, hnminutes_3l0, Dminutes_3l0_t_0⟩ := hrel
    rename World => wr0
    cases gk with
    | zero =>
      obtain rfl : k0 = 10 := by omega
      have hc0 : decide (((10 : Nat) : Int) < ((10 : Nat) : Int)) = false := by simp
      replace H := cnt_zero H
      unfold e0 at H
      replace H := let_hid H
      obtain ⟨_, rfl, H⟩ := H
      have ka_615 : wr0.cell? ⟨w_t_0.heap.size, 0, none⟩ = some (.int .i64 (Go.Proofs.Ytfjcibkgbalkaaa.GoA.nth minutes_3l0 0)) := Go.Proofs.Ytfjcibkgbalkaaa.GoA.row_at Ominutes_3l0.out hnminutes_3l0.out 0 (by omega)
      have ka_616 : wr0.cell? ⟨w_t_0.heap.size, 1, none⟩ = some (.int .i64 (Go.Proofs.Ytfjcibkgbalkaaa.GoA.nth minutes_3l0 1)) := Go.Proofs.Ytfjcibkgbalkaaa.GoA.row_at Ominutes_3l0.out hnminutes_3l0.out 1 (by omega)
      have ka_617 : wr0.cell? ⟨w_t_0.heap.size, 2, none⟩ = some (.int .i64 (Go.Proofs.Ytfjcibkgbalkaaa.GoA.nth minutes_3l0 2)) := Go.Proofs.Ytfjcibkgbalkaaa.GoA.row_at Ominutes_3l0.out hnminutes_3l0.out 2 (by omega)
      have ka_618 : wr0.cell? ⟨w_t_0.heap.size, 3, none⟩ = some (.int .i64 (Go.Proofs.Ytfjcibkgbalkaaa.GoA.nth minutes_3l0 3)) := Go.Proofs.Ytfjcibkgbalkaaa.GoA.row_at Ominutes_3l0.out hnminutes_3l0.out 3 (by omega)
      have ka_619 : wr0.cell? ⟨w_t_0.heap.size, 4, none⟩ = some (.int .i64 (Go.Proofs.Ytfjcibkgbalkaaa.GoA.nth minutes_3l0 4)) := Go.Proofs.Ytfjcibkgbalkaaa.GoA.row_at Ominutes_3l0.out hnminutes_3l0.out 4 (by omega)
      have ka_620 : wr0.cell? ⟨w_t_0.heap.size, 5, none⟩ = some (.int .i64 (Go.Proofs.Ytfjcibkgbalkaaa.GoA.nth minutes_3l0 5)) := Go.Proofs.Ytfjcibkgbalkaaa.GoA.row_at Ominutes_3l0.out hnminutes_3l0.out 5 (by omega)
      have ka_621 : wr0.cell? ⟨w_t_0.heap.size, 6, none⟩ = some (.int .i64 (Go.Proofs.Ytfjcibkgbalkaaa.GoA.nth minutes_3l0 6)) := Go.Proofs.Ytfjcibkgbalkaaa.GoA.row_at Ominutes_3l0.out hnminutes_3l0.out 6 (by omega)
      have ka_622 : wr0.cell? ⟨w_t_0.heap.size, 7, none⟩ = some (.int .i64 (Go.Proofs.Ytfjcibkgbalkaaa.GoA.nth minutes_3l0 7)) := Go.Proofs.Ytfjcibkgbalkaaa.GoA.row_at Ominutes_3l0.out hnminutes_3l0.out 7 (by omega)
      have ka_623 : wr0.cell? ⟨w_t_0.heap.size, 8, none⟩ = some (.int .i64 (Go.Proofs.Ytfjcibkgbalkaaa.GoA.nth minutes_3l0 8)) := Go.Proofs.Ytfjcibkgbalkaaa.GoA.row_at Ominutes_3l0.out hnminutes_3l0.out 8 (by omega)
      have ka_624 : wr0.cell? ⟨w_t_0.heap.size, 9, none⟩ = some (.int .i64 (Go.Proofs.Ytfjcibkgbalkaaa.GoA.nth minutes_3l0 9)) := Go.Proofs.Ytfjcibkgbalkaaa.GoA.row_at Ominutes_3l0.out hnminutes_3l0.out 9 (by omega)
      obtain ⟨wb13_13, hwb13_13⟩ : ∃ x, ((((((((((wr0).setCell ⟨w.heap.size, 0, none⟩ (.int .i64 (Go.Proofs.Ytfjcibkgbalkaaa.GoA.nth minutes_3l0 0))).setCell ⟨w.heap.size, 1, none⟩ (.int .i64 (Go.Proofs.Ytfjcibkgbalkaaa.GoA.nth minutes_3l0 1))).setCell ⟨w.heap.size, 2, none⟩ (.int .i64 (Go.Proofs.Ytfjcibkgbalkaaa.GoA.nth minutes_3l0 2))).setCell ⟨w.heap.size, 3, none⟩ (.int .i64 (Go.Proofs.Ytfjcibkgbalkaaa.GoA.nth minutes_3l0 3))).setCell ⟨w.heap.size, 4, none⟩ (.int .i64 (Go.Proofs.Ytfjcibkgbalkaaa.GoA.nth minutes_3l0 4))).setCell ⟨w.heap.size, 5, none⟩ (.int .i64 (Go.Proofs.Ytfjcibkgbalkaaa.GoA.nth minutes_3l0 5))).setCell ⟨w.heap.size, 6, none⟩ (.int .i64 (Go.Proofs.Ytfjcibkgbalkaaa.GoA.nth minutes_3l0 6))).setCell ⟨w.heap.size, 7, none⟩ (.int .i64 (Go.Proofs.Ytfjcibkgbalkaaa.GoA.nth minutes_3l0 7))).setCell ⟨w.heap.size, 8, none⟩ (.int .i64 (Go.Proofs.Ytfjcibkgbalkaaa.GoA.nth minutes_3l0 8))).setCell ⟨w.heap.size, 9, none⟩ (.int .i64 (Go.Proofs.Ytfjcibkgbalkaaa.GoA.nth minutes_3l0 9)) = x := ⟨_, rfl⟩
      have z0b13_13 := Ot_0.out.frozenAt 0
      have z1b13_13 := Ot_0.out.frozenAt 1
      have z2b13_13 := Ot_0.out.frozenAt 2
      have z3b13_13 := Ot_0.out.frozenAt 3
      have z4b13_13 := Ot_0.out.frozenAt 4
      have z5b13_13 := Ot_0.out.frozenAt 5
      have z6b13_13 := Ot_0.out.frozenAt 6
      have z7b13_13 := Ot_0.out.frozenAt 7
      have z8b13_13 := Ot_0.out.frozenAt 8
      have z9b13_13 := Ot_0.out.frozenAt 9
      have Sb13_13 := Lib.hid (own_stores [(0, .int .i64 (Go.Proofs.Ytfjcibkgbalkaaa.GoA.nth minutes_3l0 0)), (1, .int .i64 (Go.Proofs.Ytfjcibkgbalkaaa.GoA.nth minutes_3l0 1)), (2, .int .i64 (Go.Proofs.Ytfjcibkgbalkaaa.GoA.nth minutes_3l0 2)), (3, .int .i64 (Go.Proofs.Ytfjcibkgbalkaaa.GoA.nth minutes_3l0 3)), (4, .int .i64 (Go.Proofs.Ytfjcibkgbalkaaa.GoA.nth minutes_3l0 4)), (5, .int .i64 (Go.Proofs.Ytfjcibkgbalkaaa.GoA.nth minutes_3l0 5)), (6, .int .i64 (Go.Proofs.Ytfjcibkgbalkaaa.GoA.nth minutes_3l0 6)), (7, .int .i64 (Go.Proofs.Ytfjcibkgbalkaaa.GoA.nth minutes_3l0 7)), (8, .int .i64 (Go.Proofs.Ytfjcibkgbalkaaa.GoA.nth minutes_3l0 8)), (9, .int .i64 (Go.Proofs.Ytfjcibkgbalkaaa.GoA.nth minutes_3l0 9))] Ot_0.out)
      have Pb13_13 : Hid (wb13_13.ownsRow w.heap.size 92 10 (.slice (some ⟨w.heap.size, 0, none⟩) 1 1) 1 [.int .i64 (Go.Proofs.Ytfjcibkgbalkaaa.GoA.nth minutes_3l0 0), .int .i64 (Go.Proofs.Ytfjcibkgbalkaaa.GoA.nth minutes_3l0 1), .int .i64 (Go.Proofs.Ytfjcibkgbalkaaa.GoA.nth minutes_3l0 2), .int .i64 (Go.Proofs.Ytfjcibkgbalkaaa.GoA.nth minutes_3l0 3), .int .i64 (Go.Proofs.Ytfjcibkgbalkaaa.GoA.nth minutes_3l0 4), .int .i64 (Go.Proofs.Ytfjcibkgbalkaaa.GoA.nth minutes_3l0 5), .int .i64 (Go.Proofs.Ytfjcibkgbalkaaa.GoA.nth minutes_3l0 6), .int .i64 (Go.Proofs.Ytfjcibkgbalkaaa.GoA.nth minutes_3l0 7), .int .i64 (Go.Proofs.Ytfjcibkgbalkaaa.GoA.nth minutes_3l0 8), .int .i64 (Go.Proofs.Ytfjcibkgbalkaaa.GoA.nth minutes_3l0 9)]) := Lib.hid (by rw [← hwb13_13]; exact Sb13_13.out.1)
      have Gb13_13 : Hid (wr0.grownBy wb13_13 (Value.slice (some ⟨w.heap.size, 0, none⟩) 1 1).ownBlock) := Lib.hid (by rw [← hwb13_13]; exact Sb13_13.out.2)
      have HBwb13_13 := Lib.hid (HBwr0.out.grown Gb13_13.out HBwr0.out.size (fun q hq => (Ot_0.out.lt q hq).1))
      clear Sb13_13
      replace Ominutes_3l0 := Lib.hid (own_other Ominutes_3l0.out Gb13_13.out (Apart.symm Dminutes_3l0_t_0.out))
      clear Ot_0 Gb13_13
      have kt_0_0__625 : wb13_13.cell? ⟨w.heap.size, 0, none⟩ = some (.int .i64 (Go.Proofs.Ytfjcibkgbalkaaa.GoA.nth minutes_3l0 0)) := Pb13_13.out.cells rfl 0 _ rfl
      have kt_0_1__626 : wb13_13.cell? ⟨w.heap.size, 1, none⟩ = some (.int .i64 (Go.Proofs.Ytfjcibkgbalkaaa.GoA.nth minutes_3l0 1)) := Pb13_13.out.cells rfl 1 _ rfl
      have kt_0_2__627 : wb13_13.cell? ⟨w.heap.size, 2, none⟩ = some (.int .i64 (Go.Proofs.Ytfjcibkgbalkaaa.GoA.nth minutes_3l0 2)) := Pb13_13.out.cells rfl 2 _ rfl
      have kt_0_3__628 : wb13_13.cell? ⟨w.heap.size, 3, none⟩ = some (.int .i64 (Go.Proofs.Ytfjcibkgbalkaaa.GoA.nth minutes_3l0 3)) := Pb13_13.out.cells rfl 3 _ rfl
      have kt_0_4__629 : wb13_13.cell? ⟨w.heap.size, 4, none⟩ = some (.int .i64 (Go.Proofs.Ytfjcibkgbalkaaa.GoA.nth minutes_3l0 4)) := Pb13_13.out.cells rfl 4 _ rfl
      have kt_0_5__630 : wb13_13.cell? ⟨w.heap.size, 5, none⟩ = some (.int .i64 (Go.Proofs.Ytfjcibkgbalkaaa.GoA.nth minutes_3l0 5)) := Pb13_13.out.cells rfl 5 _ rfl
      have kt_0_6__631 : wb13_13.cell? ⟨w.heap.size, 6, none⟩ = some (.int .i64 (Go.Proofs.Ytfjcibkgbalkaaa.GoA.nth minutes_3l0 6)) := Pb13_13.out.cells rfl 6 _ rfl
      have kt_0_7__632 : wb13_13.cell? ⟨w.heap.size, 7, none⟩ = some (.int .i64 (Go.Proofs.Ytfjcibkgbalkaaa.GoA.nth minutes_3l0 7)) := Pb13_13.out.cells rfl 7 _ rfl
      have kt_0_8__633 : wb13_13.cell? ⟨w.heap.size, 8, none⟩ = some (.int .i64 (Go.Proofs.Ytfjcibkgbalkaaa.GoA.nth minutes_3l0 8)) := Pb13_13.out.cells rfl 8 _ rfl
      have kt_0_9__634 : wb13_13.cell? ⟨w.heap.size, 9, none⟩ = some (.int .i64 (Go.Proofs.Ytfjcibkgbalkaaa.GoA.nth minutes_3l0 9)) := Pb13_13.out.cells rfl 9 _ rfl
      cases ret_hid H
      go_wp2_with fail
      (try simp only [Exit.inBlock, Exit.then])
      refine bodyPost_ret (v := .agg #[.int .i64 (Go.Proofs.Ytfjcibkgbalkaaa.GoA.nth minutes_3l0 0), .int .i64 (Go.Proofs.Ytfjcibkgbalkaaa.GoA.nth minutes_3l0 1), .int .i64 (Go.Proofs.Ytfjcibkgbalkaaa.GoA.nth minutes_3l0 2), .int .i64 (Go.Proofs.Ytfjcibkgbalkaaa.GoA.nth minutes_3l0 3), .int .i64 (Go.Proofs.Ytfjcibkgbalkaaa.GoA.nth minutes_3l0 4), .int .i64 (Go.Proofs.Ytfjcibkgbalkaaa.GoA.nth minutes_3l0 5), .int .i64 (Go.Proofs.Ytfjcibkgbalkaaa.GoA.nth minutes_3l0 6), .int .i64 (Go.Proofs.Ytfjcibkgbalkaaa.GoA.nth minutes_3l0 7), .int .i64 (Go.Proofs.Ytfjcibkgbalkaaa.GoA.nth minutes_3l0 8), .int .i64 (Go.Proofs.Ytfjcibkgbalkaaa.GoA.nth minutes_3l0 9)]) ?hr_ ?hd_ ?_
      case hd_ => rfl
      case hr_ => simp [results, Try.results115, kt_0_0__625, kt_0_1__626, kt_0_2__627, kt_0_3__628, kt_0_4__629, kt_0_5__630, kt_0_6__631, kt_0_7__632, kt_0_8__633, kt_0_9__634, go_sem]
      exact ⟨rfl, HBwb13_13.out⟩
    | succ m0 =>
      have hlt0 : k0 < 10 := by omega
      have hc0 : decide ((k0 : Int) < ((10 : Nat) : Int)) = true := by simp; omega
      replace H := cnt_succ H
      have hd0 : decide ((k0 : Int) < 10) = true := by simp; omega
      unfold l0 at H
      replace H := let_hid H
      obtain ⟨_, rfl, H⟩ := H
      replace H := idx_hid H
      obtain ⟨nt_8, yt_8, et_8, lt_8, gt_8, H⟩ := H
      obtain rfl : k0 = nt_8 := by omega
      clear et_8
      have hqt_8 := hnminutes_3l0.out
      obtain ⟨ab_t_8, ao_t_8, zt_8, At_8, z_t_8, ct_8_0⟩ := Go.Proofs.Ytfjcibkgbalkaaa.HelpInt.Ints.at_ (own_cells Ominutes_3l0.out) (k := k0) (by omega)
      obtain rfl := Option.some.inj (gt_8.out.symm.trans z_t_8)
      simp only [Option.some.injEq, Addr.mk.injEq] at At_8
      obtain ⟨rfl, rfl, _⟩ := At_8
      clear z_t_8
      simp only [Nat.zero_add] at ct_8_0
      have b0t_8 : (0 : Int) ≤ (k0 : Int) := by omega
      have b1t_8 : (k0 : Int) < ((10 : Nat) : Int) := by omega
      have b2t_8 : ((k0 : Int)).toNat = k0 := by omega
      clear hqt_8
      have b3t_8 : k0 < 10 := by have h_ := lt_8; have hn_ := hnminutes_3l0.out; omega
      have b4t_8 : (k0 : Int) < (10 : Int) := by omega
      replace H := let_hid H
      obtain ⟨l9_9, hl9_9, H⟩ := H
      try simp only [Int.toNat_natCast] at hl9_9
      obtain ⟨wl9_9, hwl9_9⟩ : ∃ x, (wr0).setCell ⟨w_t_0.heap.size, k0, none⟩ (.int .i64 minute) = x := ⟨_, rfl⟩
      have z0l9_9 := Ominutes_3l0.out.frozenAt (k0)
      have Sl9_9 := Lib.hid (own_stores [(k0, .int .i64 minute)] Ominutes_3l0.out)
      have nl9_9 : Hid (l9_9.length = 10) := Lib.hid (by rw [← hl9_9, List.length_set]; exact hnminutes_3l0.out)
      have Pl9_9 : Hid (wl9_9.ownsRow w.heap.size 92 1 (.slice (some ⟨w_t_0.heap.size, 0, none⟩) 10 10) 10 (Go.Proofs.Ytfjcibkgbalkaaa.HelpInt.iv l9_9)) := Lib.hid (by have e_ : ([(k0, .int .i64 minute)] : List (Nat × Value)).foldl (fun xs p => xs.set p.1 p.2) (Go.Proofs.Ytfjcibkgbalkaaa.HelpInt.iv minutes_3l0) = (Go.Proofs.Ytfjcibkgbalkaaa.HelpInt.iv l9_9) := (by rw [← hl9_9]; first | done | simp [Go.Proofs.Ytfjcibkgbalkaaa.HelpInt.iv, List.map_set]); rw [← hwl9_9, ← e_]; exact Sl9_9.out.1)
      have Gl9_9 : Hid (wr0.grownBy wl9_9 (Value.slice (some ⟨w_t_0.heap.size, 0, none⟩) 10 10).ownBlock) := Lib.hid (by rw [← hwl9_9]; exact Sl9_9.out.2)
      have HBwl9_9 := Lib.hid (HBwr0.out.grown Gl9_9.out HBwr0.out.size (fun q hq => (Ominutes_3l0.out.lt q hq).1))
      have hhl9_9 := Lib.hid hl9_9
      clear hl9_9 Sl9_9
      have kt_0_0__635 := cell_other kt_0_0__605 Gl9_9.out Dminutes_3l0_t_0.out
      have kt_0_1__636 := cell_other kt_0_1__606 Gl9_9.out Dminutes_3l0_t_0.out
      have kt_0_2__637 := cell_other kt_0_2__607 Gl9_9.out Dminutes_3l0_t_0.out
      have kt_0_3__638 := cell_other kt_0_3__608 Gl9_9.out Dminutes_3l0_t_0.out
      have kt_0_4__639 := cell_other kt_0_4__609 Gl9_9.out Dminutes_3l0_t_0.out
      have kt_0_5__640 := cell_other kt_0_5__610 Gl9_9.out Dminutes_3l0_t_0.out
      have kt_0_6__641 := cell_other kt_0_6__611 Gl9_9.out Dminutes_3l0_t_0.out
      have kt_0_7__642 := cell_other kt_0_7__612 Gl9_9.out Dminutes_3l0_t_0.out
      have kt_0_8__643 := cell_other kt_0_8__613 Gl9_9.out Dminutes_3l0_t_0.out
      have kt_0_9__644 := cell_other kt_0_9__614 Gl9_9.out Dminutes_3l0_t_0.out
      replace Ot_0 := Lib.hid (own_other Ot_0.out Gl9_9.out Dminutes_3l0_t_0.out)
      clear Ominutes_3l0 Gl9_9
      replace H := app_hid H
      go_wp2_with fail
      clear z0l9_9 kt_0_0__605 kt_0_1__606 kt_0_2__607 kt_0_3__608 kt_0_4__609 kt_0_5__610 kt_0_6__611 kt_0_7__612 kt_0_8__613 kt_0_9__614 ct_8_0
      go_roundg m0
      case measure => omega
      case rel => exact ⟨k0 + 1, _, by omega, by go_num, H, HBwl9_9, kt_0_0__635, kt_0_1__636, kt_0_2__637, kt_0_3__638, kt_0_4__639, kt_0_5__640, kt_0_6__641, kt_0_7__642, kt_0_8__643, kt_0_9__644, Ot_0, Pl9_9, Lib.hid (nl9_9.out), Lib.hid Dminutes_3l0_t_0.out⟩
end Go.Proofs.Ytfjcibkgbalkaaa.GiFilledWith

/- loop.example/g01062/impl.latestMinutes as a plain function, and the contract of the program's: where the plain one has an answer, the program has it. Conditions: slices read as lists. -/
namespace Go.Proofs.Ytfjcibkgbalkaaa.GiLatestMinutes
set_option linter.unusedVariables false
set_option linter.unusedSimpArgs false
open Go.RowKit
open Go.Proofs.Ytfjcibkgbalkaaa.Rowed Go.Proofs.Ytfjcibkgbalkaaa.Turn Go.Proofs.Ytfjcibkgbalkaaa.Aid Go.Proofs.Ytfjcibkgbalkaaa.GoP Go.Proofs.Ytfjcibkgbalkaaa.GoM

def l0 (list : (List Go.Proofs.Ytfjcibkgbalkaaa.PMail.Mail)) (s : (List Int) × Int) (nx0 bk0 : (List Int) × Int → Option (Go.Proofs.Ytfjcibkgbalkaaa.PIntA10.IntA10)) : Option (Go.Proofs.Ytfjcibkgbalkaaa.PIntA10.IntA10) :=
  unp2 s fun latest_7l0 i_8l0 =>
  letK (decide (0 ≤ i_8l0)) fun (t_13 : Bool) =>
  iteK t_13
  (Option.bind (idx list i_8l0) fun (yt_16 : Go.Proofs.Ytfjcibkgbalkaaa.PMail.Mail) =>
  unMail yt_16 fun (t_16_leave : Int) (t_16_from_ : Int) (t_16_to_ : Int) (t_16_arrive : Int) =>
  Option.bind (idx latest_7l0 t_16_to_) fun (yt_24 : Int) =>
  letK (decide (t_16_arrive ≤ yt_24)) fun (t_26 : Bool) =>
  iteK t_26
  (Option.bind (idx latest_7l0 t_16_from_) fun (yt_31 : Int) =>
  letK (max yt_31 t_16_leave) fun (t_35 : Int) =>
  Option.bind (idx latest_7l0 t_16_from_) fun (yt_36 : Int) =>
  letK (latest_7l0.set (t_16_from_).toNat t_35) fun (l37_37 : (List Int)) =>
  letK (IntKind.i64.wrap (i_8l0 - 1)) fun (t_39 : Int) =>
  appK nx0 (l37_37, t_39))
  (letK (IntKind.i64.wrap (i_8l0 - 1)) fun (t_39 : Int) =>
  appK nx0 (latest_7l0, t_39)))
  (appK bk0 (latest_7l0, i_8l0))

def e0  (s : (List Int) × Int) : Option (Go.Proofs.Ytfjcibkgbalkaaa.PIntA10.IntA10) :=
  unp2 s fun latest_7l0 i_8l0 =>
  some (Go.Proofs.Ytfjcibkgbalkaaa.PIntA10.IntA10.mk (Go.Proofs.Ytfjcibkgbalkaaa.GoA.nth latest_7l0 0) (Go.Proofs.Ytfjcibkgbalkaaa.GoA.nth latest_7l0 1) (Go.Proofs.Ytfjcibkgbalkaaa.GoA.nth latest_7l0 2) (Go.Proofs.Ytfjcibkgbalkaaa.GoA.nth latest_7l0 3) (Go.Proofs.Ytfjcibkgbalkaaa.GoA.nth latest_7l0 4) (Go.Proofs.Ytfjcibkgbalkaaa.GoA.nth latest_7l0 5) (Go.Proofs.Ytfjcibkgbalkaaa.GoA.nth latest_7l0 6) (Go.Proofs.Ytfjcibkgbalkaaa.GoA.nth latest_7l0 7) (Go.Proofs.Ytfjcibkgbalkaaa.GoA.nth latest_7l0 8) (Go.Proofs.Ytfjcibkgbalkaaa.GoA.nth latest_7l0 9))

def P (fuel : Nat) (list : (List Go.Proofs.Ytfjcibkgbalkaaa.PMail.Mail)) (to : Int) (by_2 : Int) : Option (Go.Proofs.Ytfjcibkgbalkaaa.PIntA10.IntA10) :=
  Option.bind (Go.Proofs.Ytfjcibkgbalkaaa.GiFilledWith.P (-1)) fun (t_1 : Go.Proofs.Ytfjcibkgbalkaaa.PIntA10.IntA10) =>
  unIntA10 t_1 fun (t_1_x0 : Int) (t_1_x1 : Int) (t_1_x2 : Int) (t_1_x3 : Int) (t_1_x4 : Int) (t_1_x5 : Int) (t_1_x6 : Int) (t_1_x7 : Int) (t_1_x8 : Int) (t_1_x9 : Int) =>
  letK ([t_1_x0, t_1_x1, t_1_x2, t_1_x3, t_1_x4, t_1_x5, t_1_x6, t_1_x7, t_1_x8, t_1_x9]) fun (vlatest_2 : (List Int)) =>
  Option.bind (idx vlatest_2 to) fun (yt_6 : Int) =>
  letK (vlatest_2.set (to).toNat by_2) fun (l7_7 : (List Int)) =>
  letK (IntKind.i64.wrap ((list.length : Int) - 1)) fun (t_10 : Int) =>
  loopK (l0 list) fuel (l7_7, t_10) (e0 )

set_option maxRecDepth 100000 in
set_option maxHeartbeats 2000000 in
theorem C (fuel : Nat) (list : (List Go.Proofs.Ytfjcibkgbalkaaa.PMail.Mail)) (to : Int) (by_2 : Int) (A0 : Option Addr) (c0 : Nat)  (w : World) (M0 : Hid (Cells w 4 A0 list.length (Go.Proofs.Ytfjcibkgbalkaaa.PMail.flat list))) (N0 : Hid (list.length ≤ 9223372036854775807))  {r : Go.Proofs.Ytfjcibkgbalkaaa.PIntA10.IntA10} (H : Hid (P fuel list to by_2 = some r)) :
    Calls Try.prog 91 #[.slice A0 list.length c0, .int .i64 to, .int .i64 by_2] w (Gives ((Go.Proofs.Ytfjcibkgbalkaaa.PIntA10.IntA10.val r)) w) := by
  have HB := Lib.hid (Below.refl w.heap.size w)
  unfold P at H
  have N0o := N0.out
  go_enter Try.func91, Try.ntmps91
  obtain ⟨w_t_0, hw_t_0⟩ : ∃ x, w.alloc (.cells #[.int .i64 0, .int .i64 0, .int .i64 0, .int .i64 0, .int .i64 0, .int .i64 0, .int .i64 0, .int .i64 0, .int .i64 0, .int .i64 0] 92) = x := ⟨_, rfl⟩
  have bw_t_0 : Below w.heap.size w w_t_0 := by rw [← hw_t_0]; exact (Below.refl _ _).alloc (Nat.le_refl _) _
  have HBw_t_0 := Lib.hid (Below.step HB.out bw_t_0)
  clear bw_t_0
  have kt_0_0 : w_t_0.cell? ⟨w.heap.size, 0, none⟩ = some (.int .i64 0) := by rw [← hw_t_0]; exact box_new _ _ _ 0 _ rfl
  have kt_0_1 : w_t_0.cell? ⟨w.heap.size, 1, none⟩ = some (.int .i64 0) := by rw [← hw_t_0]; exact box_new _ _ _ 1 _ rfl
  have kt_0_2 : w_t_0.cell? ⟨w.heap.size, 2, none⟩ = some (.int .i64 0) := by rw [← hw_t_0]; exact box_new _ _ _ 2 _ rfl
  have kt_0_3 : w_t_0.cell? ⟨w.heap.size, 3, none⟩ = some (.int .i64 0) := by rw [← hw_t_0]; exact box_new _ _ _ 3 _ rfl
  have kt_0_4 : w_t_0.cell? ⟨w.heap.size, 4, none⟩ = some (.int .i64 0) := by rw [← hw_t_0]; exact box_new _ _ _ 4 _ rfl
  have kt_0_5 : w_t_0.cell? ⟨w.heap.size, 5, none⟩ = some (.int .i64 0) := by rw [← hw_t_0]; exact box_new _ _ _ 5 _ rfl
  have kt_0_6 : w_t_0.cell? ⟨w.heap.size, 6, none⟩ = some (.int .i64 0) := by rw [← hw_t_0]; exact box_new _ _ _ 6 _ rfl
  have kt_0_7 : w_t_0.cell? ⟨w.heap.size, 7, none⟩ = some (.int .i64 0) := by rw [← hw_t_0]; exact box_new _ _ _ 7 _ rfl
  have kt_0_8 : w_t_0.cell? ⟨w.heap.size, 8, none⟩ = some (.int .i64 0) := by rw [← hw_t_0]; exact box_new _ _ _ 8 _ rfl
  have kt_0_9 : w_t_0.cell? ⟨w.heap.size, 9, none⟩ = some (.int .i64 0) := by rw [← hw_t_0]; exact box_new _ _ _ 9 _ rfl
  have Ot_0 : Hid (w_t_0.ownsRow w.heap.size 92 10 (.slice (some ⟨w.heap.size, 0, none⟩) 1 1) 1 [.int .i64 0, .int .i64 0, .int .i64 0, .int .i64 0, .int .i64 0, .int .i64 0, .int .i64 0, .int .i64 0, .int .i64 0, .int .i64 0]) := Lib.hid (by rw [← hw_t_0]; exact own_laid (n := 1) HB.out.size rfl rfl (by unfold maxLen; omega))
  replace H := bind_hid H
  obtain ⟨t_1, qt_1, H⟩ := H
  obtain ⟨t_1_x0, t_1_x1, t_1_x2, t_1_x3, t_1_x4, t_1_x5, t_1_x6, t_1_x7, t_1_x8, t_1_x9⟩ := t_1
  replace H := unIntA10_hid H
  go_wp2_with fail
  go_at_call 115
  refine (Go.Proofs.Ytfjcibkgbalkaaa.GiFilledWith.C ((-1))  _    qt_1).mono ?_
  rintro e_t_1 wt_1 ⟨rfl, bt_1⟩
  unfold Go.Proofs.Ytfjcibkgbalkaaa.PIntA10.IntA10.val
  have HBwt_1 := Lib.hid (Below.step HBw_t_0.out bt_1)
  replace kt_0_0 := cell_below bt_1 kt_0_0
  replace kt_0_1 := cell_below bt_1 kt_0_1
  replace kt_0_2 := cell_below bt_1 kt_0_2
  replace kt_0_3 := cell_below bt_1 kt_0_3
  replace kt_0_4 := cell_below bt_1 kt_0_4
  replace kt_0_5 := cell_below bt_1 kt_0_5
  replace kt_0_6 := cell_below bt_1 kt_0_6
  replace kt_0_7 := cell_below bt_1 kt_0_7
  replace kt_0_8 := cell_below bt_1 kt_0_8
  replace kt_0_9 := cell_below bt_1 kt_0_9
  replace Ot_0 := Lib.hid (own_below Ot_0.out bt_1)
  clear bt_1
  replace H := let_hid H
  obtain ⟨vlatest_2, hvlatest_2, H⟩ := H
  obtain ⟨w_latest_2, hw_latest_2⟩ : ∃ x, wt_1.alloc (.cells #[.int .i64 t_1_x0, .int .i64 t_1_x1, .int .i64 t_1_x2, .int .i64 t_1_x3, .int .i64 t_1_x4, .int .i64 t_1_x5, .int .i64 t_1_x6, .int .i64 t_1_x7, .int .i64 t_1_x8, .int .i64 t_1_x9] 92) = x := ⟨_, rfl⟩
  have bw_latest_2 : Below wt_1.heap.size wt_1 w_latest_2 := by rw [← hw_latest_2]; exact (Below.refl _ _).alloc (Nat.le_refl _) _
  have hs_latest_2 := HBwt_1.out.size
  have nlatest_2 : vlatest_2.length = 10 := by rw [← hvlatest_2]; rfl
  have Olatest_2 : Hid (w_latest_2.ownsRow w.heap.size 92 1 (.slice (some ⟨wt_1.heap.size, 0, none⟩) 10 10) 10 (Go.Proofs.Ytfjcibkgbalkaaa.HelpInt.iv vlatest_2)) := by
    rw [← hw_latest_2, ← hvlatest_2]
    have e_ : ([.int .i64 t_1_x0, .int .i64 t_1_x1, .int .i64 t_1_x2, .int .i64 t_1_x3, .int .i64 t_1_x4, .int .i64 t_1_x5, .int .i64 t_1_x6, .int .i64 t_1_x7, .int .i64 t_1_x8, .int .i64 t_1_x9] : List Value) = Go.Proofs.Ytfjcibkgbalkaaa.HelpInt.iv [t_1_x0, t_1_x1, t_1_x2, t_1_x3, t_1_x4, t_1_x5, t_1_x6, t_1_x7, t_1_x8, t_1_x9] := rfl
    exact Lib.hid (own_laid (n := 10) hs_latest_2 e_ rfl (by unfold maxLen; omega))
  clear hs_latest_2
  have hhlatest_2 := Lib.hid hvlatest_2
  clear hvlatest_2
  replace nlatest_2 := Lib.hid nlatest_2
  have Dlatest_2_t_0 := Lib.hid (apart_box kt_0_0)
  have HBw_latest_2 := Lib.hid (Below.step HBwt_1.out bw_latest_2)
  have kt_0_0__717 := cell_below bw_latest_2 kt_0_0
  have kt_0_1__718 := cell_below bw_latest_2 kt_0_1
  have kt_0_2__719 := cell_below bw_latest_2 kt_0_2
  have kt_0_3__720 := cell_below bw_latest_2 kt_0_3
  have kt_0_4__721 := cell_below bw_latest_2 kt_0_4
  have kt_0_5__722 := cell_below bw_latest_2 kt_0_5
  have kt_0_6__723 := cell_below bw_latest_2 kt_0_6
  have kt_0_7__724 := cell_below bw_latest_2 kt_0_7
  have kt_0_8__725 := cell_below bw_latest_2 kt_0_8
  have kt_0_9__726 := cell_below bw_latest_2 kt_0_9
  replace Ot_0 := Lib.hid (own_below Ot_0.out bw_latest_2)
  clear bw_latest_2
  replace H := idx_hid H
  obtain ⟨nt_6, yt_6, et_6, lt_6, gt_6, H⟩ := H
  subst et_6
  have hqt_6 := nlatest_2.out
  obtain ⟨ab_t_6, ao_t_6, zt_6, At_6, z_t_6, ct_6_0⟩ := Go.Proofs.Ytfjcibkgbalkaaa.HelpInt.Ints.at_ (own_cells Olatest_2.out) (k := nt_6) (by omega)
  obtain rfl := Option.some.inj (gt_6.out.symm.trans z_t_6)
  simp only [Option.some.injEq, Addr.mk.injEq] at At_6
  obtain ⟨rfl, rfl, _⟩ := At_6
  clear z_t_6
  simp only [Nat.zero_add] at ct_6_0
  have b0t_6 : (0 : Int) ≤ (nt_6 : Int) := by omega
  have b1t_6 : (nt_6 : Int) < ((10 : Nat) : Int) := by omega
  have b2t_6 : ((nt_6 : Int)).toNat = nt_6 := by omega
  clear hqt_6
  have b3t_6 : nt_6 < 10 := by have h_ := lt_6; have hn_ := nlatest_2.out; omega
  have b4t_6 : (nt_6 : Int) < (10 : Int) := by omega
  replace H := let_hid H
  obtain ⟨l7_7, hl7_7, H⟩ := H
  try simp only [Int.toNat_natCast] at hl7_7
  obtain ⟨wl7_7, hwl7_7⟩ : ∃ x, (w_latest_2).setCell ⟨wt_1.heap.size, nt_6, none⟩ (.int .i64 by_2) = x := ⟨_, rfl⟩
  have z0l7_7 := Olatest_2.out.frozenAt (nt_6)
  have Sl7_7 := Lib.hid (own_stores [(nt_6, .int .i64 by_2)] Olatest_2.out)
  have nl7_7 : Hid (l7_7.length = 10) := Lib.hid (by rw [← hl7_7, List.length_set]; exact nlatest_2.out)
  have Pl7_7 : Hid (wl7_7.ownsRow w.heap.size 92 1 (.slice (some ⟨wt_1.heap.size, 0, none⟩) 10 10) 10 (Go.Proofs.Ytfjcibkgbalkaaa.HelpInt.iv l7_7)) := Lib.hid (by have e_ : ([(nt_6, .int .i64 by_2)] : List (Nat × Value)).foldl (fun xs p => xs.set p.1 p.2) (Go.Proofs.Ytfjcibkgbalkaaa.HelpInt.iv vlatest_2) = (Go.Proofs.Ytfjcibkgbalkaaa.HelpInt.iv l7_7) := (by rw [← hl7_7]; first | done | simp [Go.Proofs.Ytfjcibkgbalkaaa.HelpInt.iv, List.map_set]); rw [← hwl7_7, ← e_]; exact Sl7_7.out.1)
  have Gl7_7 : Hid (w_latest_2.grownBy wl7_7 (Value.slice (some ⟨wt_1.heap.size, 0, none⟩) 10 10).ownBlock) := Lib.hid (by rw [← hwl7_7]; exact Sl7_7.out.2)
  have HBwl7_7 := Lib.hid (HBw_latest_2.out.grown Gl7_7.out HBw_latest_2.out.size (fun q hq => (Olatest_2.out.lt q hq).1))
  have hhl7_7 := Lib.hid hl7_7
  clear hl7_7 Sl7_7
  have kt_0_0__727 := cell_other kt_0_0__717 Gl7_7.out Dlatest_2_t_0.out
  have kt_0_1__728 := cell_other kt_0_1__718 Gl7_7.out Dlatest_2_t_0.out
  have kt_0_2__729 := cell_other kt_0_2__719 Gl7_7.out Dlatest_2_t_0.out
  have kt_0_3__730 := cell_other kt_0_3__720 Gl7_7.out Dlatest_2_t_0.out
  have kt_0_4__731 := cell_other kt_0_4__721 Gl7_7.out Dlatest_2_t_0.out
  have kt_0_5__732 := cell_other kt_0_5__722 Gl7_7.out Dlatest_2_t_0.out
  have kt_0_6__733 := cell_other kt_0_6__723 Gl7_7.out Dlatest_2_t_0.out
  have kt_0_7__734 := cell_other kt_0_7__724 Gl7_7.out Dlatest_2_t_0.out
  have kt_0_8__735 := cell_other kt_0_8__725 Gl7_7.out Dlatest_2_t_0.out
  have kt_0_9__736 := cell_other kt_0_9__726 Gl7_7.out Dlatest_2_t_0.out
  replace Ot_0 := Lib.hid (own_other Ot_0.out Gl7_7.out Dlatest_2_t_0.out)
  clear Olatest_2 Gl7_7
  replace H := let_hid H
  obtain ⟨t_10, ht_10, H⟩ := H
  try have hv_t_10 : (list.length : Int) - 1 = t_10 := by rw [← ht_10]; exact (IntWalk.i64_in _ (by omega)).symm
  try have hv2_t_10 : IntKind.i64.wrap t_10 = t_10 := by rw [← hv_t_10]; exact IntWalk.i64_in _ (by omega)
  go_wp2_with fail
  clear kt_0_0 kt_0_1 kt_0_2 kt_0_3 kt_0_4 kt_0_5 kt_0_6 kt_0_7 kt_0_8 kt_0_9 z0l7_7 kt_0_0__717 kt_0_1__718 kt_0_2__719 kt_0_3__720 kt_0_4__721 kt_0_5__722 kt_0_6__723 kt_0_7__724 kt_0_8__725 kt_0_9__726 ct_6_0
  go_wp2_with fail
  go_loopg [8] (fuel) (fun m_ v8_ wr => ∃ (latest_7l0 : (List Int)) (i_8l0 : Int), v8_ = .int .i64 i_8l0 ∧ Hid (loopK (l0 list) m_ (latest_7l0, i_8l0) (e0 ) = some r) ∧ Hid (Below w.heap.size w wr) ∧ wr.cell? ⟨w.heap.size, 0, none⟩ = some (.int .i64 0) ∧ wr.cell? ⟨w.heap.size, 1, none⟩ = some (.int .i64 0) ∧ wr.cell? ⟨w.heap.size, 2, none⟩ = some (.int .i64 0) ∧ wr.cell? ⟨w.heap.size, 3, none⟩ = some (.int .i64 0) ∧ wr.cell? ⟨w.heap.size, 4, none⟩ = some (.int .i64 0) ∧ wr.cell? ⟨w.heap.size, 5, none⟩ = some (.int .i64 0) ∧ wr.cell? ⟨w.heap.size, 6, none⟩ = some (.int .i64 0) ∧ wr.cell? ⟨w.heap.size, 7, none⟩ = some (.int .i64 0) ∧ wr.cell? ⟨w.heap.size, 8, none⟩ = some (.int .i64 0) ∧ wr.cell? ⟨w.heap.size, 9, none⟩ = some (.int .i64 0) ∧ Hid (wr.ownsRow w.heap.size 92 10 (.slice (some ⟨w.heap.size, 0, none⟩) 1 1) 1 [.int .i64 0, .int .i64 0, .int .i64 0, .int .i64 0, .int .i64 0, .int .i64 0, .int .i64 0, .int .i64 0, .int .i64 0, .int .i64 0]) ∧ Hid (wr.ownsRow w.heap.size 92 1 (.slice (some ⟨wt_1.heap.size, 0, none⟩) 10 10) 10 (Go.Proofs.Ytfjcibkgbalkaaa.HelpInt.iv latest_7l0)) ∧ Hid (latest_7l0.length = 10) ∧ Hid (Apart (some ⟨wt_1.heap.size, 0, none⟩) (some ⟨w.heap.size, 0, none⟩)))
  case atStart => exact ⟨_, _, rfl, H, HBwl7_7, kt_0_0__727, kt_0_1__728, kt_0_2__729, kt_0_3__730, kt_0_4__731, kt_0_5__732, kt_0_6__733, kt_0_7__734, kt_0_8__735, kt_0_9__736, Ot_0, Pl7_7, Lib.hid (nl7_7.out), Lib.hid Dlatest_2_t_0.out⟩
  case round =>
    obtain ⟨latest_7l0, i_8l0, rfl, H, HBwr0, kt_0_0__727, kt_0_1__728, kt_0_2__729, kt_0_3__730, kt_0_4__731, kt_0_5__732, kt_0_6__733, kt_0_7__734, kt_0_8__735, kt_0_9__736, Ot_0, Olatest_7l0, hnlatest_7l0, Dlatest_7l0_t_0⟩ := hrel
    rename World => wr0
    cases gk with
    | zero => exact (loop_zero H).elim
    | succ m0 =>
      replace H := loop_succ H
      unfold l0 at H
      replace H := unp2_hid H
      replace H := let_hid H
      obtain ⟨t_13, ht_13, H⟩ := H
      cases t_13 with
      | false =>
        replace H := ite_f H
        replace H := app_hid H
        unfold e0 at H
        replace H := unp2_hid H
        have ka_737 : wr0.cell? ⟨wt_1.heap.size, 0, none⟩ = some (.int .i64 (Go.Proofs.Ytfjcibkgbalkaaa.GoA.nth latest_7l0 0)) := Go.Proofs.Ytfjcibkgbalkaaa.GoA.row_at Olatest_7l0.out hnlatest_7l0.out 0 (by omega)
        have ka_738 : wr0.cell? ⟨wt_1.heap.size, 1, none⟩ = some (.int .i64 (Go.Proofs.Ytfjcibkgbalkaaa.GoA.nth latest_7l0 1)) := Go.Proofs.Ytfjcibkgbalkaaa.GoA.row_at Olatest_7l0.out hnlatest_7l0.out 1 (by omega)
        have ka_739 : wr0.cell? ⟨wt_1.heap.size, 2, none⟩ = some (.int .i64 (Go.Proofs.Ytfjcibkgbalkaaa.GoA.nth latest_7l0 2)) := Go.Proofs.Ytfjcibkgbalkaaa.GoA.row_at Olatest_7l0.out hnlatest_7l0.out 2 (by omega)
        have ka_740 : wr0.cell? ⟨wt_1.heap.size, 3, none⟩ = some (.int .i64 (Go.Proofs.Ytfjcibkgbalkaaa.GoA.nth latest_7l0 3)) := Go.Proofs.Ytfjcibkgbalkaaa.GoA.row_at Olatest_7l0.out hnlatest_7l0.out 3 (by omega)
        have ka_741 : wr0.cell? ⟨wt_1.heap.size, 4, none⟩ = some (.int .i64 (Go.Proofs.Ytfjcibkgbalkaaa.GoA.nth latest_7l0 4)) := Go.Proofs.Ytfjcibkgbalkaaa.GoA.row_at Olatest_7l0.out hnlatest_7l0.out 4 (by omega)
        have ka_742 : wr0.cell? ⟨wt_1.heap.size, 5, none⟩ = some (.int .i64 (Go.Proofs.Ytfjcibkgbalkaaa.GoA.nth latest_7l0 5)) := Go.Proofs.Ytfjcibkgbalkaaa.GoA.row_at Olatest_7l0.out hnlatest_7l0.out 5 (by omega)
        have ka_743 : wr0.cell? ⟨wt_1.heap.size, 6, none⟩ = some (.int .i64 (Go.Proofs.Ytfjcibkgbalkaaa.GoA.nth latest_7l0 6)) := Go.Proofs.Ytfjcibkgbalkaaa.GoA.row_at Olatest_7l0.out hnlatest_7l0.out 6 (by omega)
        have ka_744 : wr0.cell? ⟨wt_1.heap.size, 7, none⟩ = some (.int .i64 (Go.Proofs.Ytfjcibkgbalkaaa.GoA.nth latest_7l0 7)) := Go.Proofs.Ytfjcibkgbalkaaa.GoA.row_at Olatest_7l0.out hnlatest_7l0.out 7 (by omega)
        have ka_745 : wr0.cell? ⟨wt_1.heap.size, 8, none⟩ = some (.int .i64 (Go.Proofs.Ytfjcibkgbalkaaa.GoA.nth latest_7l0 8)) := Go.Proofs.Ytfjcibkgbalkaaa.GoA.row_at Olatest_7l0.out hnlatest_7l0.out 8 (by omega)
        have ka_746 : wr0.cell? ⟨wt_1.heap.size, 9, none⟩ = some (.int .i64 (Go.Proofs.Ytfjcibkgbalkaaa.GoA.nth latest_7l0 9)) := Go.Proofs.Ytfjcibkgbalkaaa.GoA.row_at Olatest_7l0.out hnlatest_7l0.out 9 (by omega)
        obtain ⟨wb42_42, hwb42_42⟩ : ∃ x, ((((((((((wr0).setCell ⟨w.heap.size, 0, none⟩ (.int .i64 (Go.Proofs.Ytfjcibkgbalkaaa.GoA.nth latest_7l0 0))).setCell ⟨w.heap.size, 1, none⟩ (.int .i64 (Go.Proofs.Ytfjcibkgbalkaaa.GoA.nth latest_7l0 1))).setCell ⟨w.heap.size, 2, none⟩ (.int .i64 (Go.Proofs.Ytfjcibkgbalkaaa.GoA.nth latest_7l0 2))).setCell ⟨w.heap.size, 3, none⟩ (.int .i64 (Go.Proofs.Ytfjcibkgbalkaaa.GoA.nth latest_7l0 3))).setCell ⟨w.heap.size, 4, none⟩ (.int .i64 (Go.Proofs.Ytfjcibkgbalkaaa.GoA.nth latest_7l0 4))).setCell ⟨w.heap.size, 5, none⟩ (.int .i64 (Go.Proofs.Ytfjcibkgbalkaaa.GoA.nth latest_7l0 5))).setCell ⟨w.heap.size, 6, none⟩ (.int .i64 (Go.Proofs.Ytfjcibkgbalkaaa.GoA.nth latest_7l0 6))).setCell ⟨w.heap.size, 7, none⟩ (.int .i64 (Go.Proofs.Ytfjcibkgbalkaaa.GoA.nth latest_7l0 7))).setCell ⟨w.heap.size, 8, none⟩ (.int .i64 (Go.Proofs.Ytfjcibkgbalkaaa.GoA.nth latest_7l0 8))).setCell ⟨w.heap.size, 9, none⟩ (.int .i64 (Go.Proofs.Ytfjcibkgbalkaaa.GoA.nth latest_7l0 9)) = x := ⟨_, rfl⟩
        have z0b42_42 := Ot_0.out.frozenAt 0
        have z1b42_42 := Ot_0.out.frozenAt 1
        have z2b42_42 := Ot_0.out.frozenAt 2
        have z3b42_42 := Ot_0.out.frozenAt 3
        have z4b42_42 := Ot_0.out.frozenAt 4
        have z5b42_42 := Ot_0.out.frozenAt 5
        have z6b42_42 := Ot_0.out.frozenAt 6
        have z7b42_42 := Ot_0.out.frozenAt 7
        have z8b42_42 := Ot_0.out.frozenAt 8
        have z9b42_42 := Ot_0.out.frozenAt 9
        have Sb42_42 := Lib.hid (own_stores [(0, .int .i64 (Go.Proofs.Ytfjcibkgbalkaaa.GoA.nth latest_7l0 0)), (1, .int .i64 (Go.Proofs.Ytfjcibkgbalkaaa.GoA.nth latest_7l0 1)), (2, .int .i64 (Go.Proofs.Ytfjcibkgbalkaaa.GoA.nth latest_7l0 2)), (3, .int .i64 (Go.Proofs.Ytfjcibkgbalkaaa.GoA.nth latest_7l0 3)), (4, .int .i64 (Go.Proofs.Ytfjcibkgbalkaaa.GoA.nth latest_7l0 4)), (5, .int .i64 (Go.Proofs.Ytfjcibkgbalkaaa.GoA.nth latest_7l0 5)), (6, .int .i64 (Go.Proofs.Ytfjcibkgbalkaaa.GoA.nth latest_7l0 6)), (7, .int .i64 (Go.Proofs.Ytfjcibkgbalkaaa.GoA.nth latest_7l0 7)), (8, .int .i64 (Go.Proofs.Ytfjcibkgbalkaaa.GoA.nth latest_7l0 8)), (9, .int .i64 (Go.Proofs.Ytfjcibkgbalkaaa.GoA.nth latest_7l0 9))] Ot_0.out)
        have Pb42_42 : Hid (wb42_42.ownsRow w.heap.size 92 10 (.slice (some ⟨w.heap.size, 0, none⟩) 1 1) 1 [.int .i64 (Go.Proofs.Ytfjcibkgbalkaaa.GoA.nth latest_7l0 0), .int .i64 (Go.Proofs.Ytfjcibkgbalkaaa.GoA.nth latest_7l0 1), .int .i64 (Go.Proofs.Ytfjcibkgbalkaaa.GoA.nth latest_7l0 2), .int .i64 (Go.Proofs.Ytfjcibkgbalkaaa.GoA.nth latest_7l0 3), .int .i64 (Go.Proofs.Ytfjcibkgbalkaaa.GoA.nth latest_7l0 4), .int .i64 (Go.Proofs.Ytfjcibkgbalkaaa.GoA.nth latest_7l0 5), .int .i64 (Go.Proofs.Ytfjcibkgbalkaaa.GoA.nth latest_7l0 6), .int .i64 (Go.Proofs.Ytfjcibkgbalkaaa.GoA.nth latest_7l0 7), .int .i64 (Go.Proofs.Ytfjcibkgbalkaaa.GoA.nth latest_7l0 8), .int .i64 (Go.Proofs.Ytfjcibkgbalkaaa.GoA.nth latest_7l0 9)]) := Lib.hid (by rw [← hwb42_42]; exact Sb42_42.out.1)
        have Gb42_42 : Hid (wr0.grownBy wb42_42 (Value.slice (some ⟨w.heap.size, 0, none⟩) 1 1).ownBlock) := Lib.hid (by rw [← hwb42_42]; exact Sb42_42.out.2)
        have HBwb42_42 := Lib.hid (HBwr0.out.grown Gb42_42.out HBwr0.out.size (fun q hq => (Ot_0.out.lt q hq).1))
        clear Sb42_42
        replace Olatest_7l0 := Lib.hid (own_other Olatest_7l0.out Gb42_42.out (Apart.symm Dlatest_7l0_t_0.out))
        clear Ot_0 Gb42_42
        have kt_0_0__747 : wb42_42.cell? ⟨w.heap.size, 0, none⟩ = some (.int .i64 (Go.Proofs.Ytfjcibkgbalkaaa.GoA.nth latest_7l0 0)) := Pb42_42.out.cells rfl 0 _ rfl
        have kt_0_1__748 : wb42_42.cell? ⟨w.heap.size, 1, none⟩ = some (.int .i64 (Go.Proofs.Ytfjcibkgbalkaaa.GoA.nth latest_7l0 1)) := Pb42_42.out.cells rfl 1 _ rfl
        have kt_0_2__749 : wb42_42.cell? ⟨w.heap.size, 2, none⟩ = some (.int .i64 (Go.Proofs.Ytfjcibkgbalkaaa.GoA.nth latest_7l0 2)) := Pb42_42.out.cells rfl 2 _ rfl
        have kt_0_3__750 : wb42_42.cell? ⟨w.heap.size, 3, none⟩ = some (.int .i64 (Go.Proofs.Ytfjcibkgbalkaaa.GoA.nth latest_7l0 3)) := Pb42_42.out.cells rfl 3 _ rfl
        have kt_0_4__751 : wb42_42.cell? ⟨w.heap.size, 4, none⟩ = some (.int .i64 (Go.Proofs.Ytfjcibkgbalkaaa.GoA.nth latest_7l0 4)) := Pb42_42.out.cells rfl 4 _ rfl
        have kt_0_5__752 : wb42_42.cell? ⟨w.heap.size, 5, none⟩ = some (.int .i64 (Go.Proofs.Ytfjcibkgbalkaaa.GoA.nth latest_7l0 5)) := Pb42_42.out.cells rfl 5 _ rfl
        have kt_0_6__753 : wb42_42.cell? ⟨w.heap.size, 6, none⟩ = some (.int .i64 (Go.Proofs.Ytfjcibkgbalkaaa.GoA.nth latest_7l0 6)) := Pb42_42.out.cells rfl 6 _ rfl
        have kt_0_7__754 : wb42_42.cell? ⟨w.heap.size, 7, none⟩ = some (.int .i64 (Go.Proofs.Ytfjcibkgbalkaaa.GoA.nth latest_7l0 7)) := Pb42_42.out.cells rfl 7 _ rfl
        have kt_0_8__755 : wb42_42.cell? ⟨w.heap.size, 8, none⟩ = some (.int .i64 (Go.Proofs.Ytfjcibkgbalkaaa.GoA.nth latest_7l0 8)) := Pb42_42.out.cells rfl 8 _ rfl
        have kt_0_9__756 : wb42_42.cell? ⟨w.heap.size, 9, none⟩ = some (.int .i64 (Go.Proofs.Ytfjcibkgbalkaaa.GoA.nth latest_7l0 9)) := Pb42_42.out.cells rfl 9 _ rfl
        cases ret_hid H
        go_wp2_with fail
        (try simp only [Exit.inBlock, Exit.then])
        refine bodyPost_ret (v := .agg #[.int .i64 (Go.Proofs.Ytfjcibkgbalkaaa.GoA.nth latest_7l0 0), .int .i64 (Go.Proofs.Ytfjcibkgbalkaaa.GoA.nth latest_7l0 1), .int .i64 (Go.Proofs.Ytfjcibkgbalkaaa.GoA.nth latest_7l0 2), .int .i64 (Go.Proofs.Ytfjcibkgbalkaaa.GoA.nth latest_7l0 3), .int .i64 (Go.Proofs.Ytfjcibkgbalkaaa.GoA.nth latest_7l0 4), .int .i64 (Go.Proofs.Ytfjcibkgbalkaaa.GoA.nth latest_7l0 5), .int .i64 (Go.Proofs.Ytfjcibkgbalkaaa.GoA.nth latest_7l0 6), .int .i64 (Go.Proofs.Ytfjcibkgbalkaaa.GoA.nth latest_7l0 7), .int .i64 (Go.Proofs.Ytfjcibkgbalkaaa.GoA.nth latest_7l0 8), .int .i64 (Go.Proofs.Ytfjcibkgbalkaaa.GoA.nth latest_7l0 9)]) ?hr_ ?hd_ ?_
        case hd_ => rfl
        case hr_ => simp [results, Try.results91, kt_0_0__747, kt_0_1__748, kt_0_2__749, kt_0_3__750, kt_0_4__751, kt_0_5__752, kt_0_6__753, kt_0_7__754, kt_0_8__755, kt_0_9__756, go_sem]
        exact ⟨rfl, HBwb42_42.out⟩
      | true =>
        replace H := ite_t H
        replace H := idx_hid H
        obtain ⟨nt_16, yt_16, et_16, lt_16, gt_16, H⟩ := H
        subst et_16
        have nc_757 : 0 ≤ nt_16 := by have := of_decide_eq_true ht_13; omega
        obtain ⟨t_16_leave, t_16_from_, t_16_to_, t_16_arrive⟩ := yt_16
        replace H := unMail_hid H
        obtain ⟨ab_t_16, ao_t_16, zt_16, At_16, z_t_16, ct_16_0, ct_16_1, ct_16_2, ct_16_3⟩ := Go.Proofs.Ytfjcibkgbalkaaa.OMail.at_ M0.out lt_16
        obtain rfl := Option.some.inj (gt_16.out.symm.trans z_t_16)
        subst At_16
        have ltt_16 := cell_lt ct_16_0
        replace ct_16_0 := cell_below HBwr0.out ct_16_0
        replace ct_16_1 := cell_below HBwr0.out ct_16_1
        replace ct_16_2 := cell_below HBwr0.out ct_16_2
        replace ct_16_3 := cell_below HBwr0.out ct_16_3
        clear z_t_16
        have b0t_16 : (0 : Int) ≤ (nt_16 : Int) := by omega
        have b1t_16 : (nt_16 : Int) < ((list.length : Nat) : Int) := by omega
        have b2t_16 : ((nt_16 : Int)).toNat = nt_16 := by omega
        obtain ⟨w_x_18, hw_x_18⟩ : ∃ x, wr0.alloc (.cells #[.int .i64 t_16_leave, .int .i64 t_16_from_, .int .i64 t_16_to_, .int .i64 t_16_arrive] 95) = x := ⟨_, rfl⟩
        have bw_x_18 : Below wr0.heap.size wr0 w_x_18 := by rw [← hw_x_18]; exact (Below.refl _ _).alloc (Nat.le_refl _) _
        have Dx_18_latest_7l0 := Lib.hid (apart_fresh Olatest_7l0.out)
        have Dx_18_t_0 := Lib.hid (apart_box kt_0_0__727)
        have HBw_x_18 := Lib.hid (Below.step HBwr0.out bw_x_18)
        have kt_0_0__758 := cell_below bw_x_18 kt_0_0__727
        have kt_0_1__759 := cell_below bw_x_18 kt_0_1__728
        have kt_0_2__760 := cell_below bw_x_18 kt_0_2__729
        have kt_0_3__761 := cell_below bw_x_18 kt_0_3__730
        have kt_0_4__762 := cell_below bw_x_18 kt_0_4__731
        have kt_0_5__763 := cell_below bw_x_18 kt_0_5__732
        have kt_0_6__764 := cell_below bw_x_18 kt_0_6__733
        have kt_0_7__765 := cell_below bw_x_18 kt_0_7__734
        have kt_0_8__766 := cell_below bw_x_18 kt_0_8__735
        have kt_0_9__767 := cell_below bw_x_18 kt_0_9__736
        have ct_16_0__768 := cell_below bw_x_18 ct_16_0
        have ct_16_1__769 := cell_below bw_x_18 ct_16_1
        have ct_16_2__770 := cell_below bw_x_18 ct_16_2
        have ct_16_3__771 := cell_below bw_x_18 ct_16_3
        replace Olatest_7l0 := Lib.hid (own_below Olatest_7l0.out bw_x_18)
        replace Ot_0 := Lib.hid (own_below Ot_0.out bw_x_18)
        clear bw_x_18
        have kx_18_0 : w_x_18.cell? ⟨wr0.heap.size, 0, none⟩ = some (.int .i64 t_16_leave) := by rw [← hw_x_18]; exact box_new _ _ _ 0 _ rfl
        have kx_18_1 : w_x_18.cell? ⟨wr0.heap.size, 1, none⟩ = some (.int .i64 t_16_from_) := by rw [← hw_x_18]; exact box_new _ _ _ 1 _ rfl
        have kx_18_2 : w_x_18.cell? ⟨wr0.heap.size, 2, none⟩ = some (.int .i64 t_16_to_) := by rw [← hw_x_18]; exact box_new _ _ _ 2 _ rfl
        have kx_18_3 : w_x_18.cell? ⟨wr0.heap.size, 3, none⟩ = some (.int .i64 t_16_arrive) := by rw [← hw_x_18]; exact box_new _ _ _ 3 _ rfl
        go_wp2_with fail
        clear kt_0_0__727 kt_0_1__728 kt_0_2__729 kt_0_3__730 kt_0_4__731 kt_0_5__732 kt_0_6__733 kt_0_7__734 kt_0_8__735 kt_0_9__736 ct_16_0 ct_16_1 ct_16_2 ct_16_3
        have Hkt_0_0__758 := Lib.hid kt_0_0__758
        replace kt_0_0__758 := cell_regrown kt_0_0__758
        have Hkt_0_1__759 := Lib.hid kt_0_1__759
        replace kt_0_1__759 := cell_regrown kt_0_1__759
        have Hkt_0_2__760 := Lib.hid kt_0_2__760
        replace kt_0_2__760 := cell_regrown kt_0_2__760
        have Hkt_0_3__761 := Lib.hid kt_0_3__761
        replace kt_0_3__761 := cell_regrown kt_0_3__761
        have Hkt_0_4__762 := Lib.hid kt_0_4__762
        replace kt_0_4__762 := cell_regrown kt_0_4__762
        have Hkt_0_5__763 := Lib.hid kt_0_5__763
        replace kt_0_5__763 := cell_regrown kt_0_5__763
        have Hkt_0_6__764 := Lib.hid kt_0_6__764
        replace kt_0_6__764 := cell_regrown kt_0_6__764
        have Hkt_0_7__765 := Lib.hid kt_0_7__765
        replace kt_0_7__765 := cell_regrown kt_0_7__765
        have Hkt_0_8__766 := Lib.hid kt_0_8__766
        replace kt_0_8__766 := cell_regrown kt_0_8__766
        have Hkt_0_9__767 := Lib.hid kt_0_9__767
        replace kt_0_9__767 := cell_regrown kt_0_9__767
        have Hct_16_0__768 := Lib.hid ct_16_0__768
        replace ct_16_0__768 := cell_regrown ct_16_0__768
        have Hct_16_1__769 := Lib.hid ct_16_1__769
        replace ct_16_1__769 := cell_regrown ct_16_1__769
        have Hct_16_2__770 := Lib.hid ct_16_2__770
        replace ct_16_2__770 := cell_regrown ct_16_2__770
        have Hct_16_3__771 := Lib.hid ct_16_3__771
        replace ct_16_3__771 := cell_regrown ct_16_3__771
        have Hkx_18_0 := Lib.hid kx_18_0
        replace kx_18_0 := cell_regrown kx_18_0
        have Hkx_18_1 := Lib.hid kx_18_1
        replace kx_18_1 := cell_regrown kx_18_1
        have Hkx_18_2 := Lib.hid kx_18_2
        replace kx_18_2 := cell_regrown kx_18_2
        have Hkx_18_3 := Lib.hid kx_18_3
        replace kx_18_3 := cell_regrown kx_18_3
        replace H := idx_hid H
        obtain ⟨nt_24, yt_24, et_24, lt_24, gt_24, H⟩ := H
        subst et_24
        have hqt_24 := hnlatest_7l0.out
        obtain ⟨ab_t_24, ao_t_24, zt_24, At_24, z_t_24, ct_24_0⟩ := Go.Proofs.Ytfjcibkgbalkaaa.HelpInt.Ints.at_ (own_cells Olatest_7l0.out) (k := nt_24) (by omega)
        obtain rfl := Option.some.inj (gt_24.out.symm.trans z_t_24)
        simp only [Option.some.injEq, Addr.mk.injEq] at At_24
        obtain ⟨rfl, rfl, _⟩ := At_24
        clear z_t_24
        simp only [Nat.zero_add] at ct_24_0
        have b0t_24 : (0 : Int) ≤ (nt_24 : Int) := by omega
        have b1t_24 : (nt_24 : Int) < ((10 : Nat) : Int) := by omega
        have b2t_24 : ((nt_24 : Int)).toNat = nt_24 := by omega
        clear hqt_24
        have Hct_24_0 := Lib.hid ct_24_0
        replace ct_24_0 := cell_regrown ct_24_0
        have b3t_24 : nt_24 < 10 := by have h_ := lt_24; have hn_ := hnlatest_7l0.out; omega
        have b4t_24 : (nt_24 : Int) < (10 : Int) := by omega
        replace H := let_hid H
        obtain ⟨t_26, ht_26, H⟩ := H
        refine wp_region_quiet_below (by kernel_rfl) (by kernel_rfl) ?_
        repeat (go_big_quiet_step (fail))
        refine wpQuiet_nil ?_
        intro Y7 hY7
        replace hY7 := below_class hY7
        replace kt_0_0__758 := Hkt_0_0__758.out
        clear Hkt_0_0__758
        replace kt_0_1__759 := Hkt_0_1__759.out
        clear Hkt_0_1__759
        replace kt_0_2__760 := Hkt_0_2__760.out
        clear Hkt_0_2__760
        replace kt_0_3__761 := Hkt_0_3__761.out
        clear Hkt_0_3__761
        replace kt_0_4__762 := Hkt_0_4__762.out
        clear Hkt_0_4__762
        replace kt_0_5__763 := Hkt_0_5__763.out
        clear Hkt_0_5__763
        replace kt_0_6__764 := Hkt_0_6__764.out
        clear Hkt_0_6__764
        replace kt_0_7__765 := Hkt_0_7__765.out
        clear Hkt_0_7__765
        replace kt_0_8__766 := Hkt_0_8__766.out
        clear Hkt_0_8__766
        replace kt_0_9__767 := Hkt_0_9__767.out
        clear Hkt_0_9__767
        replace ct_16_0__768 := Hct_16_0__768.out
        clear Hct_16_0__768
        replace ct_16_1__769 := Hct_16_1__769.out
        clear Hct_16_1__769
        replace ct_16_2__770 := Hct_16_2__770.out
        clear Hct_16_2__770
        replace ct_16_3__771 := Hct_16_3__771.out
        clear Hct_16_3__771
        replace kx_18_0 := Hkx_18_0.out
        clear Hkx_18_0
        replace kx_18_1 := Hkx_18_1.out
        clear Hkx_18_1
        replace kx_18_2 := Hkx_18_2.out
        clear Hkx_18_2
        replace kx_18_3 := Hkx_18_3.out
        clear Hkx_18_3
        replace ct_24_0 := Hct_24_0.out
        clear Hct_24_0
        have HBY7 := Lib.hid (Below.step HBw_x_18.out hY7)
        replace kt_0_0__758 := cell_below hY7 kt_0_0__758
        replace kt_0_1__759 := cell_below hY7 kt_0_1__759
        replace kt_0_2__760 := cell_below hY7 kt_0_2__760
        replace kt_0_3__761 := cell_below hY7 kt_0_3__761
        replace kt_0_4__762 := cell_below hY7 kt_0_4__762
        replace kt_0_5__763 := cell_below hY7 kt_0_5__763
        replace kt_0_6__764 := cell_below hY7 kt_0_6__764
        replace kt_0_7__765 := cell_below hY7 kt_0_7__765
        replace kt_0_8__766 := cell_below hY7 kt_0_8__766
        replace kt_0_9__767 := cell_below hY7 kt_0_9__767
        replace ct_16_0__768 := cell_below hY7 ct_16_0__768
        replace ct_16_1__769 := cell_below hY7 ct_16_1__769
        replace ct_16_2__770 := cell_below hY7 ct_16_2__770
        replace ct_16_3__771 := cell_below hY7 ct_16_3__771
        replace kx_18_0 := cell_below hY7 kx_18_0
        replace kx_18_1 := cell_below hY7 kx_18_1
        replace kx_18_2 := cell_below hY7 kx_18_2
        replace kx_18_3 := cell_below hY7 kx_18_3
        replace ct_24_0 := cell_below hY7 ct_24_0
        replace Olatest_7l0 := Lib.hid (own_below Olatest_7l0.out hY7)
        replace Ot_0 := Lib.hid (own_below Ot_0.out hY7)
        clear hY7
        cases t_26 with
        | false =>
          replace H := ite_f H
          replace H := let_hid H
          obtain ⟨t_39, ht_39, H⟩ := H
          replace H := app_hid H
          go_wp2_with fail
          go_roundg m0
          case measure => omega
          case rel => exact ⟨_, _, rfl, H, HBY7, kt_0_0__758, kt_0_1__759, kt_0_2__760, kt_0_3__761, kt_0_4__762, kt_0_5__763, kt_0_6__764, kt_0_7__765, kt_0_8__766, kt_0_9__767, Ot_0, Olatest_7l0, Lib.hid (hnlatest_7l0.out), Lib.hid Dlatest_7l0_t_0.out⟩
        | true =>
          replace H := ite_t H
          go_wp2_with fail
          obtain ⟨Z8, hZ8⟩ : ∃ x, Y7.drew = x := ⟨_, rfl⟩
          have bd8 : Below Y7.heap.size Y7 Z8 := by rw [← hZ8]; exact (Below.refl _ _).drew
          have HBZ8 := Lib.hid (Below.step HBY7.out bd8)
          replace kt_0_0__758 := cell_below bd8 kt_0_0__758
          replace kt_0_1__759 := cell_below bd8 kt_0_1__759
          replace kt_0_2__760 := cell_below bd8 kt_0_2__760
          replace kt_0_3__761 := cell_below bd8 kt_0_3__761
          replace kt_0_4__762 := cell_below bd8 kt_0_4__762
          replace kt_0_5__763 := cell_below bd8 kt_0_5__763
          replace kt_0_6__764 := cell_below bd8 kt_0_6__764
          replace kt_0_7__765 := cell_below bd8 kt_0_7__765
          replace kt_0_8__766 := cell_below bd8 kt_0_8__766
          replace kt_0_9__767 := cell_below bd8 kt_0_9__767
          replace ct_16_0__768 := cell_below bd8 ct_16_0__768
          replace ct_16_1__769 := cell_below bd8 ct_16_1__769
          replace ct_16_2__770 := cell_below bd8 ct_16_2__770
          replace ct_16_3__771 := cell_below bd8 ct_16_3__771
          replace kx_18_0 := cell_below bd8 kx_18_0
          replace kx_18_1 := cell_below bd8 kx_18_1
          replace kx_18_2 := cell_below bd8 kx_18_2
          replace kx_18_3 := cell_below bd8 kx_18_3
          replace ct_24_0 := cell_below bd8 ct_24_0
          replace Olatest_7l0 := Lib.hid (own_below Olatest_7l0.out bd8)
          replace Ot_0 := Lib.hid (own_below Ot_0.out bd8)
          clear bd8
          replace H := idx_hid H
          obtain ⟨nt_31, yt_31, et_31, lt_31, gt_31, H⟩ := H
          subst et_31
          have hqt_31 := hnlatest_7l0.out
          obtain ⟨ab_t_31, ao_t_31, zt_31, At_31, z_t_31, ct_31_0⟩ := Go.Proofs.Ytfjcibkgbalkaaa.HelpInt.Ints.at_ (own_cells Olatest_7l0.out) (k := nt_31) (by omega)
          obtain rfl := Option.some.inj (gt_31.out.symm.trans z_t_31)
          simp only [Option.some.injEq, Addr.mk.injEq] at At_31
          obtain ⟨rfl, rfl, _⟩ := At_31
          clear z_t_31
          simp only [Nat.zero_add] at ct_31_0
          have b0t_31 : (0 : Int) ≤ (nt_31 : Int) := by omega
          have b1t_31 : (nt_31 : Int) < ((10 : Nat) : Int) := by omega
          have b2t_31 : ((nt_31 : Int)).toNat = nt_31 := by omega
          clear hqt_31
          have b3t_31 : nt_31 < 10 := by have h_ := lt_31; have hn_ := hnlatest_7l0.out; omega
          have b4t_31 : (nt_31 : Int) < (10 : Int) := by omega
          replace H := let_hid H
          obtain ⟨t_35, ht_35, H⟩ := H
          replace H := idx_hid H
          obtain ⟨nt_36, yt_36, et_36, lt_36, gt_36, H⟩ := H
          obtain rfl : nt_31 = nt_36 := by omega
          clear et_36
          obtain rfl := Option.some.inj (gt_31.out.symm.trans gt_36.out)
          clear gt_36 lt_36
          have b3t_36 : nt_31 < 10 := by have h_ := lt_31; have hn_ := hnlatest_7l0.out; omega
          have b4t_36 : (nt_31 : Int) < (10 : Int) := by omega
          refine wp_region_still_tail 10 (by kernel_rfl) (by kernel_rfl) ?_
          simp only [List.take_succ_cons, List.take_zero, List.drop_succ_cons, List.drop_zero]
          change wpStill _ _ Y7.drew _ _ _
          rw [hZ8]
          repeat still_step
          refine wpStill_nil ?_
          change wpList _ _ _ _ _ Y7.drew
          rw [hZ8]
          clear hZ8
          replace H := let_hid H
          obtain ⟨l37_37, hl37_37, H⟩ := H
          try simp only [Int.toNat_natCast] at hl37_37
          obtain ⟨wl37_37, hwl37_37⟩ : ∃ x, (Z8).setCell ⟨wt_1.heap.size, nt_31, none⟩ (.int .i64 t_35) = x := ⟨_, rfl⟩
          have z0l37_37 := Olatest_7l0.out.frozenAt (nt_31)
          have Sl37_37 := Lib.hid (own_stores [(nt_31, .int .i64 t_35)] Olatest_7l0.out)
          have nl37_37 : Hid (l37_37.length = 10) := Lib.hid (by rw [← hl37_37, List.length_set]; exact hnlatest_7l0.out)
          have Pl37_37 : Hid (wl37_37.ownsRow w.heap.size 92 1 (.slice (some ⟨wt_1.heap.size, 0, none⟩) 10 10) 10 (Go.Proofs.Ytfjcibkgbalkaaa.HelpInt.iv l37_37)) := Lib.hid (by have e_ : ([(nt_31, .int .i64 t_35)] : List (Nat × Value)).foldl (fun xs p => xs.set p.1 p.2) (Go.Proofs.Ytfjcibkgbalkaaa.HelpInt.iv latest_7l0) = (Go.Proofs.Ytfjcibkgbalkaaa.HelpInt.iv l37_37) := (by rw [← hl37_37]; first | done | simp [Go.Proofs.Ytfjcibkgbalkaaa.HelpInt.iv, List.map_set]); rw [← hwl37_37, ← e_]; exact Sl37_37.out.1)
          have Gl37_37 : Hid (Z8.grownBy wl37_37 (Value.slice (some ⟨wt_1.heap.size, 0, none⟩) 10 10).ownBlock) := Lib.hid (by rw [← hwl37_37]; exact Sl37_37.out.2)
          have HBwl37_37 := Lib.hid (HBZ8.out.grown Gl37_37.out HBZ8.out.size (fun q hq => (Olatest_7l0.out.lt q hq).1))
          have hhl37_37 := Lib.hid hl37_37
          clear hl37_37 Sl37_37
          have kt_0_0__772 := cell_other kt_0_0__758 Gl37_37.out Dlatest_7l0_t_0.out
          have kt_0_1__773 := cell_other kt_0_1__759 Gl37_37.out Dlatest_7l0_t_0.out
          have kt_0_2__774 := cell_other kt_0_2__760 Gl37_37.out Dlatest_7l0_t_0.out
          have kt_0_3__775 := cell_other kt_0_3__761 Gl37_37.out Dlatest_7l0_t_0.out
          have kt_0_4__776 := cell_other kt_0_4__762 Gl37_37.out Dlatest_7l0_t_0.out
          have kt_0_5__777 := cell_other kt_0_5__763 Gl37_37.out Dlatest_7l0_t_0.out
          have kt_0_6__778 := cell_other kt_0_6__764 Gl37_37.out Dlatest_7l0_t_0.out
          have kt_0_7__779 := cell_other kt_0_7__765 Gl37_37.out Dlatest_7l0_t_0.out
          have kt_0_8__780 := cell_other kt_0_8__766 Gl37_37.out Dlatest_7l0_t_0.out
          have kt_0_9__781 := cell_other kt_0_9__767 Gl37_37.out Dlatest_7l0_t_0.out
          have ct_16_0__782 := cell_other ct_16_0__768 Gl37_37.out (apart_old Olatest_7l0.out ltt_16)
          have ct_16_1__783 := cell_other ct_16_1__769 Gl37_37.out (apart_old Olatest_7l0.out ltt_16)
          have ct_16_2__784 := cell_other ct_16_2__770 Gl37_37.out (apart_old Olatest_7l0.out ltt_16)
          have ct_16_3__785 := cell_other ct_16_3__771 Gl37_37.out (apart_old Olatest_7l0.out ltt_16)
          have kx_18_0__786 := cell_other kx_18_0 Gl37_37.out (Apart.symm Dx_18_latest_7l0.out)
          have kx_18_1__787 := cell_other kx_18_1 Gl37_37.out (Apart.symm Dx_18_latest_7l0.out)
          have kx_18_2__788 := cell_other kx_18_2 Gl37_37.out (Apart.symm Dx_18_latest_7l0.out)
          have kx_18_3__789 := cell_other kx_18_3 Gl37_37.out (Apart.symm Dx_18_latest_7l0.out)
          replace Ot_0 := Lib.hid (own_other Ot_0.out Gl37_37.out Dlatest_7l0_t_0.out)
          clear Olatest_7l0 Gl37_37
          replace H := let_hid H
          obtain ⟨t_39, ht_39, H⟩ := H
          replace H := app_hid H
          go_wp2_with fail
          clear z0l37_37 kt_0_0__758 kt_0_1__759 kt_0_2__760 kt_0_3__761 kt_0_4__762 kt_0_5__763 kt_0_6__764 kt_0_7__765 kt_0_8__766 kt_0_9__767 ct_16_0__768 ct_16_1__769 ct_16_2__770 ct_16_3__771 kx_18_0 kx_18_1 kx_18_2 kx_18_3 ct_24_0 ct_31_0
          go_roundg m0
          case measure => omega
          case rel => exact ⟨_, _, rfl, H, HBwl37_37, kt_0_0__772, kt_0_1__773, kt_0_2__774, kt_0_3__775, kt_0_4__776, kt_0_5__777, kt_0_6__778, kt_0_7__779, kt_0_8__780, kt_0_9__781, Ot_0, Pl37_37, Lib.hid (nl37_37.out), Lib.hid Dlatest_7l0_t_0.out⟩
end Go.Proofs.Ytfjcibkgbalkaaa.GiLatestMinutes

/- loop.example/g01062/impl.LatestLeave as a plain function, and the contract of the program's: where the plain one has an answer, the program has it. Conditions: slices read as lists. -/
namespace Go.Proofs.Ytfjcibkgbalkaaa.GiLatestLeave
set_option linter.unusedVariables false
set_option linter.unusedSimpArgs false
open Go.RowKit
open Go.Proofs.Ytfjcibkgbalkaaa.Rowed Go.Proofs.Ytfjcibkgbalkaaa.Turn Go.Proofs.Ytfjcibkgbalkaaa.Aid Go.Proofs.Ytfjcibkgbalkaaa.GoP Go.Proofs.Ytfjcibkgbalkaaa.GoM

def P (fuel : Nat) (list : (List Go.Proofs.Ytfjcibkgbalkaaa.PMail.Mail)) (from_1 : Int) (to : Int) (by_3 : Int) : Option (Int × Bool) :=
  Option.bind (Go.Proofs.Ytfjcibkgbalkaaa.GiIsTimetable.P list) fun (t_3 : Bool) =>
  letK (!t_3) fun (t_4 : Bool) =>
  joinK (fun (t_9 : Bool) =>
  joinK (fun (t_14 : Bool) =>
  joinK (fun (t_19 : Bool) =>
  joinK (fun (t_24 : Bool) =>
  iteK t_24
  (some (0, false))
  (Option.bind (Go.Proofs.Ytfjcibkgbalkaaa.GiLatestMinutes.P fuel list to by_3) fun (t_30 : Go.Proofs.Ytfjcibkgbalkaaa.PIntA10.IntA10) =>
  unIntA10 t_30 fun (t_30_x0 : Int) (t_30_x1 : Int) (t_30_x2 : Int) (t_30_x3 : Int) (t_30_x4 : Int) (t_30_x5 : Int) (t_30_x6 : Int) (t_30_x7 : Int) (t_30_x8 : Int) (t_30_x9 : Int) =>
  Option.bind (idx [t_30_x0, t_30_x1, t_30_x2, t_30_x3, t_30_x4, t_30_x5, t_30_x6, t_30_x7, t_30_x8, t_30_x9] from_1) fun (yt_32 : Int) =>
  letK (yt_32 == (-1)) fun (t_35 : Bool) =>
  iteK t_35
  (some (0, false))
  (some (yt_32, true)))) fun jt_24 => iteK t_19 (appK jt_24 true) (Option.bind (Go.Proofs.Ytfjcibkgbalkaaa.GiIsMinute.P by_3) fun (t_22 : Bool) =>
  letK (!t_22) fun (t_23 : Bool) =>
  appK jt_24 t_23)) fun jt_19 => iteK t_14 (appK jt_19 true) (letK (from_1 == to) fun (t_18 : Bool) =>
  appK jt_19 t_18)) fun jt_14 => iteK t_9 (appK jt_14 true) (Option.bind (Go.Proofs.Ytfjcibkgbalkaaa.GiIsPostOffice.P to) fun (t_12 : Bool) =>
  letK (!t_12) fun (t_13 : Bool) =>
  appK jt_14 t_13)) fun jt_9 => iteK t_4 (appK jt_9 true) (Option.bind (Go.Proofs.Ytfjcibkgbalkaaa.GiIsPostOffice.P from_1) fun (t_7 : Bool) =>
  letK (!t_7) fun (t_8 : Bool) =>
  appK jt_9 t_8)

set_option maxRecDepth 100000 in
set_option maxHeartbeats 2000000 in
theorem C (fuel : Nat) (list : (List Go.Proofs.Ytfjcibkgbalkaaa.PMail.Mail)) (from_1 : Int) (to : Int) (by_3 : Int) (A0 : Option Addr) (c0 : Nat)  (w : World) (M0 : Hid (Cells w 4 A0 list.length (Go.Proofs.Ytfjcibkgbalkaaa.PMail.flat list))) (N0 : Hid (list.length ≤ 9223372036854775807))  {r0 : Int} {r1 : Bool} (H : Hid (P fuel list from_1 to by_3 = some (r0, r1))) :
    Calls Try.prog 56 #[.slice A0 list.length c0, .int .i64 from_1, .int .i64 to, .int .i64 by_3] w (Gives (.tuple #[.int .i64 r0, .bool r1]) w) := by
  have HB := Lib.hid (Below.refl w.heap.size w)
  unfold P at H
  have N0o := N0.out
  go_enter Try.func56, Try.ntmps56
  replace H := bind_hid H
  obtain ⟨t_3, qt_3, H⟩ := H
  go_wp2_with fail
  go_at_call 34
  refine (Go.Proofs.Ytfjcibkgbalkaaa.GiIsTimetable.C (list) A0 c0 _   (Lib.hid (Cells.below M0.out HB.out)) N0 qt_3).mono ?_
  rintro e_t_3 wt_3 ⟨rfl, bt_3⟩
  have HBwt_3 := Lib.hid (Below.step HB.out bt_3)
  clear bt_3
  cases t_3 with
  | false =>
    replace H := let_hid H
    obtain ⟨t_4, ht_4, H⟩ := H
    obtain rfl : t_4 = true := ht_4.symm
    replace H := join_hid H
    replace H := ite_t H
    replace H := app_hid H
    replace H := join_hid H
    replace H := ite_t H
    replace H := app_hid H
    replace H := join_hid H
    replace H := ite_t H
    replace H := app_hid H
    replace H := join_hid H
    replace H := ite_t H
    replace H := app_hid H
    replace H := ite_t H
    cases ret_hid H
    go_wp2_with fail
    go_ret2
    exact ⟨rfl, HBwt_3.out⟩
  | true =>
    replace H := let_hid H
    obtain ⟨t_4, ht_4, H⟩ := H
    obtain rfl : t_4 = false := ht_4.symm
    replace H := join_hid H
    replace H := ite_f H
    replace H := bind_hid H
    obtain ⟨t_7, qt_7, H⟩ := H
    go_wp2_with fail
    go_at_call 97
    refine (Go.Proofs.Ytfjcibkgbalkaaa.GiIsPostOffice.C (from_1)  _    qt_7).mono ?_
    rintro e_t_7 wt_7 ⟨rfl, bt_7⟩
    have HBwt_7 := Lib.hid (Below.step HBwt_3.out bt_7)
    clear bt_7
    cases t_7 with
    | false =>
      replace H := let_hid H
      obtain ⟨t_8, ht_8, H⟩ := H
      obtain rfl : t_8 = true := ht_8.symm
      replace H := app_hid H
      replace H := join_hid H
      replace H := ite_t H
      replace H := app_hid H
      replace H := join_hid H
      replace H := ite_t H
      replace H := app_hid H
      replace H := join_hid H
      replace H := ite_t H
      replace H := app_hid H
      replace H := ite_t H
      cases ret_hid H
      go_wp2_with fail
      go_ret2
      exact ⟨rfl, HBwt_7.out⟩
    | true =>
      replace H := let_hid H
      obtain ⟨t_8, ht_8, H⟩ := H
      obtain rfl : t_8 = false := ht_8.symm
      replace H := app_hid H
      replace H := join_hid H
      replace H := ite_f H
      replace H := bind_hid H
      obtain ⟨t_12, qt_12, H⟩ := H
      go_wp2_with fail
      go_at_call 97
      refine (Go.Proofs.Ytfjcibkgbalkaaa.GiIsPostOffice.C (to)  _    qt_12).mono ?_
      rintro e_t_12 wt_12 ⟨rfl, bt_12⟩
      have HBwt_12 := Lib.hid (Below.step HBwt_7.out bt_12)
      clear bt_12
      cases t_12 with
      | false =>
        replace H := let_hid H
        obtain ⟨t_13, ht_13, H⟩ := H
        obtain rfl : t_13 = true := ht_13.symm
        replace H := app_hid H
        replace H := join_hid H
        replace H := ite_t H
        replace H := app_hid H
        replace H := join_hid H
        replace H := ite_t H
        replace H := app_hid H
        replace H := ite_t H
        cases ret_hid H
        go_wp2_with fail
        go_ret2
        exact ⟨rfl, HBwt_12.out⟩
      | true =>
        replace H := let_hid H
        obtain ⟨t_13, ht_13, H⟩ := H
        obtain rfl : t_13 = false := ht_13.symm
        replace H := app_hid H
        replace H := join_hid H
        replace H := ite_f H
        replace H := let_hid H
        obtain ⟨t_18, ht_18, H⟩ := H
        replace H := app_hid H
        replace H := join_hid H
        cases t_18 with
        | false =>
          replace H := ite_f H
          replace H := bind_hid H
          obtain ⟨t_22, qt_22, H⟩ := H
          go_wp2_with fail
          go_at_call 102
          refine (Go.Proofs.Ytfjcibkgbalkaaa.GiIsMinute.C (by_3)  _    qt_22).mono ?_
          rintro e_t_22 wt_22 ⟨rfl, bt_22⟩
          have HBwt_22 := Lib.hid (Below.step HBwt_12.out bt_22)
          clear bt_22
          cases t_22 with
          | false =>
            replace H := let_hid H
            obtain ⟨t_23, ht_23, H⟩ := H
            obtain rfl : t_23 = true := ht_23.symm
            replace H := app_hid H
            replace H := ite_t H
            cases ret_hid H
            go_wp2_with fail
            go_ret2
            exact ⟨rfl, HBwt_22.out⟩
          | true =>
            replace H := let_hid H
            obtain ⟨t_23, ht_23, H⟩ := H
            obtain rfl : t_23 = false := ht_23.symm
            replace H := app_hid H
            replace H := ite_f H
            replace H := bind_hid H
            obtain ⟨t_30, qt_30, H⟩ := H
            obtain ⟨t_30_x0, t_30_x1, t_30_x2, t_30_x3, t_30_x4, t_30_x5, t_30_x6, t_30_x7, t_30_x8, t_30_x9⟩ := t_30
            replace H := unIntA10_hid H
            go_wp2_with fail
            go_at_call 91
            refine (Go.Proofs.Ytfjcibkgbalkaaa.GiLatestMinutes.C fuel (list) (to) (by_3) A0 c0 _   (Lib.hid (Cells.below M0.out HBwt_22.out)) N0 qt_30).mono ?_
            rintro e_t_30 wt_30 ⟨rfl, bt_30⟩
            unfold Go.Proofs.Ytfjcibkgbalkaaa.PIntA10.IntA10.val
            have HBwt_30 := Lib.hid (Below.step HBwt_22.out bt_30)
            clear bt_30
            replace H := idx_hid H
            obtain ⟨nt_32, yt_32, et_32, lt_32, gt_32, H⟩ := H
            subst et_32
            have it_32 : ∀ w, (Instr.index 92 (.agg #[.int .i64 t_30_x0, .int .i64 t_30_x1, .int .i64 t_30_x2, .int .i64 t_30_x3, .int .i64 t_30_x4, .int .i64 t_30_x5, .int .i64 t_30_x6, .int .i64 t_30_x7, .int .i64 t_30_x8, .int .i64 t_30_x9]) (.int .i64 (nt_32 : Int))).run Try.prog w = .ok (.int .i64 yt_32) w := by
              intro w
              have hl := lt_32
              have hg := gt_32.out
              clear gt_32 H
              rcases nt_32 with _ | _ | _ | _ | _ | _ | _ | _ | _ | _ | _
              · obtain rfl := Option.some.inj hg; rfl
              · obtain rfl := Option.some.inj hg; rfl
              · obtain rfl := Option.some.inj hg; rfl
              · obtain rfl := Option.some.inj hg; rfl
              · obtain rfl := Option.some.inj hg; rfl
              · obtain rfl := Option.some.inj hg; rfl
              · obtain rfl := Option.some.inj hg; rfl
              · obtain rfl := Option.some.inj hg; rfl
              · obtain rfl := Option.some.inj hg; rfl
              · obtain rfl := Option.some.inj hg; rfl
              · simp at hl; omega
            replace H := let_hid H
            obtain ⟨t_35, ht_35, H⟩ := H
            cases t_35 with
            | false =>
              replace H := ite_f H
              cases ret_hid H
              go_wp2_with fail
              go_ret2
              exact ⟨rfl, HBwt_30.out⟩
            | true =>
              replace H := ite_t H
              cases ret_hid H
              go_wp2_with fail
              go_ret2
              exact ⟨rfl, HBwt_30.out⟩
        | true =>
          replace H := ite_t H
          replace H := app_hid H
          replace H := ite_t H
          cases ret_hid H
          go_wp2_with fail
          go_ret2
          exact ⟨rfl, HBwt_12.out⟩
end Go.Proofs.Ytfjcibkgbalkaaa.GiLatestLeave

/- loop.example/g01062/laws.eqMail as a plain function, and the contract of the program's: where the plain one has an answer, the program has it. Conditions: slices read as lists. -/
namespace Go.Proofs.Ytfjcibkgbalkaaa.GlEqMail
set_option linter.unusedVariables false
set_option linter.unusedSimpArgs false
open Go.RowKit
open Go.Proofs.Ytfjcibkgbalkaaa.Rowed Go.Proofs.Ytfjcibkgbalkaaa.Turn Go.Proofs.Ytfjcibkgbalkaaa.Aid Go.Proofs.Ytfjcibkgbalkaaa.GoP Go.Proofs.Ytfjcibkgbalkaaa.GoM

def P (a : Go.Proofs.Ytfjcibkgbalkaaa.PMail.Mail) (b : Go.Proofs.Ytfjcibkgbalkaaa.PMail.Mail) : Option (Bool) :=
  unMail a fun (a_leave : Int) (a_from_ : Int) (a_to_ : Int) (a_arrive : Int) =>
  unMail b fun (b_leave : Int) (b_from_ : Int) (b_to_ : Int) (b_arrive : Int) =>
  letK (a_leave != b_leave) fun (t_7 : Bool) =>
  iteK t_7
  (some false)
  (letK (a_from_ != b_from_) fun (t_13 : Bool) =>
  iteK t_13
  (some false)
  (letK (a_to_ != b_to_) fun (t_19 : Bool) =>
  iteK t_19
  (some false)
  (letK (a_arrive != b_arrive) fun (t_25 : Bool) =>
  iteK t_25
  (some false)
  (some true))))

set_option maxRecDepth 100000 in
set_option maxHeartbeats 2000000 in
theorem C (a : Go.Proofs.Ytfjcibkgbalkaaa.PMail.Mail) (b : Go.Proofs.Ytfjcibkgbalkaaa.PMail.Mail)   (w : World)   {r : Bool} (H : Hid (P a b = some r)) :
    Calls Try.prog 107 #[a.val, b.val] w (Gives (.bool r) w) := by
  have HB := Lib.hid (Below.refl w.heap.size w)
  unfold P at H
  obtain ⟨a_leave, a_from_, a_to_, a_arrive⟩ := a
  replace H := unMail_hid H
  obtain ⟨b_leave, b_from_, b_to_, b_arrive⟩ := b
  replace H := unMail_hid H
  unfold Go.Proofs.Ytfjcibkgbalkaaa.PMail.Mail.val
  go_enter Try.func107, Try.ntmps107
  obtain ⟨w_a_0, hw_a_0⟩ : ∃ x, w.alloc (.cells #[.int .i64 a_leave, .int .i64 a_from_, .int .i64 a_to_, .int .i64 a_arrive] 95) = x := ⟨_, rfl⟩
  have bw_a_0 : Below w.heap.size w w_a_0 := by rw [← hw_a_0]; exact (Below.refl _ _).alloc (Nat.le_refl _) _
  have HBw_a_0 := Lib.hid (Below.step HB.out bw_a_0)
  clear bw_a_0
  have ka_0_0 : w_a_0.cell? ⟨w.heap.size, 0, none⟩ = some (.int .i64 a_leave) := by rw [← hw_a_0]; exact box_new _ _ _ 0 _ rfl
  have ka_0_1 : w_a_0.cell? ⟨w.heap.size, 1, none⟩ = some (.int .i64 a_from_) := by rw [← hw_a_0]; exact box_new _ _ _ 1 _ rfl
  have ka_0_2 : w_a_0.cell? ⟨w.heap.size, 2, none⟩ = some (.int .i64 a_to_) := by rw [← hw_a_0]; exact box_new _ _ _ 2 _ rfl
  have ka_0_3 : w_a_0.cell? ⟨w.heap.size, 3, none⟩ = some (.int .i64 a_arrive) := by rw [← hw_a_0]; exact box_new _ _ _ 3 _ rfl
  obtain ⟨w_b_1, hw_b_1⟩ : ∃ x, w_a_0.alloc (.cells #[.int .i64 b_leave, .int .i64 b_from_, .int .i64 b_to_, .int .i64 b_arrive] 95) = x := ⟨_, rfl⟩
  have bw_b_1 : Below w_a_0.heap.size w_a_0 w_b_1 := by rw [← hw_b_1]; exact (Below.refl _ _).alloc (Nat.le_refl _) _
  have HBw_b_1 := Lib.hid (Below.step HBw_a_0.out bw_b_1)
  have ka_0_0__304 := cell_below bw_b_1 ka_0_0
  have ka_0_1__305 := cell_below bw_b_1 ka_0_1
  have ka_0_2__306 := cell_below bw_b_1 ka_0_2
  have ka_0_3__307 := cell_below bw_b_1 ka_0_3
  clear bw_b_1
  have kb_1_0 : w_b_1.cell? ⟨w_a_0.heap.size, 0, none⟩ = some (.int .i64 b_leave) := by rw [← hw_b_1]; exact box_new _ _ _ 0 _ rfl
  have kb_1_1 : w_b_1.cell? ⟨w_a_0.heap.size, 1, none⟩ = some (.int .i64 b_from_) := by rw [← hw_b_1]; exact box_new _ _ _ 1 _ rfl
  have kb_1_2 : w_b_1.cell? ⟨w_a_0.heap.size, 2, none⟩ = some (.int .i64 b_to_) := by rw [← hw_b_1]; exact box_new _ _ _ 2 _ rfl
  have kb_1_3 : w_b_1.cell? ⟨w_a_0.heap.size, 3, none⟩ = some (.int .i64 b_arrive) := by rw [← hw_b_1]; exact box_new _ _ _ 3 _ rfl
  replace H := let_hid H
  obtain ⟨t_7, ht_7, H⟩ := H
  cases t_7 with
  | false =>
    replace H := ite_f H
    replace H := let_hid H
    obtain ⟨t_13, ht_13, H⟩ := H
    cases t_13 with
    | false =>
      replace H := ite_f H
      replace H := let_hid H
      obtain ⟨t_19, ht_19, H⟩ := H
      cases t_19 with
      | false =>
        replace H := ite_f H
        replace H := let_hid H
        obtain ⟨t_25, ht_25, H⟩ := H
        cases t_25 with
        | false =>
          replace H := ite_f H
          obtain rfl := ret_hid H
          go_wp2_with fail
          go_ret
          exact ⟨rfl, HBw_b_1.out⟩
        | true =>
          replace H := ite_t H
          obtain rfl := ret_hid H
          go_wp2_with fail
          go_ret
          exact ⟨rfl, HBw_b_1.out⟩
      | true =>
        replace H := ite_t H
        obtain rfl := ret_hid H
        go_wp2_with fail
        go_ret
        exact ⟨rfl, HBw_b_1.out⟩
    | true =>
      replace H := ite_t H
      obtain rfl := ret_hid H
      go_wp2_with fail
      go_ret
      exact ⟨rfl, HBw_b_1.out⟩
  | true =>
    replace H := ite_t H
    obtain rfl := ret_hid H
    go_wp2_with fail
    go_ret
    exact ⟨rfl, HBw_b_1.out⟩
end Go.Proofs.Ytfjcibkgbalkaaa.GlEqMail

/- loop.example/g01062/laws.eqMailS as a plain function, and the contract of the program's: where the plain one has an answer, the program has it. Conditions: slices read as lists. -/
namespace Go.Proofs.Ytfjcibkgbalkaaa.GlEqMailS
set_option linter.unusedVariables false
set_option linter.unusedSimpArgs false
open Go.RowKit
open Go.Proofs.Ytfjcibkgbalkaaa.Rowed Go.Proofs.Ytfjcibkgbalkaaa.Turn Go.Proofs.Ytfjcibkgbalkaaa.Aid Go.Proofs.Ytfjcibkgbalkaaa.GoP Go.Proofs.Ytfjcibkgbalkaaa.GoM

def l0 (a : (List Go.Proofs.Ytfjcibkgbalkaaa.PMail.Mail)) (b : (List Go.Proofs.Ytfjcibkgbalkaaa.PMail.Mail)) (k0 : Nat) (s : Unit) (nx0 bk0 : Unit → Option (Bool)) : Option (Bool) :=
  
  Option.bind (idx a (k0 : Int)) fun (yt_14 : Go.Proofs.Ytfjcibkgbalkaaa.PMail.Mail) =>
  unMail yt_14 fun (t_14_leave : Int) (t_14_from_ : Int) (t_14_to_ : Int) (t_14_arrive : Int) =>
  Option.bind (idx b (k0 : Int)) fun (yt_18 : Go.Proofs.Ytfjcibkgbalkaaa.PMail.Mail) =>
  unMail yt_18 fun (t_18_leave : Int) (t_18_from_ : Int) (t_18_to_ : Int) (t_18_arrive : Int) =>
  Option.bind (Go.Proofs.Ytfjcibkgbalkaaa.GlEqMail.P (Go.Proofs.Ytfjcibkgbalkaaa.PMail.Mail.mk t_14_leave t_14_from_ t_14_to_ t_14_arrive) (Go.Proofs.Ytfjcibkgbalkaaa.PMail.Mail.mk t_18_leave t_18_from_ t_18_to_ t_18_arrive)) fun (t_20 : Bool) =>
  letK (!t_20) fun (t_21 : Bool) =>
  iteK t_21
  (some false)
  (appK nx0 ())

def e0  (s : Unit) : Option (Bool) :=
  
  some true

def P (a : (List Go.Proofs.Ytfjcibkgbalkaaa.PMail.Mail)) (b : (List Go.Proofs.Ytfjcibkgbalkaaa.PMail.Mail)) : Option (Bool) :=
  letK ((a.length : Int) != (b.length : Int)) fun (t_5 : Bool) =>
  iteK t_5
  (some false)
  (cntK (l0 a b) (a.length) 0 () (e0 ))

set_option maxRecDepth 100000 in
set_option maxHeartbeats 2000000 in
theorem C (a : (List Go.Proofs.Ytfjcibkgbalkaaa.PMail.Mail)) (b : (List Go.Proofs.Ytfjcibkgbalkaaa.PMail.Mail)) (A0 : Option Addr) (c0 : Nat) (A1 : Option Addr) (c1 : Nat)  (w : World) (M0 : Hid (Cells w 4 A0 a.length (Go.Proofs.Ytfjcibkgbalkaaa.PMail.flat a))) (N0 : Hid (a.length ≤ 9223372036854775807)) (M1 : Hid (Cells w 4 A1 b.length (Go.Proofs.Ytfjcibkgbalkaaa.PMail.flat b))) (N1 : Hid (b.length ≤ 9223372036854775807))  {r : Bool} (H : Hid (P a b = some r)) :
    Calls Try.prog 49 #[.slice A0 a.length c0, .slice A1 b.length c1] w (Gives (.bool r) w) := by
  have HB := Lib.hid (Below.refl w.heap.size w)
  unfold P at H
  have N0o := N0.out
  have N1o := N1.out
  go_enter Try.func49, Try.ntmps49
  replace H := let_hid H
  obtain ⟨t_5, ht_5, H⟩ := H
  cases t_5 with
  | false =>
    have Hht_5 : Hid (a.length = b.length) := Lib.hid (by have := bne_eq_false_iff_eq.1 ht_5; omega)
    have nht_5 : (a.length == b.length) = true := beq_iff_eq.2 Hht_5.out
    replace H := ite_f H
    go_wp2_with fail
    go_loopg [5] (a.length) (fun m_ v5_ wr => ∃ (k0 : Nat) , k0 + m_ = a.length ∧ v5_ = .int .i64 (k0 : Int) ∧ Hid (cntK (l0 a b) m_ k0 () (e0 ) = some r) ∧ Hid (Below w.heap.size w wr))
    case atStart => exact ⟨0, by omega, rfl, H, HB⟩
    case round =>
      obtain ⟨k0, hkm0, rfl, H, HBwr0⟩ := hrel
      rename World => wr0
      cases gk with
      | zero =>
        obtain rfl : k0 = a.length := by omega
        have hc0 : decide (((a.length : Nat) : Int) < ((a.length : Nat) : Int)) = false := by simp
        replace H := cnt_zero H
        unfold e0 at H
        obtain rfl := ret_hid H
        go_wp2_with fail
        go_ret
        exact ⟨rfl, HBwr0.out⟩
      | succ m0 =>
        have hlt0 : k0 < a.length := by omega
        have hc0 : decide ((k0 : Int) < ((a.length : Nat) : Int)) = true := by simp; omega
        replace H := cnt_succ H
        unfold l0 at H
        go_wp2_with fail
        replace H := idx_hid H
        obtain ⟨nt_14, yt_14, et_14, lt_14, gt_14, H⟩ := H
        obtain rfl : k0 = nt_14 := by omega
        clear et_14
        obtain ⟨t_14_leave, t_14_from_, t_14_to_, t_14_arrive⟩ := yt_14
        replace H := unMail_hid H
        obtain ⟨ab_t_14, ao_t_14, zt_14, At_14, z_t_14, ct_14_0, ct_14_1, ct_14_2, ct_14_3⟩ := Go.Proofs.Ytfjcibkgbalkaaa.OMail.at_ M0.out lt_14
        obtain rfl := Option.some.inj (gt_14.out.symm.trans z_t_14)
        subst At_14
        have ltt_14 := cell_lt ct_14_0
        replace ct_14_0 := cell_below HBwr0.out ct_14_0
        replace ct_14_1 := cell_below HBwr0.out ct_14_1
        replace ct_14_2 := cell_below HBwr0.out ct_14_2
        replace ct_14_3 := cell_below HBwr0.out ct_14_3
        clear z_t_14
        have b0t_14 : (0 : Int) ≤ (k0 : Int) := by omega
        have b1t_14 : (k0 : Int) < ((a.length : Nat) : Int) := by omega
        have b2t_14 : ((k0 : Int)).toNat = k0 := by omega
        have Hct_14_0 := Lib.hid ct_14_0
        replace ct_14_0 := cell_regrown ct_14_0
        have Hct_14_1 := Lib.hid ct_14_1
        replace ct_14_1 := cell_regrown ct_14_1
        have Hct_14_2 := Lib.hid ct_14_2
        replace ct_14_2 := cell_regrown ct_14_2
        have Hct_14_3 := Lib.hid ct_14_3
        replace ct_14_3 := cell_regrown ct_14_3
        replace H := idx_hid H
        obtain ⟨nt_18, yt_18, et_18, lt_18, gt_18, H⟩ := H
        obtain rfl : k0 = nt_18 := by omega
        clear et_18
        obtain ⟨t_18_leave, t_18_from_, t_18_to_, t_18_arrive⟩ := yt_18
        replace H := unMail_hid H
        obtain ⟨ab_t_18, ao_t_18, zt_18, At_18, z_t_18, ct_18_0, ct_18_1, ct_18_2, ct_18_3⟩ := Go.Proofs.Ytfjcibkgbalkaaa.OMail.at_ M1.out lt_18
        obtain rfl := Option.some.inj (gt_18.out.symm.trans z_t_18)
        subst At_18
        have ltt_18 := cell_lt ct_18_0
        replace ct_18_0 := cell_below HBwr0.out ct_18_0
        replace ct_18_1 := cell_below HBwr0.out ct_18_1
        replace ct_18_2 := cell_below HBwr0.out ct_18_2
        replace ct_18_3 := cell_below HBwr0.out ct_18_3
        clear z_t_18
        have b0t_18 : (0 : Int) ≤ (k0 : Int) := by omega
        have b1t_18 : (k0 : Int) < ((b.length : Nat) : Int) := by omega
        have b2t_18 : ((k0 : Int)).toNat = k0 := by omega
        have Hct_18_0 := Lib.hid ct_18_0
        replace ct_18_0 := cell_regrown ct_18_0
        have Hct_18_1 := Lib.hid ct_18_1
        replace ct_18_1 := cell_regrown ct_18_1
        have Hct_18_2 := Lib.hid ct_18_2
        replace ct_18_2 := cell_regrown ct_18_2
        have Hct_18_3 := Lib.hid ct_18_3
        replace ct_18_3 := cell_regrown ct_18_3
        replace H := bind_hid H
        obtain ⟨t_20, qt_20, H⟩ := H
        have nt_20 : ∀ d os, Calls Try.prog 107 #[.agg #[.int .i64 t_14_leave, .int .i64 t_14_from_, .int .i64 t_14_to_, .int .i64 t_14_arrive], .agg #[.int .i64 t_18_leave, .int .i64 t_18_from_, .int .i64 t_18_to_, .int .i64 t_18_arrive]] (Go.Sort.grow (redrawn wr0 d) os) fun e w'' => e = .returned (.bool t_20) ∧ ∃ p : Regrown, w'' = Go.Sort.grow (redrawn wr0 p.d) p.os := fun d os => Calls.regrown_of (Go.Proofs.Ytfjcibkgbalkaaa.GlEqMail.C ((Go.Proofs.Ytfjcibkgbalkaaa.PMail.Mail.mk t_14_leave t_14_from_ t_14_to_ t_14_arrive)) ((Go.Proofs.Ytfjcibkgbalkaaa.PMail.Mail.mk t_18_leave t_18_from_ t_18_to_ t_18_arrive))  _    qt_20)
        cases t_20 with
        | false =>
          replace H := let_hid H
          obtain ⟨t_21, ht_21, H⟩ := H
          obtain rfl : t_21 = true := ht_21.symm
          refine wp_region_quiet_below (by kernel_rfl) (by kernel_rfl) ?_
          repeat (go_big_quiet_step (first | (go_at_call 107; exact nt_20 _ _)))
          refine wpQuiet_nil ?_
          intro Y6 hY6
          replace hY6 := below_class hY6
          clear nt_20
          replace ct_14_0 := Hct_14_0.out
          clear Hct_14_0
          replace ct_14_1 := Hct_14_1.out
          clear Hct_14_1
          replace ct_14_2 := Hct_14_2.out
          clear Hct_14_2
          replace ct_14_3 := Hct_14_3.out
          clear Hct_14_3
          replace ct_18_0 := Hct_18_0.out
          clear Hct_18_0
          replace ct_18_1 := Hct_18_1.out
          clear Hct_18_1
          replace ct_18_2 := Hct_18_2.out
          clear Hct_18_2
          replace ct_18_3 := Hct_18_3.out
          clear Hct_18_3
          have HBY6 := Lib.hid (Below.step HBwr0.out hY6)
          replace ct_14_0 := cell_below hY6 ct_14_0
          replace ct_14_1 := cell_below hY6 ct_14_1
          replace ct_14_2 := cell_below hY6 ct_14_2
          replace ct_14_3 := cell_below hY6 ct_14_3
          replace ct_18_0 := cell_below hY6 ct_18_0
          replace ct_18_1 := cell_below hY6 ct_18_1
          replace ct_18_2 := cell_below hY6 ct_18_2
          replace ct_18_3 := cell_below hY6 ct_18_3
          clear hY6
          replace H := ite_t H
          obtain rfl := ret_hid H
          go_wp2_with fail
          go_ret
          exact ⟨rfl, HBY6.out⟩
        | true =>
          replace H := let_hid H
          obtain ⟨t_21, ht_21, H⟩ := H
          obtain rfl : t_21 = false := ht_21.symm
          refine wp_region_quiet_below (by kernel_rfl) (by kernel_rfl) ?_
          repeat (go_big_quiet_step (first | (go_at_call 107; exact nt_20 _ _)))
          refine wpQuiet_nil ?_
          intro Y6 hY6
          replace hY6 := below_class hY6
          clear nt_20
          replace ct_14_0 := Hct_14_0.out
          clear Hct_14_0
          replace ct_14_1 := Hct_14_1.out
          clear Hct_14_1
          replace ct_14_2 := Hct_14_2.out
          clear Hct_14_2
          replace ct_14_3 := Hct_14_3.out
          clear Hct_14_3
          replace ct_18_0 := Hct_18_0.out
          clear Hct_18_0
          replace ct_18_1 := Hct_18_1.out
          clear Hct_18_1
          replace ct_18_2 := Hct_18_2.out
          clear Hct_18_2
          replace ct_18_3 := Hct_18_3.out
          clear Hct_18_3
          have HBY6 := Lib.hid (Below.step HBwr0.out hY6)
          replace ct_14_0 := cell_below hY6 ct_14_0
          replace ct_14_1 := cell_below hY6 ct_14_1
          replace ct_14_2 := cell_below hY6 ct_14_2
          replace ct_14_3 := cell_below hY6 ct_14_3
          replace ct_18_0 := cell_below hY6 ct_18_0
          replace ct_18_1 := cell_below hY6 ct_18_1
          replace ct_18_2 := cell_below hY6 ct_18_2
          replace ct_18_3 := cell_below hY6 ct_18_3
          clear hY6
          replace H := ite_f H
          replace H := app_hid H
          go_wp2_with fail
          go_roundg m0
          case measure => omega
          case rel => exact ⟨k0 + 1, by omega, by go_num, H, HBY6⟩
  | true =>
    have nht_5 : ¬ (a.length = b.length) := by have := bne_iff_ne.1 ht_5; omega
    replace H := ite_t H
    obtain rfl := ret_hid H
    go_wp2_with fail
    go_ret
    exact ⟨rfl, HB.out⟩
end Go.Proofs.Ytfjcibkgbalkaaa.GlEqMailS

/- loop.example/g01062/laws.FnExactLatestLeave as a plain function, and the contract of the program's: where the plain one has an answer, the program has it. Conditions: slices read as lists. -/
namespace Go.Proofs.Ytfjcibkgbalkaaa.GlFnExactLatestLeave
set_option linter.unusedVariables false
set_option linter.unusedSimpArgs false
open Go.RowKit
open Go.Proofs.Ytfjcibkgbalkaaa.Rowed Go.Proofs.Ytfjcibkgbalkaaa.Turn Go.Proofs.Ytfjcibkgbalkaaa.Aid Go.Proofs.Ytfjcibkgbalkaaa.GoP Go.Proofs.Ytfjcibkgbalkaaa.GoM

def P (fuel : Nat) (aList : (List Go.Proofs.Ytfjcibkgbalkaaa.PMail.Mail)) (aFrom : Int) (aTo : Int) (aBy : Int) : Option (Bool) :=
  Option.bind (Go.Proofs.Ytfjcibkgbalkaaa.GlSzMailS.P aList 1048576) fun (t_4 : Int) =>
  letK (decide (t_4 < 0)) fun (t_7 : Bool) =>
  iteK t_7
  (some true)
  (Option.bind (Go.Proofs.Ytfjcibkgbalkaaa.GlToMailS.P aList) fun (t_10 : (List Go.Proofs.Ytfjcibkgbalkaaa.PMail.Mail)) =>
  bind2 (Go.Proofs.Ytfjcibkgbalkaaa.GsLatestLeave.P fuel t_10 aFrom aTo aBy) fun (t_14a : Int) (t_14b : Bool) =>
  Option.bind (Go.Proofs.Ytfjcibkgbalkaaa.GlToMailS.P aList) fun (t_21 : (List Go.Proofs.Ytfjcibkgbalkaaa.PMail.Mail)) =>
  bind2 (Go.Proofs.Ytfjcibkgbalkaaa.GiLatestLeave.P fuel t_21 aFrom aTo aBy) fun (t_27a : Int) (t_27b : Bool) =>
  letK (t_27a != t_14a) fun (t_35 : Bool) =>
  joinK (fun (t_40 : Bool) =>
  iteK t_40
  (some false)
  (Option.bind (Go.Proofs.Ytfjcibkgbalkaaa.GlToMailS.P aList) fun (t_44 : (List Go.Proofs.Ytfjcibkgbalkaaa.PMail.Mail)) =>
  Option.bind (Go.Proofs.Ytfjcibkgbalkaaa.GlEqMailS.P t_21 t_44) fun (t_45 : Bool) =>
  letK (!t_45) fun (t_46 : Bool) =>
  iteK t_46
  (some false)
  (some true))) fun jt_40 => iteK t_35 (appK jt_40 true) (letK (!(t_27b == t_14b)) fun (t_39 : Bool) =>
  appK jt_40 t_39))

set_option maxRecDepth 100000 in
set_option maxHeartbeats 2000000 in
theorem C (fuel : Nat) (aList : (List Go.Proofs.Ytfjcibkgbalkaaa.PMail.Mail)) (aFrom : Int) (aTo : Int) (aBy : Int) (A0 : Option Addr) (c0 : Nat)  (w : World) (M0 : Hid (Cells w 4 A0 aList.length (Go.Proofs.Ytfjcibkgbalkaaa.PMail.flat aList))) (N0 : Hid (aList.length ≤ 9223372036854775807))  {r : Bool} (H : Hid (P fuel aList aFrom aTo aBy = some r)) :
    Calls Try.prog 10 #[.slice A0 aList.length c0, .int .i64 aFrom, .int .i64 aTo, .int .i64 aBy] w (Gives (.bool r) w) := by
  have HB := Lib.hid (Below.refl w.heap.size w)
  unfold P at H
  have N0o := N0.out
  go_enter Try.func10, Try.ntmps10
  replace H := bind_hid H
  obtain ⟨t_4, qt_4, H⟩ := H
  go_wp2_with fail
  go_at_call 47
  refine (Go.Proofs.Ytfjcibkgbalkaaa.GlSzMailS.C (aList) (1048576) A0 c0 _   (Lib.hid (Cells.below M0.out HB.out)) N0 qt_4).mono ?_
  rintro e_t_4 wt_4 ⟨rfl, bt_4⟩
  have HBwt_4 := Lib.hid (Below.step HB.out bt_4)
  clear bt_4
  replace H := let_hid H
  obtain ⟨t_7, ht_7, H⟩ := H
  cases t_7 with
  | false =>
    replace H := ite_f H
    replace H := bind_hid H
    obtain ⟨t_10, qt_10, H⟩ := H
    go_wp2_with fail
    go_at_call 48
    refine (Go.Proofs.Ytfjcibkgbalkaaa.GlToMailS.C (aList) A0 c0 _   (Lib.hid (Cells.below M0.out HBwt_4.out)) N0 qt_10).mono ?_
    rintro e_t_10 wt_10 ⟨At_10, ct_10, rfl, ot_10, bt_10⟩
    have Ot_10 := Lib.hid (own_lower ot_10 HBwt_4.out.size)
    clear ot_10
    have HBwt_10 := Lib.hid (Below.step HBwt_4.out bt_10)
    clear bt_10
    replace H := bind2_hid H
    obtain ⟨t_14a, t_14b, qt_14, H⟩ := H
    go_wp2_with fail
    go_at_call 55
    refine (Go.Proofs.Ytfjcibkgbalkaaa.GsLatestLeave.C fuel (t_10) (aFrom) (aTo) (aBy) At_10 ct_10 _   (Lib.hid (own_cells Ot_10.out)) (Lib.hid (own_max Ot_10.out)) qt_14).mono ?_
    rintro e_t_14 wt_14 ⟨rfl, bt_14⟩
    have HBwt_14 := Lib.hid (Below.step HBwt_10.out bt_14)
    replace Ot_10 := Lib.hid (own_below Ot_10.out bt_14)
    clear bt_14
    replace H := bind_hid H
    obtain ⟨t_21, qt_21, H⟩ := H
    go_wp2_with fail
    go_at_call 48
    refine (Go.Proofs.Ytfjcibkgbalkaaa.GlToMailS.C (aList) A0 c0 _   (Lib.hid (Cells.below M0.out HBwt_14.out)) N0 qt_21).mono ?_
    rintro e_t_21 wt_21 ⟨At_21, ct_21, rfl, ot_21, bt_21⟩
    have Dt_21_t_10 := Lib.hid (apart_call ot_21 Ot_10.out)
    have Ot_21 := Lib.hid (own_lower ot_21 HBwt_14.out.size)
    clear ot_21
    have HBwt_21 := Lib.hid (Below.step HBwt_14.out bt_21)
    replace Ot_10 := Lib.hid (own_below Ot_10.out bt_21)
    clear bt_21
    replace H := bind2_hid H
    obtain ⟨t_27a, t_27b, qt_27, H⟩ := H
    go_wp2_with fail
    go_at_call 56
    refine (Go.Proofs.Ytfjcibkgbalkaaa.GiLatestLeave.C fuel (t_21) (aFrom) (aTo) (aBy) At_21 ct_21 _   (Lib.hid (own_cells Ot_21.out)) (Lib.hid (own_max Ot_21.out)) qt_27).mono ?_
    rintro e_t_27 wt_27 ⟨rfl, bt_27⟩
    have HBwt_27 := Lib.hid (Below.step HBwt_21.out bt_27)
    replace Ot_10 := Lib.hid (own_below Ot_10.out bt_27)
    replace Ot_21 := Lib.hid (own_below Ot_21.out bt_27)
    clear bt_27
    replace H := let_hid H
    obtain ⟨t_35, ht_35, H⟩ := H
    replace H := join_hid H
    cases t_35 with
    | false =>
      replace H := ite_f H
      replace H := let_hid H
      obtain ⟨t_39, ht_39, H⟩ := H
      replace H := app_hid H
      cases t_39 with
      | false =>
        replace H := ite_f H
        replace H := bind_hid H
        obtain ⟨t_44, qt_44, H⟩ := H
        go_wp2_with fail
        go_at_call 48
        refine (Go.Proofs.Ytfjcibkgbalkaaa.GlToMailS.C (aList) A0 c0 _   (Lib.hid (Cells.below M0.out HBwt_27.out)) N0 qt_44).mono ?_
        rintro e_t_44 wt_44 ⟨At_44, ct_44, rfl, ot_44, bt_44⟩
        have Dt_44_t_10 := Lib.hid (apart_call ot_44 Ot_10.out)
        have Dt_44_t_21 := Lib.hid (apart_call ot_44 Ot_21.out)
        have Ot_44 := Lib.hid (own_lower ot_44 HBwt_27.out.size)
        clear ot_44
        have HBwt_44 := Lib.hid (Below.step HBwt_27.out bt_44)
        replace Ot_10 := Lib.hid (own_below Ot_10.out bt_44)
        replace Ot_21 := Lib.hid (own_below Ot_21.out bt_44)
        clear bt_44
        replace H := bind_hid H
        obtain ⟨t_45, qt_45, H⟩ := H
        go_wp2_with fail
        go_at_call 49
        refine (Go.Proofs.Ytfjcibkgbalkaaa.GlEqMailS.C (t_21) (t_44) At_21 ct_21 At_44 ct_44 _   (Lib.hid (own_cells Ot_21.out)) (Lib.hid (own_max Ot_21.out)) (Lib.hid (own_cells Ot_44.out)) (Lib.hid (own_max Ot_44.out)) qt_45).mono ?_
        rintro e_t_45 wt_45 ⟨rfl, bt_45⟩
        have HBwt_45 := Lib.hid (Below.step HBwt_44.out bt_45)
        replace Ot_10 := Lib.hid (own_below Ot_10.out bt_45)
        replace Ot_21 := Lib.hid (own_below Ot_21.out bt_45)
        replace Ot_44 := Lib.hid (own_below Ot_44.out bt_45)
        clear bt_45
        cases t_45 with
        | false =>
          replace H := let_hid H
          obtain ⟨t_46, ht_46, H⟩ := H
          obtain rfl : t_46 = true := ht_46.symm
          replace H := ite_t H
          obtain rfl := ret_hid H
          go_wp2_with fail
          go_ret
          exact ⟨rfl, HBwt_45.out⟩
        | true =>
          replace H := let_hid H
          obtain ⟨t_46, ht_46, H⟩ := H
          obtain rfl : t_46 = false := ht_46.symm
          replace H := ite_f H
          obtain rfl := ret_hid H
          go_wp2_with fail
          go_ret
          exact ⟨rfl, HBwt_45.out⟩
      | true =>
        replace H := ite_t H
        obtain rfl := ret_hid H
        go_wp2_with fail
        go_ret
        exact ⟨rfl, HBwt_27.out⟩
    | true =>
      replace H := ite_t H
      replace H := app_hid H
      replace H := ite_t H
      obtain rfl := ret_hid H
      go_wp2_with fail
      go_ret
      exact ⟨rfl, HBwt_27.out⟩
  | true =>
    replace H := ite_t H
    obtain rfl := ret_hid H
    go_wp2_with fail
    go_ret
    exact ⟨rfl, HBwt_4.out⟩
end Go.Proofs.Ytfjcibkgbalkaaa.GlFnExactLatestLeave

/- Plain words on stamps: what a stamp is, when one is valid, when a list of them is; the cells of a list of records. No condition. -/
namespace Go.Proofs.Ytfjcibkgbalkaaa.PlainStamp
set_option linter.unusedVariables false

/-- a number lies in a..b -/
def inB (x a b : Int) : Bool := decide (a ≤ x ∧ x ≤ b)
theorem inB_yes {x a b : Int} (h1 : a ≤ x) (h2 : x ≤ b) : inB x a b = true := by unfold inB; exact decide_eq_true ⟨h1, h2⟩
theorem inB_of {x a b : Int} (h : inB x a b = true) : a ≤ x ∧ x ≤ b := by unfold inB at h; exact of_decide_eq_true h
theorem inB_no {x a b : Int} (h : x < a ∨ b < x) : inB x a b = false := by unfold inB; exact decide_eq_false (by omega)

structure St where
  id : Int
  face : Int
  color : Int
  year : Int
deriving DecidableEq

def St.cells (s : St) : List Value := [.int .i64 s.id, .int .i64 s.face, .int .i64 s.color, .int .i64 s.year]
def St.val (s : St) : Value := .agg #[.int .i64 s.id, .int .i64 s.face, .int .i64 s.color, .int .i64 s.year]
/-- each field fits an int -/
def St.fits (s : St) : Prop := (Lit.int .i64 s.id).wf = true ∧ (Lit.int .i64 s.face).wf = true ∧ (Lit.int .i64 s.color).wf = true ∧ (Lit.int .i64 s.year).wf = true

def okSt (s : St) : Bool := inB s.id 1 999 && inB s.face 0 9999 && inB s.color 0 99 && inB s.year 1840 2100
theorem okSt_yes {s : St} (h : okSt s = true) : (1 ≤ s.id ∧ s.id ≤ 999) ∧ (0 ≤ s.face ∧ s.face ≤ 9999) ∧ (0 ≤ s.color ∧ s.color ≤ 99) ∧ (1840 ≤ s.year ∧ s.year ≤ 2100) := by
  unfold okSt at h
  simp only [Bool.and_eq_true] at h
  exact ⟨inB_of h.1.1.1, inB_of h.1.1.2, inB_of h.1.2, inB_of h.2⟩

/-- the stamp at k is valid, and its id is above the one ahead of it -/
def okAt (l : List St) (k : Nat) : Bool :=
  match l[k]? with
  | none => true
  | some s => okSt s && (decide (k = 0) || (match l[k-1]? with | none => true | some r => decide (r.id < s.id)))
def okUp (l : List St) (k : Nat) : Bool := (List.range k).all (okAt l)
theorem okUp_zero (l : List St) : okUp l 0 = true := by simp [okUp]
theorem okUp_succ (l : List St) (k : Nat) : okUp l (k + 1) = (okUp l k && okAt l k) := by simp [okUp, List.range_succ, List.all_append]
theorem okUp_not {l : List St} {k n : Nat} (h : okAt l k = false) (hk : k < n) : okUp l n = false := by
  unfold okUp
  rw [Bool.eq_false_iff]
  intro hall
  have := List.all_eq_true.1 hall k (List.mem_range.2 hk)
  rw [h] at this; exact absurd this (by simp)
/-- a list of at most twelve valid stamps with rising ids -/
def okSts (l : List St) : Bool := decide (l.length ≤ 12) && okUp l l.length
theorem okAt_of {l : List St} {k : Nat} {s : St} (hs : l[k]? = some s) (h : okAt l k = true) : okSt s = true ∧ ∀ r, 0 < k → l[k-1]? = some r → r.id < s.id := by
  unfold okAt at h
  rw [hs] at h
  simp only [Bool.and_eq_true, Bool.or_eq_true, decide_eq_true_eq] at h
  refine ⟨h.1, fun r hk hr => ?_⟩
  rcases h.2 with h0 | h0
  · omega
  · rw [hr] at h0; simpa using h0
theorem okSts_len {l : List St} (h : okSts l = true) : l.length ≤ 12 := by unfold okSts at h; simp only [Bool.and_eq_true, decide_eq_true_eq] at h; exact h.1
theorem okSts_at {l : List St} (h : okSts l = true) {k : Nat} {s : St} (hs : l[k]? = some s) : okSt s = true ∧ ∀ r, 0 < k → l[k-1]? = some r → r.id < s.id := by
  unfold okSts at h
  simp only [Bool.and_eq_true, decide_eq_true_eq] at h
  exact okAt_of hs (List.all_eq_true.1 h.2 k (List.mem_range.2 (List.getElem?_eq_some_iff.1 hs).1))
theorem okSts_mem {l : List St} (h : okSts l = true) {s : St} (hs : s ∈ l) : okSt s = true := by
  obtain ⟨k, hk⟩ := List.getElem?_of_mem hs
  exact (okSts_at h hk).1

/-- the cells of a list of stamps, one after the other -/
def flat (l : List St) : List Value := l.flatMap St.cells
theorem flat_nil : flat [] = [] := rfl
theorem flat_cons (s : St) (l : List St) : flat (s :: l) = s.cells ++ flat l := by simp [flat]
theorem flat_len (l : List St) : (flat l).length = l.length * 4 := by
  induction l with
  | nil => rfl
  | cons s l ih => rw [flat_cons, List.length_append, ih]; simp [St.cells]; omega
theorem flat_at : ∀ (l : List St) (k : Nat) (s : St), l[k]? = some s → ∀ j, j < 4 → (flat l)[k * 4 + j]? = s.cells[j]?
  | [], k, s, h, _, _ => by simp at h
  | r :: l, 0, s, h, j, hj => by
    obtain rfl : r = s := by simpa using h
    rw [flat_cons, List.getElem?_append_left (by simp [St.cells]; omega)]; simp
  | r :: l, k + 1, s, h, j, hj => by
    rw [flat_cons, List.getElem?_append_right (by simp [St.cells]; omega), show (k + 1) * 4 + j - r.cells.length = k * 4 + j by simp [St.cells]; omega]
    exact flat_at l k s (by simpa using h) j hj
end Go.Proofs.Ytfjcibkgbalkaaa.PlainStamp

/- Words for reckoning with plain functions; within and l1In. No condition. -/
namespace Go.Proofs.Ytfjcibkgbalkaaa.QBase
set_option linter.unusedVariables false
set_option linter.unusedSimpArgs false
open Go.RowKit
open Go.Proofs.Ytfjcibkgbalkaaa.GoP Go.Proofs.Ytfjcibkgbalkaaa.PlainStamp

theorem iteK_if {ρ : Type} (c : Bool) (a b : Option ρ) : iteK c a b = if c = true then a else b := by cases c <;> rfl
theorem bind2_some {α β ρ : Type} (a : α) (b : β) (f : α → β → Option ρ) : bind2 (some (a, b)) f = f a b := rfl
theorem bind3_some {α β γ ρ : Type} (a : α) (b : β) (c : γ) (f : α → β → γ → Option ρ) : bind3 (some (a, b, c)) f = f a b c := rfl
theorem unp2_mk {α β ρ : Type} (a : α) (b : β) (f : α → β → Option ρ) : unp2 (a, b) f = f a b := rfl
theorem unp3_mk {α β γ ρ : Type} (a : α) (b : β) (c : γ) (f : α → β → γ → Option ρ) : unp3 (a, b, c) f = f a b c := rfl
theorem guardK_pos {ρ : Type} {p : Prop} [Decidable p] {a : Option ρ} (h : p) : guardK p a = a := if_pos h
theorem cut2 {α β : Type} {x : Option (α × β)} {p : α × β} (h : x = some p) : x = some (p.1, p.2) := h
theorem cut3 {α β γ : Type} {x : Option (α × β × γ)} {p : α × β × γ} (h : x = some p) : x = some (p.1, p.2.1, p.2.2) := h
theorem within_eq (n a b : Int) : GiWithin.P n a b = some (inB n a b) := by
  simp only [GiWithin.P, letK, joinK, appK, iteK_if, inB]
  by_cases h1 : a ≤ n <;> by_cases h2 : n ≤ b <;> simp [h1, h2]
theorem l1In_eq (n a b : Int) : GsL1In.P n a b = some (inB n a b) := by
  simp only [GsL1In.P, letK, joinK, appK, iteK_if, inB]
  by_cases h1 : a ≤ n <;> by_cases h2 : n ≤ b <;> simp [h1, h2]
end Go.Proofs.Ytfjcibkgbalkaaa.QBase

/- Reckoning with the loops of plain functions; lists of valid records with rising ids. No condition. -/
namespace Go.Proofs.Ytfjcibkgbalkaaa.QLoop
set_option linter.unusedVariables false
open Go.RowKit
open Go.Proofs.Ytfjcibkgbalkaaa.GoP Go.Proofs.Ytfjcibkgbalkaaa.QBase

theorem cnt_ex {σ ρ : Type} {f : Nat → σ → (σ → Option ρ) → (σ → Option ρ) → Option ρ} {fin : σ → Option ρ} {Q : ρ → Prop} {n : Nat} (I : Nat → σ → Prop)
    (step : ∀ k s nx, k < n → I k s → (∀ s', I (k + 1) s' → ∃ r, nx s' = some r ∧ Q r) → ∃ r, f k s nx fin = some r ∧ Q r) (done : ∀ s, I n s → ∃ r, fin s = some r ∧ Q r) :
    ∀ m k s, k + m = n → I k s → ∃ r, cntK f m k s fin = some r ∧ Q r := by
  intro m
  induction m with
  | zero => intro k s hk hI; obtain rfl : k = n := by omega
            exact done s hI
  | succ m ih => intro k s hk hI; exact step k s _ (by omega) hI (fun s' h' => ih (k + 1) s' (by omega) h')
theorem cnt_is {σ ρ : Type} {f : Nat → σ → (σ → Option ρ) → (σ → Option ρ) → Option ρ} {fin : σ → Option ρ} {n : Nat} (r : ρ) (I : Nat → σ → Prop)
    (step : ∀ k s nx, k < n → I k s → (∀ s', I (k + 1) s' → nx s' = some r) → f k s nx fin = some r) (done : ∀ s, I n s → fin s = some r) (s : σ) (h0 : I 0 s) : cntK f n 0 s fin = some r := by
  obtain ⟨r', h, rfl⟩ := cnt_ex (Q := fun x => x = r) I (fun k s nx hk hI hn => ⟨r, step k s nx hk hI (fun s' h' => by obtain ⟨_, h, rfl⟩ := hn s' h'; exact h), rfl⟩) (fun s h => ⟨r, done s h, rfl⟩) n 0 s (by omega) h0
  exact h
theorem at_lt {α : Type} {l : List α} {k : Nat} (h : k < l.length) : ∃ x, l[k]? = some x ∧ idx l (k : Int) = some x := ⟨l[k], List.getElem?_eq_getElem h, by rw [idx_nat, List.getElem?_eq_getElem h]⟩
theorem idx_pred {α : Type} {l : List α} {k : Nat} {x : α} (hk : 0 < k) (hb : k ≤ 9223372036854775807) (h : l[k - 1]? = some x) : idx l (IntKind.i64.wrap ((k : Int) - 1)) = some x := by
  rw [IntWalk.i64_in _ (by omega), show ((k : Int) - 1) = ((k - 1 : Nat) : Int) by omega, idx_nat, h]
theorem take_next {α : Type} {l : List α} {k : Nat} {x : α} (h : l[k]? = some x) : l.take (k + 1) = l.take k ++ [x] := by
  obtain ⟨hk, e⟩ := List.getElem?_eq_some_iff.1 h
  rw [List.take_succ_eq_append_getElem hk, e]
theorem all_next {α : Type} {p : α → Bool} {l : List α} {k : Nat} {x : α} (h : l[k]? = some x) : (l.take (k + 1)).all p = ((l.take k).all p && p x) := by
  rw [take_next h]; simp
theorem not_all {α : Type} {p : α → Bool} {l : List α} {k : Nat} {x : α} (h : l[k]? = some x) (hp : p x = false) : l.all p = false := by
  rw [Bool.eq_false_iff]
  intro ha
  have := List.all_eq_true.1 ha x (List.mem_of_getElem? h)
  rw [hp] at this; exact absurd this (by simp)
theorem wrap_in {x : Int} (h1 : -9223372036854775808 ≤ x) (h2 : x ≤ 9223372036854775807) : IntKind.i64.wrap x = x := IntWalk.i64_in _ (by omega)

/-- valid, and above the one ahead of it -/
def upAt {α : Type} (ok : α → Bool) (id : α → Int) (l : List α) (k : Nat) : Bool :=
  match l[k]? with
  | none => true
  | some s => ok s && (decide (k = 0) || (match l[k-1]? with | none => true | some r => decide (id r < id s)))
def upTo {α : Type} (ok : α → Bool) (id : α → Int) (l : List α) (k : Nat) : Bool := (List.range k).all (upAt ok id l)
theorem upTo_zero {α : Type} (ok : α → Bool) (id : α → Int) (l : List α) : upTo ok id l 0 = true := rfl
theorem upTo_succ {α : Type} (ok : α → Bool) (id : α → Int) (l : List α) (k : Nat) : upTo ok id l (k + 1) = (upTo ok id l k && upAt ok id l k) := by simp [upTo, List.range_succ, List.all_append]
theorem upTo_not {α : Type} {ok : α → Bool} {id : α → Int} {l : List α} {k n : Nat} (h : upAt ok id l k = false) (hk : k < n) : upTo ok id l n = false := by
  unfold upTo
  rw [Bool.eq_false_iff]
  intro ha
  have := List.all_eq_true.1 ha k (List.mem_range.2 hk)
  rw [h] at this; exact absurd this (by simp)
/-- a list of at most m valid records with rising ids -/
def upL {α : Type} (m : Nat) (ok : α → Bool) (id : α → Int) (l : List α) : Bool := decide (l.length ≤ m) && upTo ok id l l.length
theorem upAt_bad {α : Type} {ok : α → Bool} {id : α → Int} {l : List α} {k : Nat} {s : α} (hs : l[k]? = some s) (h : ok s = false) : upAt ok id l k = false := by unfold upAt; rw [hs]; simp [h]
theorem upAt_first {α : Type} {ok : α → Bool} {id : α → Int} {l : List α} {s : α} (hs : l[0]? = some s) (h : ok s = true) : upAt ok id l 0 = true := by unfold upAt; rw [hs]; simp [h]
theorem upAt_next {α : Type} {ok : α → Bool} {id : α → Int} {l : List α} {k : Nat} {s r : α} (hs : l[k]? = some s) (hr : l[k-1]? = some r) (hk : 0 < k) (h : ok s = true) : upAt ok id l k = decide (id r < id s) := by
  unfold upAt; rw [hs]; simp only [hr, h, Bool.true_and, decide_eq_false (show ¬ k = 0 by omega), Bool.false_or]
theorem upL_len {α : Type} {m : Nat} {ok : α → Bool} {id : α → Int} {l : List α} (h : upL m ok id l = true) : l.length ≤ m := by unfold upL at h; simp only [Bool.and_eq_true, decide_eq_true_eq] at h; exact h.1
theorem upL_ok {α : Type} {m : Nat} {ok : α → Bool} {id : α → Int} {l : List α} (h : upL m ok id l = true) {k : Nat} {s : α} (hs : l[k]? = some s) : ok s = true := by
  unfold upL at h
  simp only [Bool.and_eq_true, decide_eq_true_eq] at h
  have := List.all_eq_true.1 h.2 k (List.mem_range.2 (List.getElem?_eq_some_iff.1 hs).1)
  unfold upAt at this
  rw [hs] at this
  simp only [Bool.and_eq_true] at this
  exact this.1
theorem upL_mem {α : Type} {m : Nat} {ok : α → Bool} {id : α → Int} {l : List α} (h : upL m ok id l = true) {s : α} (hs : s ∈ l) : ok s = true := by
  obtain ⟨k, hk⟩ := List.getElem?_of_mem hs
  exact upL_ok h hk
/-- a loop that goes through a list of records and stops with 'false' at the first that is bad -/
theorem up_loop {α : Type} {ok : α → Bool} {id : α → Int} {l : List α} {R : Type} {no : R} {f : Nat → Unit → (Unit → Option R) → (Unit → Option R) → Option R} {fin : Unit → Option R}
    (step : ∀ k nx s, l[k]? = some s → (ok s = false → f k () nx fin = some no) ∧ (ok s = true → (k = 0 → f k () nx fin = nx ()) ∧ (0 < k → ∀ r, l[k-1]? = some r → (id r < id s → f k () nx fin = nx ()) ∧ (id s ≤ id r → f k () nx fin = some no)))) :
    cntK f l.length 0 () fin = if upTo ok id l l.length then fin () else some no := by
  have key : ∀ m k, k + m = l.length → upTo ok id l k = true → cntK f m k () fin = if upTo ok id l l.length then fin () else some no := by
    intro m
    induction m with
    | zero => intro k hk hu; obtain rfl : k = l.length := by omega
              rw [hu]; rfl
    | succ m ih =>
      intro k hk hu
      have hlt : k < l.length := by omega
      obtain ⟨s, hs, _⟩ := at_lt hlt
      obtain ⟨h1, h2⟩ := step k (fun s' => cntK f m (k + 1) s' fin) s hs
      show f k () _ fin = _
      cases hok : ok s with
      | false => rw [h1 hok, upTo_not (upAt_bad hs hok) hlt]; rfl
      | true =>
        obtain ⟨h3, h4⟩ := h2 hok
        by_cases hk0 : k = 0
        · rw [h3 hk0]
          subst hk0
          exact ih 1 (by omega) (by rw [upTo_succ, hu, upAt_first hs hok]; rfl)
        · obtain ⟨r, hr, _⟩ := at_lt (l := l) (k := k - 1) (by omega)
          obtain ⟨h5, h6⟩ := h4 (by omega) r hr
          by_cases hlt2 : id r < id s
          · rw [h5 hlt2]
            exact ih (k + 1) (by omega) (by rw [upTo_succ, hu, upAt_next hs hr (by omega) hok]; simpa using hlt2)
          · rw [h6 (by omega), upTo_not (by rw [upAt_next hs hr (by omega) hok]; simpa using hlt2) hlt]; rfl
  exact key l.length 0 (by omega) (upTo_zero ok id l)
end Go.Proofs.Ytfjcibkgbalkaaa.QLoop

/- Chapter 9: mails and routes: the plain functions of the program and of the reference agree, and the laws answer true. (QFoldS) No condition but those of each theorem. -/
namespace Go.Proofs.Ytfjcibkgbalkaaa.QFoldS
set_option linter.unusedVariables false
set_option linter.unusedSimpArgs false
open Go.RowKit
open Go.Proofs.Ytfjcibkgbalkaaa.GoP Go.Proofs.Ytfjcibkgbalkaaa.PlainStamp Go.Proofs.Ytfjcibkgbalkaaa.QBase Go.Proofs.Ytfjcibkgbalkaaa.QLoop

/-- a counted loop that carries a state through a list -/
theorem fold_cnt {α σ ρ : Type} {l : List α} {g : σ → α → σ} {J : σ → Prop} {f : Nat → σ → (σ → Option ρ) → (σ → Option ρ) → Option ρ} {fin : σ → Option ρ}
    (step : ∀ k x s nx, l[k]? = some x → J s → f k s nx fin = nx (g s x) ∧ J (g s x)) {s : σ} (hs : J s) : cntK f l.length 0 s fin = fin (l.foldl g s) := by
  have key : ∀ m k s, k + m = l.length → J s → cntK f m k s fin = fin ((l.drop k).foldl g s) := by
    intro m
    induction m with
    | zero => intro k s hk _; rw [List.drop_eq_nil_of_le (by omega)]; rfl
    | succ m ih =>
      intro k s hk hJ
      have hlt : k < l.length := by omega
      have hx : l[k]? = some l[k] := List.getElem?_eq_getElem hlt
      obtain ⟨h1, h2⟩ := step k l[k] s (fun s' => cntK f m (k + 1) s' fin) hx hJ
      show f k s _ fin = _
      rw [h1, ih (k + 1) _ (by omega) h2, List.drop_eq_getElem_cons hlt, List.foldl_cons]
  exact key l.length 0 s (by omega) hs
theorem range_at {n k x : Nat} (h : (List.range n)[k]? = some x) : k < n ∧ k = x := by
  have h1 := (List.getElem?_eq_some_iff.1 h).1
  rw [List.length_range] at h1
  rw [List.getElem?_range h1] at h
  exact ⟨h1, by simpa using h⟩
end Go.Proofs.Ytfjcibkgbalkaaa.QFoldS

/- Chapter 9: mails and routes: the plain functions of the program and of the reference agree, and the laws answer true. (Q9Arr) No condition but those of each theorem. -/
namespace Go.Proofs.Ytfjcibkgbalkaaa.Q9Arr
set_option linter.unusedVariables false
set_option linter.unusedSimpArgs false
open Go.RowKit
open Go.Proofs.Ytfjcibkgbalkaaa.GoP Go.Proofs.Ytfjcibkgbalkaaa.PlainStamp Go.Proofs.Ytfjcibkgbalkaaa.QBase Go.Proofs.Ytfjcibkgbalkaaa.QLoop Go.Proofs.Ytfjcibkgbalkaaa.PIntA10 Go.Proofs.Ytfjcibkgbalkaaa.GoA

/-- the number of an office in a row of ten -/
def at_ (s : List Int) (i : Int) : Int := s.getD i.toNat 0
theorem idx_at {s : List Int} {i : Int} (hs : s.length = 10) (hi : 0 ≤ i ∧ i ≤ 9) : idx s i = some (at_ s i) := by
  unfold idx at_
  rw [if_pos hi.1, List.getD_eq_getElem?_getD, List.getElem?_eq_getElem (by omega)]; rfl
theorem at_set {s : List Int} {i j : Int} (hs : s.length = 10) (hi : 0 ≤ i ∧ i ≤ 9) (hj : 0 ≤ j ∧ j ≤ 9) (v : Int) : at_ (s.set i.toNat v) j = if j = i then v else at_ s j := by
  unfold at_
  rw [List.getD_eq_getElem?_getD, List.getD_eq_getElem?_getD]
  by_cases h : j = i
  · subst h; rw [if_pos rfl, List.getElem?_set_self (by omega)]; rfl
  · rw [if_neg h, List.getElem?_set_ne (by omega)]
theorem at_rep {v i : Int} (hi : 0 ≤ i ∧ i ≤ 9) : at_ (List.replicate 10 v) i = v := by
  unfold at_
  rw [List.getD_eq_getElem?_getD, List.getElem?_replicate, if_pos (by omega)]; rfl
def toA (s : List Int) : IntA10 := IntA10.mk (nth s 0) (nth s 1) (nth s 2) (nth s 3) (nth s 4) (nth s 5) (nth s 6) (nth s 7) (nth s 8) (nth s 9)
theorem ten {s : List Int} (hs : s.length = 10) : [(toA s).x0, (toA s).x1, (toA s).x2, (toA s).x3, (toA s).x4, (toA s).x5, (toA s).x6, (toA s).x7, (toA s).x8, (toA s).x9] = s := by
  match s, hs with
  | [a, b, c, d, e, f, g, h, i, j], _ => rfl
theorem filled_eq (v : Int) : GiFilledWith.P v = some (toA (List.replicate 10 v)) := rfl
theorem un_eq {ρ : Type} (s : IntA10) (f : Int → Int → Int → Int → Int → Int → Int → Int → Int → Int → Option ρ) : unIntA10 s f = f s.x0 s.x1 s.x2 s.x3 s.x4 s.x5 s.x6 s.x7 s.x8 s.x9 := rfl
end Go.Proofs.Ytfjcibkgbalkaaa.Q9Arr

/- Lists of valid records in strictly rising order of any kind; texts in the order of their bytes. (QOrd) No condition but those of each theorem. -/
namespace Go.Proofs.Ytfjcibkgbalkaaa.QOrd
set_option linter.unusedVariables false
set_option linter.unusedSimpArgs false
open Go.RowKit
open Go.Proofs.Ytfjcibkgbalkaaa.GoP Go.Proofs.Ytfjcibkgbalkaaa.PlainStamp Go.Proofs.Ytfjcibkgbalkaaa.QBase Go.Proofs.Ytfjcibkgbalkaaa.QLoop

/-- texts in the order of their bytes -/
def bl (a b : ByteArray) : Bool := Op.bytesLess a.toList b.toList
theorem bl_self' : ∀ x, Op.bytesLess x x = false
  | [] => rfl
  | a :: x => by
    have h1 : ¬ a < a := fun k => by rw [UInt8.lt_iff_toNat_lt] at k; omega
    simp [Op.bytesLess, h1, bl_self' x]
theorem bl_total' : ∀ x y, x ≠ y → Op.bytesLess x y = !(Op.bytesLess y x)
  | [], [], h => absurd rfl h
  | [], b :: y, _ => by simp [Op.bytesLess]
  | a :: x, [], _ => by simp [Op.bytesLess]
  | a :: x, b :: y, h => by
    by_cases hab : a = b
    · subst hab
      have h1 : ¬ a < a := fun k => by rw [UInt8.lt_iff_toNat_lt] at k; omega
      have := bl_total' x y (fun e => h (by rw [e]))
      simp [Op.bytesLess, h1, this]
    · have hne : a.toNat ≠ b.toNat := fun e => hab (UInt8.toNat_inj.1 e)
      by_cases hlt : a < b
      · have h2 : ¬ b < a := fun k => by rw [UInt8.lt_iff_toNat_lt] at k hlt; omega
        simp [Op.bytesLess, hlt, h2, Ne.symm hab]
      · have h2 : b < a := by rw [UInt8.lt_iff_toNat_lt] at hlt ⊢; omega
        simp [Op.bytesLess, hlt, h2, hab]
theorem bl_trans' : ∀ x y z, Op.bytesLess x y = true → Op.bytesLess y z = true → Op.bytesLess x z = true
  | [], _, [], h1, h2 => by rename_i y; cases y <;> simp [Op.bytesLess] at h1 h2
  | [], _, c :: z, _, _ => by simp [Op.bytesLess]
  | a :: x, [], _, h1, _ => by simp [Op.bytesLess] at h1
  | a :: x, b :: y, [], _, h2 => by simp [Op.bytesLess] at h2
  | a :: x, b :: y, c :: z, h1, h2 => by
    simp only [Op.bytesLess, Bool.or_eq_true, decide_eq_true_eq, Bool.and_eq_true, beq_iff_eq] at h1 h2 ⊢
    rcases h1 with h1 | ⟨rfl, h1⟩
    · rcases h2 with h2 | ⟨rfl, h2⟩
      · left; rw [UInt8.lt_iff_toNat_lt] at h1 h2 ⊢; omega
      · left; exact h1
    · rcases h2 with h2 | ⟨rfl, h2⟩
      · left; exact h2
      · right; exact ⟨rfl, bl_trans' x y z h1 h2⟩
theorem list_inj {a b : ByteArray} (h : a.toList = b.toList) : a = b := by
  rw [Lib.toList_data, Lib.toList_data] at h
  cases a; cases b; congr 1; exact Array.toList_inj.1 h
theorem bl_self (a : ByteArray) : bl a a = false := bl_self' _
theorem bl_total {a b : ByteArray} (h : a ≠ b) : bl a b = !(bl b a) := bl_total' _ _ (fun e => h (list_inj e))
theorem bl_trans {a b c : ByteArray} (h1 : bl a b = true) (h2 : bl b c = true) : bl a c = true := bl_trans' _ _ _ h1 h2
theorem bl_asymm {a b : ByteArray} (h : bl a b = true) : bl b a = false := by
  by_cases e : a = b
  · rw [e]; exact bl_self b
  · rw [bl_total e] at h; simpa using h
theorem bl_ne {a b : ByteArray} (h : bl a b = true) : a ≠ b := fun e => by rw [e, bl_self] at h; exact absurd h (by simp)
/-- 'not above', as the program asks it -/
theorem bl_le (a b : ByteArray) : (Op.bytesLess a.toList b.toList || a.toList == b.toList) = !(bl b a) := by
  by_cases e : a = b
  · subst e; rw [bl_self]; simp
  · have h1 : (a.toList == b.toList) = false := by rw [beq_eq_false_iff_ne]; exact fun h => e (list_inj h)
    rw [h1, Bool.or_false]; exact bl_total e
theorem bl_lt (a b : ByteArray) : Op.bytesLess a.toList b.toList = bl a b := rfl
theorem eq_list (a b : ByteArray) : (a.toList == b.toList) = decide (a = b) := by
  by_cases e : a = b
  · subst e; simp
  · rw [decide_eq_false e, beq_eq_false_iff_ne]; exact fun h => e (list_inj h)

/-- valid, and behind the one ahead of it -/
def riseAt {α : Type} (ok : α → Bool) (lt : α → α → Bool) (l : List α) (k : Nat) : Bool :=
  match l[k]? with
  | none => true
  | some s => ok s && (decide (k = 0) || (match l[k-1]? with | none => true | some r => lt r s))
def riseTo {α : Type} (ok : α → Bool) (lt : α → α → Bool) (l : List α) (k : Nat) : Bool := (List.range k).all (riseAt ok lt l)
theorem riseTo_zero {α : Type} (ok : α → Bool) (lt : α → α → Bool) (l : List α) : riseTo ok lt l 0 = true := rfl
theorem riseTo_succ {α : Type} (ok : α → Bool) (lt : α → α → Bool) (l : List α) (k : Nat) : riseTo ok lt l (k + 1) = (riseTo ok lt l k && riseAt ok lt l k) := by simp [riseTo, List.range_succ, List.all_append]
theorem riseTo_not {α : Type} {ok : α → Bool} {lt : α → α → Bool} {l : List α} {k n : Nat} (h : riseAt ok lt l k = false) (hk : k < n) : riseTo ok lt l n = false := by
  unfold riseTo
  rw [Bool.eq_false_iff]
  intro ha
  have := List.all_eq_true.1 ha k (List.mem_range.2 hk)
  rw [h] at this; exact absurd this (by simp)
def riseL {α : Type} (m : Nat) (ok : α → Bool) (lt : α → α → Bool) (l : List α) : Bool := decide (l.length ≤ m) && riseTo ok lt l l.length
theorem riseAt_bad {α : Type} {ok : α → Bool} {lt : α → α → Bool} {l : List α} {k : Nat} {s : α} (hs : l[k]? = some s) (h : ok s = false) : riseAt ok lt l k = false := by unfold riseAt; rw [hs]; simp [h]
theorem riseAt_first {α : Type} {ok : α → Bool} {lt : α → α → Bool} {l : List α} {s : α} (hs : l[0]? = some s) (h : ok s = true) : riseAt ok lt l 0 = true := by unfold riseAt; rw [hs]; simp [h]
theorem riseAt_next {α : Type} {ok : α → Bool} {lt : α → α → Bool} {l : List α} {k : Nat} {s r : α} (hs : l[k]? = some s) (hr : l[k-1]? = some r) (hk : 0 < k) (h : ok s = true) : riseAt ok lt l k = lt r s := by
  unfold riseAt; rw [hs]; simp only [hr, h, Bool.true_and, decide_eq_false (show ¬ k = 0 by omega), Bool.false_or]
theorem riseL_len {α : Type} {m : Nat} {ok : α → Bool} {lt : α → α → Bool} {l : List α} (h : riseL m ok lt l = true) : l.length ≤ m := by unfold riseL at h; simp only [Bool.and_eq_true, decide_eq_true_eq] at h; exact h.1
theorem riseTo_at {α : Type} {ok : α → Bool} {lt : α → α → Bool} {l : List α} {n : Nat} (h : riseTo ok lt l n = true) {k : Nat} (hk : k < n) : riseAt ok lt l k = true := List.all_eq_true.1 h k (List.mem_range.2 hk)
theorem riseL_ok {α : Type} {m : Nat} {ok : α → Bool} {lt : α → α → Bool} {l : List α} (h : riseL m ok lt l = true) {k : Nat} {s : α} (hs : l[k]? = some s) : ok s = true := by
  unfold riseL at h
  simp only [Bool.and_eq_true, decide_eq_true_eq] at h
  have := riseTo_at h.2 (List.getElem?_eq_some_iff.1 hs).1
  unfold riseAt at this
  rw [hs] at this
  simp only [Bool.and_eq_true] at this
  exact this.1
theorem riseL_mem {α : Type} {m : Nat} {ok : α → Bool} {lt : α → α → Bool} {l : List α} (h : riseL m ok lt l = true) {s : α} (hs : s ∈ l) : ok s = true := by
  obtain ⟨k, hk⟩ := List.getElem?_of_mem hs
  exact riseL_ok h hk
theorem riseL_step {α : Type} {m : Nat} {ok : α → Bool} {lt : α → α → Bool} {l : List α} (h : riseL m ok lt l = true) {k : Nat} {x y : α} (hx : l[k]? = some x) (hy : l[k + 1]? = some y) : lt x y = true := by
  unfold riseL at h
  simp only [Bool.and_eq_true, decide_eq_true_eq] at h
  have := riseTo_at h.2 (List.getElem?_eq_some_iff.1 hy).1
  unfold riseAt at this
  rw [hy] at this
  simp only [Nat.add_sub_cancel, hx, Bool.and_eq_true, Bool.or_eq_true, decide_eq_true_eq] at this
  rcases this.2 with h0 | h0
  · omega
  · exact h0
theorem riseL_lt {α : Type} {m : Nat} {ok : α → Bool} {lt : α → α → Bool} (tr : ∀ a b c, lt a b = true → lt b c = true → lt a c = true) {l : List α} (h : riseL m ok lt l = true) {i j : Nat} {x y : α} (hij : i < j) (hx : l[i]? = some x) (hy : l[j]? = some y) : lt x y = true := by
  obtain ⟨d, rfl⟩ : ∃ d, j = i + d + 1 := ⟨j - i - 1, by omega⟩
  clear hij
  induction d generalizing y with
  | zero => exact riseL_step h hx hy
  | succ d ih =>
    obtain ⟨z, hz, _⟩ := at_lt (l := l) (k := i + d + 1) (by have := (List.getElem?_eq_some_iff.1 hy).1; omega)
    exact tr _ _ _ (ih hz) (riseL_step (k := i + d + 1) h hz (by rw [← hy]; rfl))
/-- a loop that goes through a list of records and stops with 'no' at the first that is bad -/
theorem rise_loop {α : Type} {ok : α → Bool} {lt : α → α → Bool} {l : List α} {R : Type} {no : R} {f : Nat → Unit → (Unit → Option R) → (Unit → Option R) → Option R} {fin : Unit → Option R}
    (step : ∀ k nx s, l[k]? = some s → (ok s = false → f k () nx fin = some no) ∧ (ok s = true → (k = 0 → f k () nx fin = nx ()) ∧ (0 < k → ∀ r, l[k-1]? = some r → (lt r s = true → f k () nx fin = nx ()) ∧ (lt r s = false → f k () nx fin = some no)))) :
    cntK f l.length 0 () fin = if riseTo ok lt l l.length then fin () else some no := by
  have key : ∀ m k, k + m = l.length → riseTo ok lt l k = true → cntK f m k () fin = if riseTo ok lt l l.length then fin () else some no := by
    intro m
    induction m with
    | zero => intro k hk hu; obtain rfl : k = l.length := by omega
              rw [hu]; rfl
    | succ m ih =>
      intro k hk hu
      have hlt : k < l.length := by omega
      obtain ⟨s, hs, _⟩ := at_lt hlt
      obtain ⟨h1, h2⟩ := step k (fun s' => cntK f m (k + 1) s' fin) s hs
      show f k () _ fin = _
      cases hok : ok s with
      | false => rw [h1 hok, riseTo_not (riseAt_bad hs hok) hlt]; rfl
      | true =>
        obtain ⟨h3, h4⟩ := h2 hok
        by_cases hk0 : k = 0
        · rw [h3 hk0]
          subst hk0
          exact ih 1 (by omega) (by rw [riseTo_succ, hu, riseAt_first hs hok]; rfl)
        · obtain ⟨r, hr, _⟩ := at_lt (l := l) (k := k - 1) (by omega)
          obtain ⟨h5, h6⟩ := h4 (by omega) r hr
          cases hl : lt r s with
          | true =>
            rw [h5 hl]
            exact ih (k + 1) (by omega) (by rw [riseTo_succ, hu, riseAt_next hs hr (by omega) hok, hl]; rfl)
          | false => rw [h6 hl, riseTo_not (by rw [riseAt_next hs hr (by omega) hok, hl]) hlt]; rfl
  exact key l.length 0 (by omega) (riseTo_zero ok lt l)
end Go.Proofs.Ytfjcibkgbalkaaa.QOrd

/- Chapter 9: mails and routes: the plain functions of the program and of the reference agree, and the laws answer true. (QRiseV) No condition but those of each theorem. -/
namespace Go.Proofs.Ytfjcibkgbalkaaa.QRiseV
set_option linter.unusedVariables false
set_option linter.unusedSimpArgs false
open Go.RowKit
open Go.Proofs.Ytfjcibkgbalkaaa.GoP Go.Proofs.Ytfjcibkgbalkaaa.PlainStamp Go.Proofs.Ytfjcibkgbalkaaa.QBase Go.Proofs.Ytfjcibkgbalkaaa.QOrd Go.Proofs.Ytfjcibkgbalkaaa.QLoop

/-- as rise_loop, with what is known of the one ahead -/
theorem rise_loopV {α : Type} {ok : α → Bool} {lt : α → α → Bool} {l : List α} {R : Type} {no : R} {f : Nat → Unit → (Unit → Option R) → (Unit → Option R) → Option R} {fin : Unit → Option R}
    (step : ∀ k nx s, l[k]? = some s → (ok s = false → f k () nx fin = some no) ∧ (ok s = true → (k = 0 → f k () nx fin = nx ()) ∧ (0 < k → ∀ r, l[k-1]? = some r → ok r = true → (lt r s = true → f k () nx fin = nx ()) ∧ (lt r s = false → f k () nx fin = some no)))) :
    cntK f l.length 0 () fin = if riseTo ok lt l l.length then fin () else some no := by
  have key : ∀ m k, k + m = l.length → riseTo ok lt l k = true → cntK f m k () fin = if riseTo ok lt l l.length then fin () else some no := by
    intro m
    induction m with
    | zero => intro k hk hu; obtain rfl : k = l.length := by omega
              rw [hu]; rfl
    | succ m ih =>
      intro k hk hu
      have hlt : k < l.length := by omega
      obtain ⟨s, hs, _⟩ := at_lt hlt
      obtain ⟨h1, h2⟩ := step k (fun s' => cntK f m (k + 1) s' fin) s hs
      show f k () _ fin = _
      cases hok : ok s with
      | false => rw [h1 hok, riseTo_not (riseAt_bad hs hok) hlt]; rfl
      | true =>
        obtain ⟨h3, h4⟩ := h2 hok
        by_cases hk0 : k = 0
        · rw [h3 hk0]
          subst hk0
          exact ih 1 (by omega) (by rw [riseTo_succ, hu, riseAt_first hs hok]; rfl)
        · obtain ⟨r, hr, _⟩ := at_lt (l := l) (k := k - 1) (by omega)
          have hokr : ok r = true := by
            have := riseTo_at hu (k := k - 1) (by omega)
            unfold riseAt at this; rw [hr] at this
            simp only [Bool.and_eq_true] at this; exact this.1
          obtain ⟨h5, h6⟩ := h4 (by omega) r hr hokr
          cases hl : lt r s with
          | true =>
            rw [h5 hl]
            exact ih (k + 1) (by omega) (by rw [riseTo_succ, hu, riseAt_next hs hr (by omega) hok, hl]; rfl)
          | false => rw [h6 hl, riseTo_not (by rw [riseAt_next hs hr (by omega) hok, hl]) hlt]; rfl
  exact key l.length 0 (by omega) (riseTo_zero ok lt l)
end Go.Proofs.Ytfjcibkgbalkaaa.QRiseV

/- Chapter 8: rates: the plain functions of the program and of the reference agree, and the laws answer true. (QRiseL) No condition but those of each theorem. -/
namespace Go.Proofs.Ytfjcibkgbalkaaa.QRiseL
set_option linter.unusedVariables false
set_option linter.unusedSimpArgs false
open Go.RowKit
open Go.Proofs.Ytfjcibkgbalkaaa.GoP Go.Proofs.Ytfjcibkgbalkaaa.PlainStamp Go.Proofs.Ytfjcibkgbalkaaa.QBase Go.Proofs.Ytfjcibkgbalkaaa.QOrd Go.Proofs.Ytfjcibkgbalkaaa.QLoop

/-- the same, for a loop that counts by itself and stops behind m: the list may be longer than m -/
theorem rise_lp {α R : Type} {ok : α → Bool} {lt : α → α → Bool} {l : List α} {m : Nat} {no : R} {yes : Option R} {f : Int → (Int → Option R) → (Int → Option R) → Option R} {fin : Int → Option R}
    (stop : ∀ (k : Nat) nx, (l.length ≤ k ∨ m < k) → k ≤ l.length → k ≤ m + 1 → f (k : Int) nx fin = fin (k : Int))
    (end_ : ∀ k : Int, fin k = if l.length ≤ m then yes else some no)
    (step : ∀ (k : Nat) nx s, k ≤ m → l[k]? = some s → (ok s = false → f (k : Int) nx fin = some no) ∧ (ok s = true → (k = 0 → f (k : Int) nx fin = nx ((k + 1 : Nat) : Int)) ∧ (0 < k → ∀ r, l[k-1]? = some r → ok r = true → (lt r s = true → f (k : Int) nx fin = nx ((k + 1 : Nat) : Int)) ∧ (lt r s = false → f (k : Int) nx fin = some no)))) :
    ∀ fuel k, m + 1 - k < fuel → k ≤ l.length → k ≤ m + 1 → riseTo ok lt l k = true → loopK f fuel (k : Int) fin = if riseL m ok lt l = true then yes else some no := by
  intro fuel
  induction fuel with
  | zero => intro k h; omega
  | succ n ih =>
    intro k hf hk hm hu
    show f (k : Int) (fun s' => loopK f n s' fin) fin = _
    by_cases hs : l.length ≤ k ∨ m < k
    · rw [stop k _ hs hk hm, end_]
      by_cases hl : l.length ≤ m
      · obtain rfl : k = l.length := by omega
        rw [if_pos hl, if_pos (by unfold riseL; simp [hl, hu])]
      · rw [if_neg hl, if_neg (by unfold riseL; simp [hl])]
    · have hlt : k < l.length := by omega
      obtain ⟨s, hs', _⟩ := at_lt hlt
      obtain ⟨h1, h2⟩ := step k (fun s' => loopK f n s' fin) s (by omega) hs'
      have bad : riseAt ok lt l k = false → riseL m ok lt l = false := by
        intro h; unfold riseL; rw [riseTo_not h hlt, Bool.and_false]
      cases hok : ok s with
      | false => rw [h1 hok, bad (riseAt_bad hs' hok)]; rfl
      | true =>
        obtain ⟨h3, h4⟩ := h2 hok
        by_cases hk0 : k = 0
        · rw [h3 hk0]
          subst hk0
          exact ih 1 (by omega) (by omega) (by omega) (by rw [riseTo_succ, hu, riseAt_first hs' hok]; rfl)
        · obtain ⟨r, hr, _⟩ := at_lt (l := l) (k := k - 1) (by omega)
          have hokr : ok r = true := by
            have := riseTo_at hu (k := k - 1) (by omega)
            unfold riseAt at this; rw [hr] at this
            simp only [Bool.and_eq_true] at this; exact this.1
          obtain ⟨h5, h6⟩ := h4 (by omega) r hr hokr
          cases hl : lt r s with
          | true =>
            rw [h5 hl]
            exact ih (k + 1) (by omega) (by omega) (by omega) (by rw [riseTo_succ, hu, riseAt_next hs' hr (by omega) hok, hl]; rfl)
          | false => rw [h6 hl, bad (by rw [riseAt_next hs' hr (by omega) hok, hl])]; rfl
/-- what each step gives holds between any two -/
theorem riseL_rel {α : Type} {m : Nat} {ok : α → Bool} {lt : α → α → Bool} (rel : α → α → Prop) (st : ∀ a b, ok a = true → ok b = true → lt a b = true → rel a b) (tr : ∀ a b c, rel a b → rel b c → rel a c) {l : List α} (h : riseL m ok lt l = true) {i j : Nat} {x y : α} (hij : i < j) (hx : l[i]? = some x) (hy : l[j]? = some y) : rel x y := by
  obtain ⟨d, rfl⟩ : ∃ d, j = i + d + 1 := ⟨j - i - 1, by omega⟩
  clear hij
  induction d generalizing y with
  | zero => exact st _ _ (riseL_ok h hx) (riseL_ok h hy) (riseL_step h hx hy)
  | succ d ih =>
    obtain ⟨z, hz, _⟩ := at_lt (l := l) (k := i + d + 1) (by have := (List.getElem?_eq_some_iff.1 hy).1; omega)
    exact tr _ _ _ (ih hz) (st _ _ (riseL_ok h hz) (riseL_ok h hy) (riseL_step (k := i + d + 1) h hz (by rw [← hy]; rfl)))
end Go.Proofs.Ytfjcibkgbalkaaa.QRiseL

/- Chapter 9: mails and routes: the plain functions of the program and of the reference agree, and the laws answer true. (QCmp) No condition but those of each theorem. -/
namespace Go.Proofs.Ytfjcibkgbalkaaa.QCmp
set_option linter.unusedVariables false
set_option linter.unusedSimpArgs false
open Go.RowKit
open Go.Proofs.Ytfjcibkgbalkaaa.GoP Go.Proofs.Ytfjcibkgbalkaaa.PlainStamp Go.Proofs.Ytfjcibkgbalkaaa.QBase Go.Proofs.Ytfjcibkgbalkaaa.QLoop

def cmpI (x y : Int) : Int := if x < y then -1 else if y < x then 1 else 0
theorem cmp_eq (x y : Int) : GxCmpCompareInt.P x y = some (cmpI x y) := by
  simp only [GxCmpCompareInt.P, GxCmpIsNaNInt.P, Option.bind_some, letK, iteK_if, cmpI]
  by_cases h1 : x < y
  · simp [h1]
  · by_cases h2 : y < x <;> simp [h1, h2]
theorem or_eq (a b c d : Int) : GxCmpOrInt.P [a, b, c, d] = some (if a != 0 then a else if b != 0 then b else if c != 0 then c else d) := by
  have st : ∀ m k fin, cntK (GxCmpOrInt.l0 [a, b, c, d]) (m + 1) k () fin = GxCmpOrInt.l0 [a, b, c, d] k () (fun s' => cntK (GxCmpOrInt.l0 [a, b, c, d]) m (k + 1) s' fin) fin := fun _ _ _ => rfl
  show cntK (GxCmpOrInt.l0 [a, b, c, d]) (3 + 1) 0 () (GxCmpOrInt.e0) = _
  rw [st]
  simp only [GxCmpOrInt.l0, show idx [a, b, c, d] ((0 : Nat) : Int) = some a from rfl, Option.bind_some, letK, appK, iteK_if]
  by_cases ha : (a != 0) = true
  · rw [if_pos ha, if_pos ha]
  · rw [if_neg ha, if_neg ha]
    show cntK (GxCmpOrInt.l0 [a, b, c, d]) (2 + 1) 1 () (GxCmpOrInt.e0) = _
    rw [st]
    simp only [GxCmpOrInt.l0, show idx [a, b, c, d] ((1 : Nat) : Int) = some b from rfl, Option.bind_some, letK, appK, iteK_if]
    by_cases hb : (b != 0) = true
    · rw [if_pos hb, if_pos hb]
    · rw [if_neg hb, if_neg hb]
      show cntK (GxCmpOrInt.l0 [a, b, c, d]) (1 + 1) 2 () (GxCmpOrInt.e0) = _
      rw [st]
      simp only [GxCmpOrInt.l0, show idx [a, b, c, d] ((2 : Nat) : Int) = some c from rfl, Option.bind_some, letK, appK, iteK_if]
      by_cases hc : (c != 0) = true
      · rw [if_pos hc, if_pos hc]
      · rw [if_neg hc, if_neg hc]
        show cntK (GxCmpOrInt.l0 [a, b, c, d]) (0 + 1) 3 () (GxCmpOrInt.e0) = _
        rw [st]
        simp only [GxCmpOrInt.l0, show idx [a, b, c, d] ((3 : Nat) : Int) = some d from rfl, Option.bind_some, letK, appK, iteK_if]
        by_cases hd : (d != 0) = true
        · rw [if_pos hd]
        · rw [if_neg hd]
          have : d = 0 := by simpa using hd
          rw [this]; rfl
end Go.Proofs.Ytfjcibkgbalkaaa.QCmp

/- Chapter 9: mails and routes: the plain functions of the program and of the reference agree, and the laws answer true. (Q9Mail) No condition but those of each theorem. -/
namespace Go.Proofs.Ytfjcibkgbalkaaa.Q9Mail
set_option linter.unusedVariables false
set_option linter.unusedSimpArgs false
open Go.RowKit
open Go.Proofs.Ytfjcibkgbalkaaa.GoP Go.Proofs.Ytfjcibkgbalkaaa.PlainStamp Go.Proofs.Ytfjcibkgbalkaaa.QBase Go.Proofs.Ytfjcibkgbalkaaa.QCmp Go.Proofs.Ytfjcibkgbalkaaa.QLoop Go.Proofs.Ytfjcibkgbalkaaa.PMail

theorem isMinute_eq (n : Int) : GiIsMinute.P n = some (inB n 0 9999) := by simp only [GiIsMinute.P, within_eq, Option.bind_some]
theorem isOffice_eq (n : Int) : GiIsPostOffice.P n = some (inB n 0 9) := by simp only [GiIsPostOffice.P, within_eq, Option.bind_some]
theorem l9Office_eq (n : Int) : GsL9Office.P n = some (inB n 0 9) := by simp only [GsL9Office.P, l1In_eq, Option.bind_some]
theorem l9Minute_eq (n : Int) : GsL9Minute.P n = some (inB n 0 9999) := by simp only [GsL9Minute.P, l1In_eq, Option.bind_some]
def okM (x : Mail) : Bool := inB x.from_ 0 9 && inB x.to_ 0 9 && (x.from_ != x.to_) && inB x.leave 0 9999 && inB x.arrive 0 9999 && decide (x.leave < x.arrive)
theorem isMail_eq (x : Mail) : GiIsMail.P x = some (okM x) := by
  obtain ⟨a, b, c, d⟩ := x
  simp only [GiIsMail.P, unMail, isMinute_eq, isOffice_eq, Option.bind_some, letK, joinK, appK, iteK_if, okM]
  cases inB b 0 9 <;> cases inB c 0 9 <;> cases (b != c) <;> cases inB a 0 9999 <;> cases inB d 0 9999 <;> simp
theorem l9One_eq (x : Mail) : GsL9One.P x = some (okM x) := by
  obtain ⟨a, b, c, d⟩ := x
  have hx : (inB d 0 9999 && inB a 0 (d - 1)) = (inB a 0 9999 && inB d 0 9999 && decide (a < d)) := by unfold inB; rw [Bool.eq_iff_iff]; simp; omega
  have hy : okM ⟨a, b, c, d⟩ = (inB b 0 9 && inB c 0 9 && (b != c) && (inB d 0 9999 && inB a 0 (d - 1))) := by
    rw [hx]; unfold okM
    cases inB b 0 9 <;> cases inB c 0 9 <;> cases (b != c) <;> simp
  rw [hy]
  simp only [GsL9One.P, unMail, l9Office_eq, l9Minute_eq, l1In_eq, Option.bind_some, letK, joinK, appK, iteK_if]
  cases hd : inB d 0 9999 with
  | false => cases inB b 0 9 <;> cases inB c 0 9 <;> cases (b != c) <;> simp
  | true =>
    have h := inB_of hd
    rw [wrap_in (by omega) (by omega)]
    cases inB b 0 9 <;> cases inB c 0 9 <;> cases (b != c) <;> simp
theorem okM_of {x : Mail} (h : okM x = true) : (0 ≤ x.from_ ∧ x.from_ ≤ 9) ∧ (0 ≤ x.to_ ∧ x.to_ ≤ 9) ∧ x.from_ ≠ x.to_ ∧ (0 ≤ x.leave ∧ x.leave < x.arrive ∧ x.arrive ≤ 9999) := by
  unfold okM at h
  simp only [Bool.and_eq_true, decide_eq_true_eq, bne_iff_ne] at h
  have h1 := inB_of h.1.1.1.1.1
  have h2 := inB_of h.1.1.1.1.2
  have h3 := inB_of h.1.1.2
  have h4 := inB_of h.1.2
  exact ⟨h1, h2, h.1.1.1.2, h3.1, h.2, h4.2⟩
def codeM (x : Mail) : Int := ((x.leave * 10 + x.from_) * 10 + x.to_) * 10000 + x.arrive
def ltM (a b : Mail) : Bool := decide (codeM a < codeM b)
theorem code_eq {x : Mail} (h : okM x = true) : GsL9Code.P x = some (codeM x) := by
  obtain ⟨h1, h2, _, h3⟩ := okM_of h
  obtain ⟨a, b, c, d⟩ := x
  dsimp only at h1 h2 h3
  simp only [GsL9Code.P, unMail, letK, codeM]
  rw [wrap_in (x := a * 10) (by omega) (by omega), wrap_in (x := a * 10 + b) (by omega) (by omega), wrap_in (x := (a * 10 + b) * 10) (by omega) (by omega), wrap_in (x := (a * 10 + b) * 10 + c) (by omega) (by omega), wrap_in (x := ((a * 10 + b) * 10 + c) * 10000) (by omega) (by omega), wrap_in (by omega) (by omega)]
theorem compare_eq {a b : Mail} (ha : okM a = true) (hb : okM b = true) : ∃ c, GiCompareMails.P a b = some c ∧ (0 ≤ c ↔ codeM b ≤ codeM a) := by
  have h1 := okM_of ha
  have h2 := okM_of hb
  obtain ⟨a, x, c, y⟩ := a
  obtain ⟨a', x', c', y'⟩ := b
  dsimp only at h1 h2
  simp only [GiCompareMails.P, unMail, cmp_eq, Option.bind_some, letK, or_eq]
  refine ⟨_, rfl, ?_⟩
  unfold cmpI codeM
  dsimp only
  by_cases p1 : a < a'
  · simp [p1]; omega
  · by_cases p2 : a' < a
    · simp [p1, p2]; omega
    · obtain rfl : a = a' := by omega
      by_cases p3 : x < x'
      · simp [p3]; omega
      · by_cases p4 : x' < x
        · simp [p3, p4]; omega
        · obtain rfl : x = x' := by omega
          by_cases p5 : c < c'
          · simp [p5]; omega
          · by_cases p6 : c' < c
            · simp [p5, p6]; omega
            · obtain rfl : c = c' := by omega
              by_cases p7 : y < y'
              · simp [p7]
              · by_cases p8 : y' < y
                · simp [p7, p8]; omega
                · simp [p7, p8]; omega
end Go.Proofs.Ytfjcibkgbalkaaa.Q9Mail

/- loop.example/g01062/impl.canBegin as a plain function, and the contract of the program's: where the plain one has an answer, the program has it. Conditions: slices read as lists. -/
namespace Go.Proofs.Ytfjcibkgbalkaaa.GiCanBegin
set_option linter.unusedVariables false
set_option linter.unusedSimpArgs false
open Go.RowKit
open Go.Proofs.Ytfjcibkgbalkaaa.Rowed Go.Proofs.Ytfjcibkgbalkaaa.Turn Go.Proofs.Ytfjcibkgbalkaaa.Aid Go.Proofs.Ytfjcibkgbalkaaa.GoP Go.Proofs.Ytfjcibkgbalkaaa.GoM

def P (list : (List Go.Proofs.Ytfjcibkgbalkaaa.PMail.Mail)) (from_1 : Int) (minute : Int) : Option (Bool) :=
  Option.bind (Go.Proofs.Ytfjcibkgbalkaaa.GiIsTimetable.P list) fun (t_2 : Bool) =>
  joinK (fun (t_6 : Bool) =>
  joinK (fun (t_10 : Bool) =>
  some t_10) fun jt_10 => iteK t_6 (Option.bind (Go.Proofs.Ytfjcibkgbalkaaa.GiIsMinute.P minute) fun (t_9 : Bool) =>
  appK jt_10 t_9) (appK jt_10 false)) fun jt_6 => iteK t_2 (Option.bind (Go.Proofs.Ytfjcibkgbalkaaa.GiIsPostOffice.P from_1) fun (t_5 : Bool) =>
  appK jt_6 t_5) (appK jt_6 false)

set_option maxRecDepth 100000 in
set_option maxHeartbeats 2000000 in
theorem C (list : (List Go.Proofs.Ytfjcibkgbalkaaa.PMail.Mail)) (from_1 : Int) (minute : Int) (A0 : Option Addr) (c0 : Nat)  (w : World) (M0 : Hid (Cells w 4 A0 list.length (Go.Proofs.Ytfjcibkgbalkaaa.PMail.flat list))) (N0 : Hid (list.length ≤ 9223372036854775807))  {r : Bool} (H : Hid (P list from_1 minute = some r)) :
    Calls Try.prog 96 #[.slice A0 list.length c0, .int .i64 from_1, .int .i64 minute] w (Gives (.bool r) w) := by
  have HB := Lib.hid (Below.refl w.heap.size w)
  unfold P at H
  have N0o := N0.out
  go_enter Try.func96, Try.ntmps96
  replace H := bind_hid H
  obtain ⟨t_2, qt_2, H⟩ := H
  go_wp2_with fail
  go_at_call 34
  refine (Go.Proofs.Ytfjcibkgbalkaaa.GiIsTimetable.C (list) A0 c0 _   (Lib.hid (Cells.below M0.out HB.out)) N0 qt_2).mono ?_
  rintro e_t_2 wt_2 ⟨rfl, bt_2⟩
  have HBwt_2 := Lib.hid (Below.step HB.out bt_2)
  clear bt_2
  replace H := join_hid H
  cases t_2 with
  | false =>
    replace H := ite_f H
    replace H := app_hid H
    replace H := join_hid H
    replace H := ite_f H
    replace H := app_hid H
    obtain rfl := ret_hid H
    go_wp2_with fail
    go_ret
    exact ⟨rfl, HBwt_2.out⟩
  | true =>
    replace H := ite_t H
    replace H := bind_hid H
    obtain ⟨t_5, qt_5, H⟩ := H
    go_wp2_with fail
    go_at_call 97
    refine (Go.Proofs.Ytfjcibkgbalkaaa.GiIsPostOffice.C (from_1)  _    qt_5).mono ?_
    rintro e_t_5 wt_5 ⟨rfl, bt_5⟩
    have HBwt_5 := Lib.hid (Below.step HBwt_2.out bt_5)
    clear bt_5
    replace H := app_hid H
    replace H := join_hid H
    cases t_5 with
    | false =>
      replace H := ite_f H
      replace H := app_hid H
      obtain rfl := ret_hid H
      go_wp2_with fail
      go_ret
      exact ⟨rfl, HBwt_5.out⟩
    | true =>
      replace H := ite_t H
      replace H := bind_hid H
      obtain ⟨t_9, qt_9, H⟩ := H
      go_wp2_with fail
      go_at_call 102
      refine (Go.Proofs.Ytfjcibkgbalkaaa.GiIsMinute.C (minute)  _    qt_9).mono ?_
      rintro e_t_9 wt_9 ⟨rfl, bt_9⟩
      have HBwt_9 := Lib.hid (Below.step HBwt_5.out bt_9)
      clear bt_9
      replace H := app_hid H
      obtain rfl := ret_hid H
      go_wp2_with fail
      go_ret
      exact ⟨rfl, HBwt_9.out⟩
end Go.Proofs.Ytfjcibkgbalkaaa.GiCanBegin

/- Chapter 9: mails and routes: the plain functions of the program and of the reference agree, and the laws answer true. (Q9List) No condition but those of each theorem. -/
namespace Go.Proofs.Ytfjcibkgbalkaaa.Q9List
set_option linter.unusedVariables false
set_option linter.unusedSimpArgs false
open Go.RowKit
open Go.Proofs.Ytfjcibkgbalkaaa.GoP Go.Proofs.Ytfjcibkgbalkaaa.PlainStamp Go.Proofs.Ytfjcibkgbalkaaa.QBase Go.Proofs.Ytfjcibkgbalkaaa.QRiseV Go.Proofs.Ytfjcibkgbalkaaa.QRiseL Go.Proofs.Ytfjcibkgbalkaaa.QOrd Go.Proofs.Ytfjcibkgbalkaaa.Q9Mail Go.Proofs.Ytfjcibkgbalkaaa.QLoop Go.Proofs.Ytfjcibkgbalkaaa.PMail

def goodM (l : List Mail) : Bool := riseL 20 okM ltM l
theorem isTime_eq (l : List Mail) (hl : l.length ≤ 9223372036854775807) : GiIsTimetable.P l = some (goodM l) := by
  simp only [GiIsTimetable.P, letK, iteK_if]
  by_cases h12 : l.length ≤ 20
  · rw [if_neg (by simp; omega), rise_loopV (ok := okM) (lt := ltM) (no := false)]
    · unfold goodM riseL; cases riseTo okM ltM l l.length <;> simp [h12, GiIsTimetable.e0]
    · intro k nx s hs
      have hi : idx l (k : Int) = some s := by rw [idx_nat, hs]
      have hk : k < l.length := (List.getElem?_eq_some_iff.1 hs).1
      simp only [GiIsTimetable.l0, hi, Option.bind_some, unMail, isMail_eq, letK, joinK, appK, iteK_if]
      refine ⟨fun h => by simp [h], fun h => ⟨fun h0 => by subst h0; simp [h], fun h0 r hr hokr => ?_⟩⟩
      rw [idx_pred h0 (by omega) hr]
      have hk0 : (0 : Int) < (k : Int) := by omega
      have hk1 : ¬ k = 0 := by omega
      obtain ⟨c, hc, hcc⟩ := compare_eq hokr h
      have he : ∀ x : Mail, Mail.mk x.leave x.from_ x.to_ x.arrive = x := fun x => rfl
      simp only [Option.bind_some, he, hc, h, ltM]
      exact ⟨fun hlt => by
        have : ¬ 0 ≤ c := by rw [hcc]; have := of_decide_eq_true hlt; omega
        simp [hk0, hk1, this], fun hge => by
        have : 0 ≤ c := by rw [hcc]; have := of_decide_eq_false hge; omega
        simp [hk0, hk1, this]⟩
  · rw [if_pos (by simp; omega)]; unfold goodM riseL; simp [h12]
theorem l9Good_eq (l : List Mail) (hl : l.length ≤ 9223372036854775807) : GsL9Good.P l = some (goodM l) := by
  simp only [GsL9Good.P]
  rw [rise_loopV (ok := okM) (lt := ltM) (no := false)]
  · unfold goodM riseL; simp only [GsL9Good.e0, letK]
    by_cases h12 : l.length ≤ 20
    · have : (l.length : Int) ≤ 20 := by omega
      cases riseTo okM ltM l l.length <;> simp [h12, this]
    · have : ¬ (l.length : Int) ≤ 20 := by omega
      cases riseTo okM ltM l l.length <;> simp [h12, this]
  · intro k nx s hs
    have hi : idx l (k : Int) = some s := by rw [idx_nat, hs]
    have hk : k < l.length := (List.getElem?_eq_some_iff.1 hs).1
    simp only [GsL9Good.l0, hi, Option.bind_some, unMail, l9One_eq, letK, joinK, appK, iteK_if]
    refine ⟨fun h => by simp [h], fun h => ⟨fun h0 => by subst h0; simp [h], fun h0 r hr hokr => ?_⟩⟩
    rw [idx_pred h0 (by omega) hr]
    have hk0 : (0 : Int) < (k : Int) := by omega
    have hk1 : ¬ k = 0 := by omega
    have he : ∀ x : Mail, Mail.mk x.leave x.from_ x.to_ x.arrive = x := fun x => rfl
    simp only [Option.bind_some, he, code_eq hokr, code_eq h, h, ltM]
    exact ⟨fun hlt => by
      have : ¬ codeM s ≤ codeM r := by have := of_decide_eq_true hlt; omega
      simp [hk0, hk1, this], fun hge => by
      have : codeM s ≤ codeM r := by have := of_decide_eq_false hge; omega
      simp [hk0, hk1, this]⟩
def askM (l : List Mail) (o m : Int) : Bool := goodM l && inB o 0 9 && inB m 0 9999
theorem canBegin_eq (l : List Mail) (hl : l.length ≤ 9223372036854775807) (o m : Int) : GiCanBegin.P l o m = some (askM l o m) := by
  simp only [GiCanBegin.P, isTime_eq l hl, isOffice_eq, isMinute_eq, Option.bind_some, joinK, appK, iteK_if, askM]
  cases goodM l <;> cases inB o 0 9 <;> simp
theorem l9Asked_eq (l : List Mail) (hl : l.length ≤ 9223372036854775807) (o m : Int) : GsL9Asked.P l o m = some (askM l o m) := by
  simp only [GsL9Asked.P, l9Good_eq l hl, l9Office_eq, l9Minute_eq, Option.bind_some, joinK, appK, iteK_if, askM]
  cases goodM l <;> cases inB o 0 9 <;> simp
theorem m_ok {l : List Mail} (h : goodM l = true) {k : Nat} {x : Mail} (hx : l[k]? = some x) : okM x = true := riseL_ok h hx
theorem m_mem {l : List Mail} (h : goodM l = true) {x : Mail} (hx : x ∈ l) : okM x = true := riseL_mem h hx
theorem m_len {l : List Mail} (h : goodM l = true) : l.length ≤ 20 := riseL_len h
theorem m_leave {l : List Mail} (h : goodM l = true) {i j : Nat} {x y : Mail} (hij : i < j) (hx : l[i]? = some x) (hy : l[j]? = some y) : x.leave ≤ y.leave := by
  have := riseL_rel (fun a b => a.leave ≤ b.leave) (fun a b ha hb hlt => by
    have h1 := okM_of ha
    have h2 := okM_of hb
    have h3 := of_decide_eq_true hlt
    unfold codeM at h3
    omega) (fun a b c h1 h2 => Int.le_trans h1 h2) h hij hx hy
  exact this
theorem ask_of {l : List Mail} {o m : Int} (h : askM l o m = true) : goodM l = true ∧ (0 ≤ o ∧ o ≤ 9) ∧ (0 ≤ m ∧ m ≤ 9999) := by
  unfold askM at h
  simp only [Bool.and_eq_true] at h
  exact ⟨h.1.1, inB_of h.1.2, inB_of h.2⟩
end Go.Proofs.Ytfjcibkgbalkaaa.Q9List

/- Chapter 9: mails and routes: the plain functions of the program and of the reference agree, and the laws answer true. (Q9Dual) No condition but those of each theorem. -/
namespace Go.Proofs.Ytfjcibkgbalkaaa.Q9Dual
set_option linter.unusedVariables false
set_option linter.unusedSimpArgs false
open Go.RowKit
open Go.Proofs.Ytfjcibkgbalkaaa.GoP Go.Proofs.Ytfjcibkgbalkaaa.PlainStamp Go.Proofs.Ytfjcibkgbalkaaa.QBase Go.Proofs.Ytfjcibkgbalkaaa.Q9Arr Go.Proofs.Ytfjcibkgbalkaaa.Q9List Go.Proofs.Ytfjcibkgbalkaaa.Q9Mail Go.Proofs.Ytfjcibkgbalkaaa.QLoop Go.Proofs.Ytfjcibkgbalkaaa.PMail Go.Proofs.Ytfjcibkgbalkaaa.PIntA10

/-- a mail that can be reached takes its minute on -/
def stepE (s : List Int) (x : Mail) : List Int := if at_ s x.from_ ≤ x.leave then s.set x.to_.toNat (min (at_ s x.to_) x.arrive) else s
def startE (o m : Int) : List Int := (List.replicate 10 10000).set o.toNat m
def earlyM (l : List Mail) (o m : Int) : List Int := l.foldl stepE (startE o m)
/-- a mail from whose end one still comes in time tells the minute at which it leaves -/
def stepL (x : Mail) (t : List Int) : List Int := if x.arrive ≤ at_ t x.to_ then t.set x.from_.toNat (max (at_ t x.from_) x.leave) else t
def startL (o m : Int) : List Int := (List.replicate 10 (-1)).set o.toNat m
def lateM (l : List Mail) (o m : Int) : List Int := l.foldr stepL (startL o m)
theorem stepE_len {s : List Int} {x : Mail} : (stepE s x).length = s.length := by unfold stepE; split <;> simp
theorem stepL_len {s : List Int} {x : Mail} : (stepL x s).length = s.length := by unfold stepL; split <;> simp
theorem foldE_len (l : List Mail) : ∀ {s : List Int}, (l.foldl stepE s).length = s.length := by
  induction l with
  | nil => intro s; rfl
  | cons x l ih => intro s; rw [List.foldl_cons, ih, stepE_len]
theorem foldL_len (l : List Mail) {t : List Int} : (l.foldr stepL t).length = t.length := by
  induction l with
  | nil => rfl
  | cons x l ih => rw [List.foldr_cons, stepL_len, ih]
theorem startE_len (o m : Int) : (startE o m).length = 10 := by simp [startE]
theorem startL_len (o m : Int) : (startL o m).length = 10 := by simp [startL]
theorem early_len (l : List Mail) (o m : Int) : (earlyM l o m).length = 10 := by unfold earlyM; rw [foldE_len, startE_len]
theorem late_len (l : List Mail) (o m : Int) : (lateM l o m).length = 10 := by unfold lateM; rw [foldL_len, startL_len]
theorem startE_at {o m i : Int} (ho : 0 ≤ o ∧ o ≤ 9) (hi : 0 ≤ i ∧ i ≤ 9) : at_ (startE o m) i = if i = o then m else 10000 := by
  unfold startE; rw [at_set (by simp) ho hi, at_rep hi]
theorem startL_at {o m i : Int} (ho : 0 ≤ o ∧ o ≤ 9) (hi : 0 ≤ i ∧ i ≤ 9) : at_ (startL o m) i = if i = o then m else -1 := by
  unfold startL; rw [at_set (by simp) ho hi, at_rep hi]
theorem stepE_at {s : List Int} {x : Mail} {i : Int} (hs : s.length = 10) (hx : okM x = true) (hi : 0 ≤ i ∧ i ≤ 9) : at_ (stepE s x) i = if at_ s x.from_ ≤ x.leave ∧ i = x.to_ then min (at_ s i) x.arrive else at_ s i := by
  unfold stepE
  by_cases h : at_ s x.from_ ≤ x.leave
  · rw [if_pos h, at_set hs (okM_of hx).2.1 hi]
    by_cases e : i = x.to_
    · rw [if_pos e, if_pos ⟨h, e⟩, e]
    · rw [if_neg e, if_neg (fun q => e q.2)]
  · rw [if_neg h, if_neg (fun q => h q.1)]
theorem stepL_at {t : List Int} {x : Mail} {i : Int} (hs : t.length = 10) (hx : okM x = true) (hi : 0 ≤ i ∧ i ≤ 9) : at_ (stepL x t) i = if x.arrive ≤ at_ t x.to_ ∧ i = x.from_ then max (at_ t i) x.leave else at_ t i := by
  unfold stepL
  by_cases h : x.arrive ≤ at_ t x.to_
  · rw [if_pos h, at_set hs (okM_of hx).1 hi]
    by_cases e : i = x.from_
    · rw [if_pos e, if_pos ⟨h, e⟩, e]
    · rw [if_neg e, if_neg (fun q => e q.2)]
  · rw [if_neg h, if_neg (fun q => h q.1)]
/-- at some office one is not later than one may be -/
def meets (s t : List Int) : Prop := ∃ i, (0 ≤ i ∧ i ≤ 9) ∧ at_ s i ≤ at_ t i
theorem meets_step {s t : List Int} {x : Mail} (hs : s.length = 10) (ht : t.length = 10) (hx : okM x = true) : meets (stepE s x) t ↔ meets s (stepL x t) := by
  have hm := okM_of hx
  constructor
  · rintro ⟨i, hi, h⟩
    rw [stepE_at hs hx hi] at h
    split at h
    · rename_i hc
      by_cases h1 : at_ s i ≤ at_ t i
      · refine ⟨i, hi, ?_⟩; rw [stepL_at ht hx hi]; split <;> omega
      · refine ⟨x.from_, hm.1, ?_⟩
        rw [stepL_at ht hx hm.1, if_pos ⟨by rw [← hc.2]; omega, rfl⟩]
        have := hc.1; omega
    · refine ⟨i, hi, ?_⟩; rw [stepL_at ht hx hi]; split <;> omega
  · rintro ⟨i, hi, h⟩
    rw [stepL_at ht hx hi] at h
    split at h
    · rename_i hc
      by_cases h1 : at_ s i ≤ at_ t i
      · refine ⟨i, hi, ?_⟩; rw [stepE_at hs hx hi]; split <;> omega
      · refine ⟨x.to_, hm.2.1, ?_⟩
        rw [stepE_at hs hx hm.2.1, if_pos ⟨by rw [← hc.2]; omega, rfl⟩]
        have := hc.1; omega
    · refine ⟨i, hi, ?_⟩; rw [stepE_at hs hx hi]; split <;> omega
theorem meets_all (l : List Mail) (hl : ∀ x ∈ l, okM x = true) : ∀ {s t : List Int}, s.length = 10 → t.length = 10 → (meets (l.foldl stepE s) t ↔ meets s (l.foldr stepL t)) := by
  induction l with
  | nil => intro s t _ _; exact Iff.rfl
  | cons x l ih =>
    intro s t hs ht
    rw [List.foldl_cons, List.foldr_cons, ih (fun y hy => hl y (List.mem_cons_of_mem _ hy)) (by rw [stepE_len, hs]) ht]
    exact meets_step hs (by rw [foldL_len, ht]) (hl x (List.mem_cons_self ..))
/-- no minute falls below the first, and none rises -/
theorem foldE_low (l : List Mail) (hl : ∀ x ∈ l, okM x = true) {m : Int} : ∀ {s : List Int}, s.length = 10 → (∀ i, 0 ≤ i ∧ i ≤ 9 → m ≤ at_ s i) → ∀ i, 0 ≤ i ∧ i ≤ 9 → m ≤ at_ (l.foldl stepE s) i := by
  induction l with
  | nil => intro s _ h; exact h
  | cons x l ih =>
    intro s hs h
    rw [List.foldl_cons]
    refine ih (fun y hy => hl y (List.mem_cons_of_mem _ hy)) (by rw [stepE_len, hs]) (fun i hi => ?_)
    have hx := hl x (List.mem_cons_self ..)
    have hm := okM_of hx
    rw [stepE_at hs hx hi]
    have h1 := h i hi
    have h2 := h x.from_ hm.1
    split <;> omega
theorem foldE_up (l : List Mail) (hl : ∀ x ∈ l, okM x = true) {i : Int} (hi : 0 ≤ i ∧ i ≤ 9) : ∀ {s : List Int}, s.length = 10 → at_ (l.foldl stepE s) i ≤ at_ s i := by
  induction l with
  | nil => intro s _; exact Int.le_refl _
  | cons x l ih =>
    intro s hs
    rw [List.foldl_cons]
    refine Int.le_trans (ih (fun y hy => hl y (List.mem_cons_of_mem _ hy)) (by rw [stepE_len, hs])) ?_
    rw [stepE_at hs (hl x (List.mem_cons_self ..)) hi]
    split <;> omega
theorem foldL_up (l : List Mail) (hl : ∀ x ∈ l, okM x = true) {i : Int} (hi : 0 ≤ i ∧ i ≤ 9) {t : List Int} (ht : t.length = 10) : at_ t i ≤ at_ (l.foldr stepL t) i := by
  induction l with
  | nil => exact Int.le_refl _
  | cons x l ih =>
    rw [List.foldr_cons, stepL_at (by rw [foldL_len, ht]) (hl x (List.mem_cons_self ..)) hi]
    have := ih (fun y hy => hl y (List.mem_cons_of_mem _ hy))
    split <;> omega
theorem foldL_top (l : List Mail) (hl : ∀ x ∈ l, okM x = true) {B : Int} (hB : ∀ x ∈ l, x.leave ≤ B) {i : Int} (hi : 0 ≤ i ∧ i ≤ 9) {t : List Int} (ht : t.length = 10) : at_ (l.foldr stepL t) i ≤ max (at_ t i) B := by
  induction l with
  | nil => simp only [List.foldr_nil]; omega
  | cons x l ih =>
    rw [List.foldr_cons, stepL_at (by rw [foldL_len, ht]) (hl x (List.mem_cons_self ..)) hi]
    have h1 := ih (fun y hy => hl y (List.mem_cons_of_mem _ hy)) (fun y hy => hB y (List.mem_cons_of_mem _ hy))
    have h2 := hB x (List.mem_cons_self ..)
    split <;> omega
theorem early_low {l : List Mail} (hg : goodM l = true) {o m i : Int} (ho : 0 ≤ o ∧ o ≤ 9) (hm : m ≤ 9999) (hi : 0 ≤ i ∧ i ≤ 9) : m ≤ at_ (earlyM l o m) i :=
  foldE_low l (fun x hx => m_mem hg hx) (startE_len o m) (fun j hj => by rw [startE_at ho hj]; split <;> omega) i hi
theorem early_up {l : List Mail} (hg : goodM l = true) {o m i : Int} (ho : 0 ≤ o ∧ o ≤ 9) (hi : 0 ≤ i ∧ i ≤ 9) : at_ (earlyM l o m) i ≤ if i = o then m else 10000 := by
  have := foldE_up l (fun x hx => m_mem hg hx) hi (startE_len o m)
  rw [startE_at ho hi] at this; exact this
theorem early_top {l : List Mail} (hg : goodM l = true) {o m i : Int} (ho : 0 ≤ o ∧ o ≤ 9) (hm : m ≤ 9999) (hi : 0 ≤ i ∧ i ≤ 9) : at_ (earlyM l o m) i ≤ 10000 := by
  have := early_up hg (m := m) ho hi
  split at this <;> omega
theorem late_top {l : List Mail} (hg : goodM l = true) {o m i : Int} (ho : 0 ≤ o ∧ o ≤ 9) (hm : m ≤ 9999) (hi : 0 ≤ i ∧ i ≤ 9) : at_ (lateM l o m) i ≤ 9999 := by
  have := foldL_top l (fun x hx => m_mem hg hx) (B := 9999) (fun x hx => by have := okM_of (m_mem hg hx); omega) hi (startL_len o m)
  rw [startL_at ho hi] at this
  unfold lateM; split at this <;> omega
/-- one comes in time exactly if one is not later than the latest minute -/
theorem dual {l : List Mail} (hg : goodM l = true) {o m p b : Int} (ho : 0 ≤ o ∧ o ≤ 9) (hp : 0 ≤ p ∧ p ≤ 9) (hm : 0 ≤ m ∧ m ≤ 9999) (hb : b ≤ 9999) : at_ (earlyM l o m) p ≤ b ↔ m ≤ at_ (lateM l p b) o := by
  have h := meets_all l (fun x hx => m_mem hg hx) (startE_len o m) (startL_len p b)
  constructor
  · intro h1
    obtain ⟨i, hi, h2⟩ := h.1 ⟨p, hp, by rw [startL_at hp hp, if_pos rfl]; exact h1⟩
    rw [startE_at ho hi] at h2
    split at h2
    · rename_i e; rw [e] at h2; exact h2
    · have := late_top hg hp hb hi
      unfold lateM at this; omega
  · intro h1
    obtain ⟨i, hi, h2⟩ := h.2 ⟨o, ho, by rw [startE_at ho ho, if_pos rfl]; exact h1⟩
    rw [startL_at hp hi] at h2
    split at h2
    · rename_i e; rw [e] at h2; exact h2
    · have := early_low hg ho hm.2 hi
      unfold earlyM at this; omega
end Go.Proofs.Ytfjcibkgbalkaaa.Q9Dual

/- Chapter 9: mails and routes: the plain functions of the program and of the reference agree, and the laws answer true. (Q9Cand) No condition but those of each theorem. -/
namespace Go.Proofs.Ytfjcibkgbalkaaa.Q9Cand
set_option linter.unusedVariables false
set_option linter.unusedSimpArgs false
open Go.RowKit
open Go.Proofs.Ytfjcibkgbalkaaa.GoP Go.Proofs.Ytfjcibkgbalkaaa.PlainStamp Go.Proofs.Ytfjcibkgbalkaaa.QBase Go.Proofs.Ytfjcibkgbalkaaa.Q9Dual Go.Proofs.Ytfjcibkgbalkaaa.Q9Arr Go.Proofs.Ytfjcibkgbalkaaa.Q9List Go.Proofs.Ytfjcibkgbalkaaa.Q9Mail Go.Proofs.Ytfjcibkgbalkaaa.QLoop Go.Proofs.Ytfjcibkgbalkaaa.PMail Go.Proofs.Ytfjcibkgbalkaaa.PIntA10

theorem split_at {l : List Mail} {k : Nat} {x : Mail} (h : l[k]? = some x) : l = l.take k ++ x :: l.drop (k + 1) := by
  obtain ⟨hk, e⟩ := List.getElem?_eq_some_iff.1 h
  rw [← e, ← List.drop_eq_getElem_cons hk, List.take_append_drop]
/-- those ahead of a mail leave no later -/
theorem aheadM {l : List Mail} (hg : goodM l = true) {k : Nat} {x : Mail} (hx : l[k]? = some x) : ∀ y ∈ l.take k, y.leave ≤ x.leave := by
  intro y hy
  obtain ⟨j, hj⟩ := List.getElem?_of_mem hy
  rw [List.getElem?_take] at hj
  split at hj
  · exact m_leave hg (by assumption) hj hx
  · exact absurd hj (by simp)
theorem late_cut {l : List Mail} {k : Nat} {x : Mail} (hx : l[k]? = some x) (p b : Int) : lateM l p b = (l.take k).foldr stepL (stepL x (lateM (l.drop (k + 1)) p b)) := by
  have h := split_at hx
  show l.foldr stepL (startL p b) = _
  conv => lhs; rw [h]
  rw [List.foldr_append, List.foldr_cons]; rfl
/-- whether one still comes in time behind a mail is told by those behind it alone -/
theorem late_behind {l : List Mail} (hg : goodM l = true) {k : Nat} {x : Mail} (hx : l[k]? = some x) (p b : Int) : x.arrive ≤ at_ (lateM l p b) x.to_ ↔ x.arrive ≤ at_ (lateM (l.drop (k + 1)) p b) x.to_ := by
  have hok := m_ok hg hx
  have hm := okM_of hok
  have hd := late_len (l.drop (k + 1)) p b
  have h1 : at_ (stepL x (lateM (l.drop (k + 1)) p b)) x.to_ = at_ (lateM (l.drop (k + 1)) p b) x.to_ := by
    rw [stepL_at hd hok hm.2.1, if_neg (fun q => hm.2.2.1 q.2.symm)]
  rw [late_cut hx p b]
  have hmem : ∀ y ∈ l.take k, okM y = true := fun y hy => m_mem hg (List.mem_of_mem_take hy)
  have h2 := foldL_up (l.take k) hmem hm.2.1 (t := stepL x (lateM (l.drop (k + 1)) p b)) (by rw [stepL_len, hd])
  have h3 := foldL_top (l.take k) hmem (aheadM hg hx) hm.2.1 (t := stepL x (lateM (l.drop (k + 1)) p b)) (by rw [stepL_len, hd])
  rw [h1] at h2 h3
  constructor
  · intro h; omega
  · intro h; omega
theorem late_from {l : List Mail} (hg : goodM l = true) {k : Nat} {x : Mail} (hx : l[k]? = some x) {p b : Int} (h : x.arrive ≤ at_ (lateM l p b) x.to_) : x.leave ≤ at_ (lateM l p b) x.from_ := by
  have hok := m_ok hg hx
  have hm := okM_of hok
  have hd := late_len (l.drop (k + 1)) p b
  have h1 := (late_behind hg hx p b).1 h
  rw [late_cut hx p b]
  have hmem : ∀ y ∈ l.take k, okM y = true := fun y hy => m_mem hg (List.mem_of_mem_take hy)
  refine Int.le_trans ?_ (foldL_up (l.take k) hmem hm.1 (by rw [stepL_len, hd]))
  rw [stepL_at hd hok hm.1, if_pos ⟨h1, rfl⟩]; omega
/-- with a mail one comes no earlier than without asking for it -/
theorem take_le {l : List Mail} (hg : goodM l = true) {k : Nat} {x : Mail} (hx : l[k]? = some x) {m p : Int} (hp : 0 ≤ p ∧ p ≤ 9) (hm : 0 ≤ m ∧ m ≤ x.leave) : at_ (earlyM l x.from_ m) p ≤ at_ (earlyM l x.to_ x.arrive) p := by
  have ho := okM_of (m_ok hg hx)
  obtain ⟨b, hb⟩ : ∃ b, b = at_ (earlyM l x.to_ x.arrive) p := ⟨_, rfl⟩
  rw [← hb]
  by_cases h : b ≤ 9999
  · have h1 := (dual hg ho.2.1 hp (by omega) h).1 (Int.le_of_eq hb.symm)
    have h2 := late_from hg hx h1
    exact (dual hg ho.1 hp (by omega) h).2 (by omega)
  · have := early_top hg (m := m) ho.1 (by omega) hp; omega
/-- where one may be later than at first, some mail leads on -/
theorem late_some (l : List Mail) (hl : ∀ x ∈ l, okM x = true) {p b o m : Int} (hp : 0 ≤ p ∧ p ≤ 9) (ho : 0 ≤ o ∧ o ≤ 9) (h0 : at_ (startL p b) o < m) (h : m ≤ at_ (lateM l p b) o) : ∃ x ∈ l, x.from_ = o ∧ m ≤ x.leave ∧ x.arrive ≤ at_ (lateM l p b) x.to_ := by
  induction l with
  | nil => exact absurd h (by simp only [lateM, List.foldr_nil]; omega)
  | cons x l ih =>
    have hok := hl x (List.mem_cons_self ..)
    have hm := okM_of hok
    have hlen := late_len l p b
    have e : lateM (x :: l) p b = stepL x (lateM l p b) := rfl
    by_cases h1 : m ≤ at_ (lateM l p b) o
    · obtain ⟨y, hy, h2, h3, h4⟩ := ih (fun y hy => hl y (List.mem_cons_of_mem _ hy)) h1
      refine ⟨y, List.mem_cons_of_mem _ hy, h2, h3, Int.le_trans h4 ?_⟩
      rw [e, stepL_at hlen hok (okM_of (hl y (List.mem_cons_of_mem _ hy))).2.1]
      split <;> omega
    · rw [e, stepL_at hlen hok ho] at h
      split at h
      · rename_i hc
        refine ⟨x, List.mem_cons_self .., hc.2.symm, by omega, ?_⟩
        rw [e, stepL_at hlen hok hm.2.1, if_neg (fun q => hm.2.2.1 q.2.symm)]
        exact hc.1
      · exact absurd h h1
/-- a mail that leads on from an office at a minute -/
def cand (l : List Mail) (p e o m : Int) (x : Mail) : Bool := decide (x.from_ = o ∧ m ≤ x.leave ∧ x.arrive ≤ at_ (lateM l p e) x.to_)
theorem cand_iff {l : List Mail} (hg : goodM l = true) {p e o m : Int} (hp : 0 ≤ p ∧ p ≤ 9) (hm : 0 ≤ m) (he : e ≤ 9999) (hE : at_ (earlyM l o m) p = e) {k : Nat} {x : Mail} (hx : l[k]? = some x) :
    cand l p e o m x = decide (x.from_ = o ∧ m ≤ x.leave ∧ at_ (earlyM l x.to_ x.arrive) p = e) := by
  have h1 := okM_of (m_ok hg hx)
  unfold cand
  congr 1
  rw [eq_iff_iff]
  constructor
  · rintro ⟨rfl, h3, h4⟩
    have h5 := (dual hg h1.2.1 hp (by omega) he).2 h4
    have h6 := take_le hg hx hp ⟨hm, h3⟩
    exact ⟨rfl, h3, by omega⟩
  · rintro ⟨h2, h3, h4⟩
    exact ⟨h2, h3, (dual hg h1.2.1 hp (by omega) he).1 (Int.le_of_eq h4)⟩
theorem cand_none {l : List Mail} (hg : goodM l = true) {p e o m : Int} (hp : 0 ≤ p ∧ p ≤ 9) (ho : 0 ≤ o ∧ o ≤ 9) (hm : 0 ≤ m) (he : e ≤ 9999) (hE : at_ (earlyM l o m) p = e) (hm9 : m ≤ 9999) :
    (∀ x ∈ l, cand l p e o m x = false) ↔ o = p ∧ m = e := by
  constructor
  · intro h
    have h1 := (dual hg ho hp ⟨hm, hm9⟩ he).1 (Int.le_of_eq hE)
    have hup := early_up hg (m := m) ho hp
    have hlow := early_low hg ho hm9 hp
    by_cases hop : o = p
    · rw [if_pos hop.symm] at hup; exact ⟨hop, by omega⟩
    · obtain ⟨x, hx, h2, h3, h4⟩ := late_some l (fun x hx => m_mem hg hx) hp ho (m := m) (by rw [startL_at hp ho, if_neg hop]; omega) h1
      have := h x hx
      unfold cand at this
      rw [decide_eq_true (show x.from_ = o ∧ m ≤ x.leave ∧ x.arrive ≤ at_ (lateM l p e) x.to_ from ⟨h2, h3, h4⟩)] at this
      exact absurd this (by simp)
  · rintro ⟨rfl, rfl⟩ x hx
    obtain ⟨k, hk⟩ := List.getElem?_of_mem hx
    have h1 := okM_of (m_mem hg hx)
    rw [cand_iff hg hp hm he hE hk, decide_eq_false]
    rintro ⟨h2, h3, h4⟩
    have := early_low hg h1.2.1 (m := x.arrive) (by omega) hp
    omega
end Go.Proofs.Ytfjcibkgbalkaaa.Q9Cand

/- Loops that test each place, and loops without a count. No condition. -/
namespace Go.Proofs.Ytfjcibkgbalkaaa.QAll
set_option linter.unusedVariables false
set_option linter.unusedSimpArgs false
open Go.RowKit
open Go.Proofs.Ytfjcibkgbalkaaa.GoP Go.Proofs.Ytfjcibkgbalkaaa.QBase Go.Proofs.Ytfjcibkgbalkaaa.QLoop

/-- each number below n is good -/
def allN (n : Nat) (p : Nat → Bool) : Bool := (List.range n).all p
theorem allN_iff {n : Nat} {p : Nat → Bool} : allN n p = true ↔ ∀ i, i < n → p i = true := by unfold allN; simp
theorem allN_no {n k : Nat} {p : Nat → Bool} (hk : k < n) (h : p k = false) : allN n p = false := by
  rw [Bool.eq_false_iff]; intro ha; rw [allN_iff.1 ha k hk] at h; exact absurd h (by simp)
theorem allN_eq {n m : Nat} {p q : Nat → Bool} (h : (∀ i, i < n → p i = true) ↔ (∀ i, i < m → q i = true)) : allN n p = allN m q := by
  rw [Bool.eq_iff_iff, allN_iff, allN_iff]; exact h
theorem all_cnt {ρ : Type} {n : Nat} {p : Nat → Bool} {no : ρ} {f : Nat → Unit → (Unit → Option ρ) → (Unit → Option ρ) → Option ρ} {fin : Unit → Option ρ}
    (step : ∀ k nx, k < n → (p k = false → f k () nx fin = some no) ∧ (p k = true → f k () nx fin = nx ())) : cntK f n 0 () fin = if allN n p = true then fin () else some no := by
  have key : ∀ m k, k + m = n → (∀ i, i < k → p i = true) → cntK f m k () fin = if allN n p = true then fin () else some no := by
    intro m
    induction m with
    | zero => intro k hk hu; obtain rfl : k = n := by omega
              rw [allN_iff.2 hu]; rfl
    | succ m ih =>
      intro k hk hu
      obtain ⟨h1, h2⟩ := step k (fun s' => cntK f m (k + 1) s' fin) (by omega)
      show f k () _ fin = _
      cases hp : p k with
      | false => rw [h1 hp, allN_no (by omega) hp]; rfl
      | true =>
        rw [h2 hp]
        refine ih (k + 1) (by omega) (fun i hi => ?_)
        by_cases he : i = k
        · rw [he]; exact hp
        · exact hu i (by omega)
  exact key n 0 (by omega) (fun i hi => by omega)
theorem lp_ex {σ ρ : Type} {f : σ → (σ → Option ρ) → (σ → Option ρ) → Option ρ} {fin : σ → Option ρ} {Q : ρ → Prop} {n : Nat} (I : Nat → σ → Prop)
    (step : ∀ k s nx, k < n → I k s → (∀ s', I (k + 1) s' → ∃ r, nx s' = some r ∧ Q r) → ∃ r, f s nx fin = some r ∧ Q r) (done : ∀ s nx, I n s → ∃ r, f s nx fin = some r ∧ Q r) :
    ∀ fuel k s, k ≤ n → n - k < fuel → I k s → ∃ r, loopK f fuel s fin = some r ∧ Q r := by
  intro fuel
  induction fuel with
  | zero => intro k s hk hf; omega
  | succ m ih =>
    intro k s hk hf hI
    show ∃ r, f s _ fin = some r ∧ Q r
    by_cases he : k = n
    · subst he; exact done s _ hI
    · exact step k s _ (by omega) hI (fun s' h' => ih (k + 1) s' (by omega) (by omega) h')
theorem all_lp {ρ : Type} {n : Nat} {p : Nat → Bool} {no : ρ} {f : Int → (Int → Option ρ) → (Int → Option ρ) → Option ρ} {fin : Int → Option ρ}
    (step : ∀ (k : Nat) nx, k < n → (p k = false → f (k : Int) nx fin = some no) ∧ (p k = true → f (k : Int) nx fin = nx ((k + 1 : Nat) : Int))) (stop : ∀ nx, f (n : Int) nx fin = fin (n : Int))
    (fuel : Nat) (hf : n < fuel) : loopK f fuel 0 fin = if allN n p = true then fin (n : Int) else some no := by
  have key : ∀ fuel k, k ≤ n → n - k < fuel → (∀ i, i < k → p i = true) → loopK f fuel (k : Int) fin = if allN n p = true then fin (n : Int) else some no := by
    intro fuel
    induction fuel with
    | zero => intro k hk hf; omega
    | succ m ih =>
      intro k hk hf hu
      show f (k : Int) _ fin = _
      by_cases he : k = n
      · subst he; rw [stop, allN_iff.2 hu]; rfl
      · obtain ⟨h1, h2⟩ := step k (fun s' => loopK f m s' fin) (by omega)
        cases hp : p k with
        | false => rw [h1 hp, allN_no (by omega) hp]; rfl
        | true =>
          rw [h2 hp]
          refine ih (k + 1) (by omega) (by omega) (fun i hi => ?_)
          by_cases he : i = k
          · rw [he]; exact hp
          · exact hu i (by omega)
  exact key fuel 0 (by omega) (by omega) (fun i hi => by omega)
theorem next_i {k : Nat} (h : k ≤ 9223372036854775806) : IntKind.i64.wrap ((k : Int) + 1) = ((k + 1 : Nat) : Int) := by rw [wrap_in (by omega) (by omega)]; omega
end Go.Proofs.Ytfjcibkgbalkaaa.QAll

/- Rising rows: what a rising row gives; loops that sum; loops from one on. No condition. -/
namespace Go.Proofs.Ytfjcibkgbalkaaa.QUp
set_option linter.unusedVariables false
set_option linter.unusedSimpArgs false
open Go.RowKit
open Go.Proofs.Ytfjcibkgbalkaaa.GoP Go.Proofs.Ytfjcibkgbalkaaa.QBase Go.Proofs.Ytfjcibkgbalkaaa.QLoop Go.Proofs.Ytfjcibkgbalkaaa.QAll

theorem upTo_at {α : Type} {ok : α → Bool} {id : α → Int} {l : List α} {n : Nat} (h : upTo ok id l n = true) {k : Nat} (hk : k < n) : upAt ok id l k = true := List.all_eq_true.1 h k (List.mem_range.2 hk)
theorem upTo_ok {α : Type} {ok : α → Bool} {id : α → Int} {l : List α} {n : Nat} (h : upTo ok id l n = true) {k : Nat} (hk : k < n) {x : α} (hx : l[k]? = some x) : ok x = true := by
  have := upTo_at h hk
  unfold upAt at this
  rw [hx] at this
  simp only [Bool.and_eq_true] at this
  exact this.1
theorem upTo_step {α : Type} {ok : α → Bool} {id : α → Int} {l : List α} {n : Nat} (h : upTo ok id l n = true) {k : Nat} (hk : k + 1 < n) {x y : α} (hx : l[k]? = some x) (hy : l[k + 1]? = some y) : id x < id y := by
  have := upTo_at h hk
  unfold upAt at this
  rw [hy] at this
  simp only [Nat.add_sub_cancel, hx, Bool.and_eq_true, Bool.or_eq_true, decide_eq_true_eq] at this
  rcases this.2 with h0 | h0
  · omega
  · exact h0
theorem upTo_lt {α : Type} {ok : α → Bool} {id : α → Int} {l : List α} {n : Nat} (h : upTo ok id l n = true) (hn : n ≤ l.length) {i : Nat} : ∀ d {x y : α}, i + d + 1 < n → l[i]? = some x → l[i + d + 1]? = some y → id x < id y := by
  intro d
  induction d with
  | zero => intro x y hk hx hy; exact upTo_step h hk hx hy
  | succ d ih =>
    intro x y hk hx hy
    obtain ⟨z, hz, _⟩ := at_lt (l := l) (k := i + d + 1) (by omega)
    have h1 := ih (by omega) hx hz
    have h2 := upTo_step (k := i + d + 1) h (by omega) hz (by rw [← hy]; rfl)
    omega
/-- rising numbers: the later one is greater -/
theorem up_less {α : Type} {ok : α → Bool} {id : α → Int} {l : List α} (h : upTo ok id l l.length = true) {i j : Nat} {x y : α} (hij : i < j) (hx : l[i]? = some x) (hy : l[j]? = some y) : id x < id y := by
  have hj := (List.getElem?_eq_some_iff.1 hy).1
  exact upTo_lt h (Nat.le_refl _) (j - i - 1) (by omega) hx (by rw [← hy]; congr 1; omega)
/-- a loop with fuel, from k on, by an invariant -/
theorem lp_is {σ ρ : Type} {f : σ → (σ → Option ρ) → (σ → Option ρ) → Option ρ} {fin : σ → Option ρ} {n : Nat} (r : ρ) (I : Nat → σ → Prop)
    (step : ∀ k s nx, k < n → I k s → (∀ s', I (k + 1) s' → nx s' = some r) → f s nx fin = some r) (done : ∀ s nx, I n s → f s nx fin = some r) (fuel : Nat) (k : Nat) (s : σ) (hk : k ≤ n) (hf : n - k < fuel) (hI : I k s) : loopK f fuel s fin = some r := by
  obtain ⟨r', h, rfl⟩ := lp_ex (Q := fun x => x = r) I (fun k s nx hk hI hn => ⟨r, step k s nx hk hI (fun s' h' => by obtain ⟨_, h, rfl⟩ := hn s' h'; exact h), rfl⟩) (fun s nx h => ⟨r, done s nx h, rfl⟩) fuel k s hk hf hI
  exact h
theorem most_eq (a b : Int) (h : (if b < a then a else b) = max a b := by omega) : (if b < a then a else b) = max a b := h
end Go.Proofs.Ytfjcibkgbalkaaa.QUp

/- Chapter 9: mails and routes: the plain functions of the program and of the reference agree, and the laws answer true. (Q9Late) No condition but those of each theorem. -/
namespace Go.Proofs.Ytfjcibkgbalkaaa.Q9Late
set_option linter.unusedVariables false
set_option linter.unusedSimpArgs false
open Go.RowKit
open Go.Proofs.Ytfjcibkgbalkaaa.GoP Go.Proofs.Ytfjcibkgbalkaaa.PlainStamp Go.Proofs.Ytfjcibkgbalkaaa.QBase Go.Proofs.Ytfjcibkgbalkaaa.QFoldS Go.Proofs.Ytfjcibkgbalkaaa.Q9Cand Go.Proofs.Ytfjcibkgbalkaaa.Q9Dual Go.Proofs.Ytfjcibkgbalkaaa.Q9Arr Go.Proofs.Ytfjcibkgbalkaaa.Q9List Go.Proofs.Ytfjcibkgbalkaaa.Q9Mail Go.Proofs.Ytfjcibkgbalkaaa.QUp Go.Proofs.Ytfjcibkgbalkaaa.QAll Go.Proofs.Ytfjcibkgbalkaaa.QLoop Go.Proofs.Ytfjcibkgbalkaaa.PMail Go.Proofs.Ytfjcibkgbalkaaa.PIntA10 Go.Proofs.Ytfjcibkgbalkaaa.GoA

theorem latest_eq {fuel : Nat} {l : List Mail} (hg : goodM l = true) {p : Int} (hp : 0 ≤ p ∧ p ≤ 9) (b : Int) (hf : 20 < fuel) : GiLatestMinutes.P fuel l p b = some (toA (lateM l p b)) := by
  have hlen := m_len hg
  simp only [GiLatestMinutes.P, filled_eq, Option.bind_some, un_eq, letK]
  rw [ten (by simp), idx_at (by simp) hp, Option.bind_some, wrap_in (by omega) (by omega)]
  refine lp_is (n := l.length) _ (fun k (s : List Int × Int) => s = (lateM (l.drop (l.length - k)) p b, (l.length : Int) - 1 - (k : Int))) ?_ ?_ fuel 0 _ (by omega) (by omega) ?_
  · intro k s nx hk hI hn
    subst hI
    have hq : l.length - k - 1 < l.length := by omega
    have hx : l[l.length - k - 1]? = some l[l.length - k - 1] := List.getElem?_eq_getElem hq
    have hi : idx l ((l.length : Int) - 1 - (k : Int)) = some l[l.length - k - 1] := by
      rw [show (l.length : Int) - 1 - (k : Int) = ((l.length - k - 1 : Nat) : Int) by omega, idx_nat, hx]
    have hd : lateM (l.drop (l.length - (k + 1))) p b = stepL l[l.length - k - 1] (lateM (l.drop (l.length - k)) p b) := by
      unfold lateM
      rw [show l.length - (k + 1) = l.length - k - 1 by omega, List.drop_eq_getElem_cons hq, List.foldr_cons, show l.length - k - 1 + 1 = l.length - k by omega]
    have hok := okM_of (m_ok hg hx)
    have h0 : (0 : Int) ≤ (l.length : Int) - 1 - (k : Int) := by omega
    simp only [GiLatestMinutes.l0, unp2_mk, letK, decide_eq_true h0, iteK_if, if_true, hi, Option.bind_some]
    have hn2 := hn (stepL l[l.length - k - 1] (lateM (l.drop (l.length - k)) p b), (l.length : Int) - 1 - (k : Int) - 1) (by rw [hd]; congr 1; omega)
    revert hok hn2
    generalize l[l.length - k - 1] = x
    intro hok hn2
    obtain ⟨c, d, e, g⟩ := x
    dsimp only at hok
    simp only [unMail, idx_at (late_len _ p b) hok.2.1, idx_at (late_len _ p b) hok.1, Option.bind_some]
    rw [wrap_in (by omega) (by omega)]
    unfold stepL at hn2
    dsimp only at hn2
    by_cases h : g ≤ at_ (lateM (l.drop (l.length - k)) p b) e
    · rw [if_pos h] at hn2; rw [if_pos (by simpa using h)]; exact hn2
    · rw [if_neg h] at hn2; rw [if_neg (by simpa using h)]; exact hn2
  · intro s nx hI
    subst hI
    have h0 : ¬ (0 : Int) ≤ (l.length : Int) - 1 - (l.length : Int) := by omega
    simp only [GiLatestMinutes.l0, unp2_mk, letK, decide_eq_false h0, iteK_if, Bool.false_eq_true, if_false, appK, GiLatestMinutes.e0, Nat.sub_self, List.drop_zero]
    rfl
  · simp [lateM]; rfl
end Go.Proofs.Ytfjcibkgbalkaaa.Q9Late

/- loop.example/g01062/impl.earliestMinutes as a plain function, and the contract of the program's: where the plain one has an answer, the program has it. Conditions: slices read as lists. -/
namespace Go.Proofs.Ytfjcibkgbalkaaa.GiEarliestMinutes
set_option linter.unusedVariables false
set_option linter.unusedSimpArgs false
open Go.RowKit
open Go.Proofs.Ytfjcibkgbalkaaa.Rowed Go.Proofs.Ytfjcibkgbalkaaa.Turn Go.Proofs.Ytfjcibkgbalkaaa.Aid Go.Proofs.Ytfjcibkgbalkaaa.GoP Go.Proofs.Ytfjcibkgbalkaaa.GoM

def l0 (list : (List Go.Proofs.Ytfjcibkgbalkaaa.PMail.Mail)) (k0 : Nat) (s : (List Int)) (nx0 bk0 : (List Int) → Option (Go.Proofs.Ytfjcibkgbalkaaa.PIntA10.IntA10)) : Option (Go.Proofs.Ytfjcibkgbalkaaa.PIntA10.IntA10) :=
  letK s fun earliest_7l0 =>
  Option.bind (idx list (k0 : Int)) fun (yt_12 : Go.Proofs.Ytfjcibkgbalkaaa.PMail.Mail) =>
  unMail yt_12 fun (t_12_leave : Int) (t_12_from_ : Int) (t_12_to_ : Int) (t_12_arrive : Int) =>
  Option.bind (idx earliest_7l0 t_12_from_) fun (yt_18 : Int) =>
  letK (decide (yt_18 ≤ t_12_leave)) fun (t_22 : Bool) =>
  iteK t_22
  (Option.bind (idx earliest_7l0 t_12_to_) fun (yt_27 : Int) =>
  letK (min yt_27 t_12_arrive) fun (t_31 : Int) =>
  Option.bind (idx earliest_7l0 t_12_to_) fun (yt_32 : Int) =>
  letK (earliest_7l0.set (t_12_to_).toNat t_31) fun (l33_33 : (List Int)) =>
  appK nx0 (l33_33))
  (appK nx0 (earliest_7l0))

def e0  (s : (List Int)) : Option (Go.Proofs.Ytfjcibkgbalkaaa.PIntA10.IntA10) :=
  letK s fun earliest_7l0 =>
  some (Go.Proofs.Ytfjcibkgbalkaaa.PIntA10.IntA10.mk (Go.Proofs.Ytfjcibkgbalkaaa.GoA.nth earliest_7l0 0) (Go.Proofs.Ytfjcibkgbalkaaa.GoA.nth earliest_7l0 1) (Go.Proofs.Ytfjcibkgbalkaaa.GoA.nth earliest_7l0 2) (Go.Proofs.Ytfjcibkgbalkaaa.GoA.nth earliest_7l0 3) (Go.Proofs.Ytfjcibkgbalkaaa.GoA.nth earliest_7l0 4) (Go.Proofs.Ytfjcibkgbalkaaa.GoA.nth earliest_7l0 5) (Go.Proofs.Ytfjcibkgbalkaaa.GoA.nth earliest_7l0 6) (Go.Proofs.Ytfjcibkgbalkaaa.GoA.nth earliest_7l0 7) (Go.Proofs.Ytfjcibkgbalkaaa.GoA.nth earliest_7l0 8) (Go.Proofs.Ytfjcibkgbalkaaa.GoA.nth earliest_7l0 9))

def P (list : (List Go.Proofs.Ytfjcibkgbalkaaa.PMail.Mail)) (from_1 : Int) (minute : Int) : Option (Go.Proofs.Ytfjcibkgbalkaaa.PIntA10.IntA10) :=
  Option.bind (Go.Proofs.Ytfjcibkgbalkaaa.GiFilledWith.P 10000) fun (t_1 : Go.Proofs.Ytfjcibkgbalkaaa.PIntA10.IntA10) =>
  unIntA10 t_1 fun (t_1_x0 : Int) (t_1_x1 : Int) (t_1_x2 : Int) (t_1_x3 : Int) (t_1_x4 : Int) (t_1_x5 : Int) (t_1_x6 : Int) (t_1_x7 : Int) (t_1_x8 : Int) (t_1_x9 : Int) =>
  letK ([t_1_x0, t_1_x1, t_1_x2, t_1_x3, t_1_x4, t_1_x5, t_1_x6, t_1_x7, t_1_x8, t_1_x9]) fun (vearliest_2 : (List Int)) =>
  Option.bind (idx vearliest_2 from_1) fun (yt_6 : Int) =>
  letK (vearliest_2.set (from_1).toNat minute) fun (l7_7 : (List Int)) =>
  cntK (l0 list) (list.length) 0 (l7_7) (e0 )

set_option maxRecDepth 100000 in
set_option maxHeartbeats 2000000 in
theorem C (list : (List Go.Proofs.Ytfjcibkgbalkaaa.PMail.Mail)) (from_1 : Int) (minute : Int) (A0 : Option Addr) (c0 : Nat)  (w : World) (M0 : Hid (Cells w 4 A0 list.length (Go.Proofs.Ytfjcibkgbalkaaa.PMail.flat list))) (N0 : Hid (list.length ≤ 9223372036854775807))  {r : Go.Proofs.Ytfjcibkgbalkaaa.PIntA10.IntA10} (H : Hid (P list from_1 minute = some r)) :
    Calls Try.prog 98 #[.slice A0 list.length c0, .int .i64 from_1, .int .i64 minute] w (Gives ((Go.Proofs.Ytfjcibkgbalkaaa.PIntA10.IntA10.val r)) w) := by
  have HB := Lib.hid (Below.refl w.heap.size w)
  unfold P at H
  have N0o := N0.out
  go_enter Try.func98, Try.ntmps98
  obtain ⟨w_t_0, hw_t_0⟩ : ∃ x, w.alloc (.cells #[.int .i64 0, .int .i64 0, .int .i64 0, .int .i64 0, .int .i64 0, .int .i64 0, .int .i64 0, .int .i64 0, .int .i64 0, .int .i64 0] 92) = x := ⟨_, rfl⟩
  have bw_t_0 : Below w.heap.size w w_t_0 := by rw [← hw_t_0]; exact (Below.refl _ _).alloc (Nat.le_refl _) _
  have HBw_t_0 := Lib.hid (Below.step HB.out bw_t_0)
  clear bw_t_0
  have kt_0_0 : w_t_0.cell? ⟨w.heap.size, 0, none⟩ = some (.int .i64 0) := by rw [← hw_t_0]; exact box_new _ _ _ 0 _ rfl
  have kt_0_1 : w_t_0.cell? ⟨w.heap.size, 1, none⟩ = some (.int .i64 0) := by rw [← hw_t_0]; exact box_new _ _ _ 1 _ rfl
  have kt_0_2 : w_t_0.cell? ⟨w.heap.size, 2, none⟩ = some (.int .i64 0) := by rw [← hw_t_0]; exact box_new _ _ _ 2 _ rfl
  have kt_0_3 : w_t_0.cell? ⟨w.heap.size, 3, none⟩ = some (.int .i64 0) := by rw [← hw_t_0]; exact box_new _ _ _ 3 _ rfl
  have kt_0_4 : w_t_0.cell? ⟨w.heap.size, 4, none⟩ = some (.int .i64 0) := by rw [← hw_t_0]; exact box_new _ _ _ 4 _ rfl
  have kt_0_5 : w_t_0.cell? ⟨w.heap.size, 5, none⟩ = some (.int .i64 0) := by rw [← hw_t_0]; exact box_new _ _ _ 5 _ rfl
  have kt_0_6 : w_t_0.cell? ⟨w.heap.size, 6, none⟩ = some (.int .i64 0) := by rw [← hw_t_0]; exact box_new _ _ _ 6 _ rfl
  have kt_0_7 : w_t_0.cell? ⟨w.heap.size, 7, none⟩ = some (.int .i64 0) := by rw [← hw_t_0]; exact box_new _ _ _ 7 _ rfl
  have kt_0_8 : w_t_0.cell? ⟨w.heap.size, 8, none⟩ = some (.int .i64 0) := by rw [← hw_t_0]; exact box_new _ _ _ 8 _ rfl
  have kt_0_9 : w_t_0.cell? ⟨w.heap.size, 9, none⟩ = some (.int .i64 0) := by rw [← hw_t_0]; exact box_new _ _ _ 9 _ rfl
  have Ot_0 : Hid (w_t_0.ownsRow w.heap.size 92 10 (.slice (some ⟨w.heap.size, 0, none⟩) 1 1) 1 [.int .i64 0, .int .i64 0, .int .i64 0, .int .i64 0, .int .i64 0, .int .i64 0, .int .i64 0, .int .i64 0, .int .i64 0, .int .i64 0]) := Lib.hid (by rw [← hw_t_0]; exact own_laid (n := 1) HB.out.size rfl rfl (by unfold maxLen; omega))
  replace H := bind_hid H
  obtain ⟨t_1, qt_1, H⟩ := H
  obtain ⟨t_1_x0, t_1_x1, t_1_x2, t_1_x3, t_1_x4, t_1_x5, t_1_x6, t_1_x7, t_1_x8, t_1_x9⟩ := t_1
  replace H := unIntA10_hid H
  go_wp2_with fail
  go_at_call 115
  refine (Go.Proofs.Ytfjcibkgbalkaaa.GiFilledWith.C (10000)  _    qt_1).mono ?_
  rintro e_t_1 wt_1 ⟨rfl, bt_1⟩
  unfold Go.Proofs.Ytfjcibkgbalkaaa.PIntA10.IntA10.val
  have HBwt_1 := Lib.hid (Below.step HBw_t_0.out bt_1)
  replace kt_0_0 := cell_below bt_1 kt_0_0
  replace kt_0_1 := cell_below bt_1 kt_0_1
  replace kt_0_2 := cell_below bt_1 kt_0_2
  replace kt_0_3 := cell_below bt_1 kt_0_3
  replace kt_0_4 := cell_below bt_1 kt_0_4
  replace kt_0_5 := cell_below bt_1 kt_0_5
  replace kt_0_6 := cell_below bt_1 kt_0_6
  replace kt_0_7 := cell_below bt_1 kt_0_7
  replace kt_0_8 := cell_below bt_1 kt_0_8
  replace kt_0_9 := cell_below bt_1 kt_0_9
  replace Ot_0 := Lib.hid (own_below Ot_0.out bt_1)
  clear bt_1
  replace H := let_hid H
  obtain ⟨vearliest_2, hvearliest_2, H⟩ := H
  obtain ⟨w_earliest_2, hw_earliest_2⟩ : ∃ x, wt_1.alloc (.cells #[.int .i64 t_1_x0, .int .i64 t_1_x1, .int .i64 t_1_x2, .int .i64 t_1_x3, .int .i64 t_1_x4, .int .i64 t_1_x5, .int .i64 t_1_x6, .int .i64 t_1_x7, .int .i64 t_1_x8, .int .i64 t_1_x9] 92) = x := ⟨_, rfl⟩
  have bw_earliest_2 : Below wt_1.heap.size wt_1 w_earliest_2 := by rw [← hw_earliest_2]; exact (Below.refl _ _).alloc (Nat.le_refl _) _
  have hs_earliest_2 := HBwt_1.out.size
  have nearliest_2 : vearliest_2.length = 10 := by rw [← hvearliest_2]; rfl
  have Oearliest_2 : Hid (w_earliest_2.ownsRow w.heap.size 92 1 (.slice (some ⟨wt_1.heap.size, 0, none⟩) 10 10) 10 (Go.Proofs.Ytfjcibkgbalkaaa.HelpInt.iv vearliest_2)) := by
    rw [← hw_earliest_2, ← hvearliest_2]
    have e_ : ([.int .i64 t_1_x0, .int .i64 t_1_x1, .int .i64 t_1_x2, .int .i64 t_1_x3, .int .i64 t_1_x4, .int .i64 t_1_x5, .int .i64 t_1_x6, .int .i64 t_1_x7, .int .i64 t_1_x8, .int .i64 t_1_x9] : List Value) = Go.Proofs.Ytfjcibkgbalkaaa.HelpInt.iv [t_1_x0, t_1_x1, t_1_x2, t_1_x3, t_1_x4, t_1_x5, t_1_x6, t_1_x7, t_1_x8, t_1_x9] := rfl
    exact Lib.hid (own_laid (n := 10) hs_earliest_2 e_ rfl (by unfold maxLen; omega))
  clear hs_earliest_2
  have hhearliest_2 := Lib.hid hvearliest_2
  clear hvearliest_2
  replace nearliest_2 := Lib.hid nearliest_2
  have Dearliest_2_t_0 := Lib.hid (apart_box kt_0_0)
  have HBw_earliest_2 := Lib.hid (Below.step HBwt_1.out bw_earliest_2)
  have kt_0_0__645 := cell_below bw_earliest_2 kt_0_0
  have kt_0_1__646 := cell_below bw_earliest_2 kt_0_1
  have kt_0_2__647 := cell_below bw_earliest_2 kt_0_2
  have kt_0_3__648 := cell_below bw_earliest_2 kt_0_3
  have kt_0_4__649 := cell_below bw_earliest_2 kt_0_4
  have kt_0_5__650 := cell_below bw_earliest_2 kt_0_5
  have kt_0_6__651 := cell_below bw_earliest_2 kt_0_6
  have kt_0_7__652 := cell_below bw_earliest_2 kt_0_7
  have kt_0_8__653 := cell_below bw_earliest_2 kt_0_8
  have kt_0_9__654 := cell_below bw_earliest_2 kt_0_9
  replace Ot_0 := Lib.hid (own_below Ot_0.out bw_earliest_2)
  clear bw_earliest_2
  replace H := idx_hid H
  obtain ⟨nt_6, yt_6, et_6, lt_6, gt_6, H⟩ := H
  subst et_6
  have hqt_6 := nearliest_2.out
  obtain ⟨ab_t_6, ao_t_6, zt_6, At_6, z_t_6, ct_6_0⟩ := Go.Proofs.Ytfjcibkgbalkaaa.HelpInt.Ints.at_ (own_cells Oearliest_2.out) (k := nt_6) (by omega)
  obtain rfl := Option.some.inj (gt_6.out.symm.trans z_t_6)
  simp only [Option.some.injEq, Addr.mk.injEq] at At_6
  obtain ⟨rfl, rfl, _⟩ := At_6
  clear z_t_6
  simp only [Nat.zero_add] at ct_6_0
  have b0t_6 : (0 : Int) ≤ (nt_6 : Int) := by omega
  have b1t_6 : (nt_6 : Int) < ((10 : Nat) : Int) := by omega
  have b2t_6 : ((nt_6 : Int)).toNat = nt_6 := by omega
  clear hqt_6
  have b3t_6 : nt_6 < 10 := by have h_ := lt_6; have hn_ := nearliest_2.out; omega
  have b4t_6 : (nt_6 : Int) < (10 : Int) := by omega
  replace H := let_hid H
  obtain ⟨l7_7, hl7_7, H⟩ := H
  try simp only [Int.toNat_natCast] at hl7_7
  obtain ⟨wl7_7, hwl7_7⟩ : ∃ x, (w_earliest_2).setCell ⟨wt_1.heap.size, nt_6, none⟩ (.int .i64 minute) = x := ⟨_, rfl⟩
  have z0l7_7 := Oearliest_2.out.frozenAt (nt_6)
  have Sl7_7 := Lib.hid (own_stores [(nt_6, .int .i64 minute)] Oearliest_2.out)
  have nl7_7 : Hid (l7_7.length = 10) := Lib.hid (by rw [← hl7_7, List.length_set]; exact nearliest_2.out)
  have Pl7_7 : Hid (wl7_7.ownsRow w.heap.size 92 1 (.slice (some ⟨wt_1.heap.size, 0, none⟩) 10 10) 10 (Go.Proofs.Ytfjcibkgbalkaaa.HelpInt.iv l7_7)) := Lib.hid (by have e_ : ([(nt_6, .int .i64 minute)] : List (Nat × Value)).foldl (fun xs p => xs.set p.1 p.2) (Go.Proofs.Ytfjcibkgbalkaaa.HelpInt.iv vearliest_2) = (Go.Proofs.Ytfjcibkgbalkaaa.HelpInt.iv l7_7) := (by rw [← hl7_7]; first | done | simp [Go.Proofs.Ytfjcibkgbalkaaa.HelpInt.iv, List.map_set]); rw [← hwl7_7, ← e_]; exact Sl7_7.out.1)
  have Gl7_7 : Hid (w_earliest_2.grownBy wl7_7 (Value.slice (some ⟨wt_1.heap.size, 0, none⟩) 10 10).ownBlock) := Lib.hid (by rw [← hwl7_7]; exact Sl7_7.out.2)
  have HBwl7_7 := Lib.hid (HBw_earliest_2.out.grown Gl7_7.out HBw_earliest_2.out.size (fun q hq => (Oearliest_2.out.lt q hq).1))
  have hhl7_7 := Lib.hid hl7_7
  clear hl7_7 Sl7_7
  have kt_0_0__655 := cell_other kt_0_0__645 Gl7_7.out Dearliest_2_t_0.out
  have kt_0_1__656 := cell_other kt_0_1__646 Gl7_7.out Dearliest_2_t_0.out
  have kt_0_2__657 := cell_other kt_0_2__647 Gl7_7.out Dearliest_2_t_0.out
  have kt_0_3__658 := cell_other kt_0_3__648 Gl7_7.out Dearliest_2_t_0.out
  have kt_0_4__659 := cell_other kt_0_4__649 Gl7_7.out Dearliest_2_t_0.out
  have kt_0_5__660 := cell_other kt_0_5__650 Gl7_7.out Dearliest_2_t_0.out
  have kt_0_6__661 := cell_other kt_0_6__651 Gl7_7.out Dearliest_2_t_0.out
  have kt_0_7__662 := cell_other kt_0_7__652 Gl7_7.out Dearliest_2_t_0.out
  have kt_0_8__663 := cell_other kt_0_8__653 Gl7_7.out Dearliest_2_t_0.out
  have kt_0_9__664 := cell_other kt_0_9__654 Gl7_7.out Dearliest_2_t_0.out
  replace Ot_0 := Lib.hid (own_other Ot_0.out Gl7_7.out Dearliest_2_t_0.out)
  clear Oearliest_2 Gl7_7
  go_wp2_with fail
  clear kt_0_0 kt_0_1 kt_0_2 kt_0_3 kt_0_4 kt_0_5 kt_0_6 kt_0_7 kt_0_8 kt_0_9 z0l7_7 kt_0_0__645 kt_0_1__646 kt_0_2__647 kt_0_3__648 kt_0_4__649 kt_0_5__650 kt_0_6__651 kt_0_7__652 kt_0_8__653 kt_0_9__654 ct_6_0
  go_wp2_with fail
  go_loopg [16] (list.length) (fun m_ v16_ wr => ∃ (k0 : Nat) (earliest_7l0 : (List Int)), k0 + m_ = list.length ∧ v16_ = .int .i64 (k0 : Int) ∧ Hid (cntK (l0 list) m_ k0 (earliest_7l0) (e0 ) = some r) ∧ Hid (Below w.heap.size w wr) ∧ wr.cell? ⟨w.heap.size, 0, none⟩ = some (.int .i64 0) ∧ wr.cell? ⟨w.heap.size, 1, none⟩ = some (.int .i64 0) ∧ wr.cell? ⟨w.heap.size, 2, none⟩ = some (.int .i64 0) ∧ wr.cell? ⟨w.heap.size, 3, none⟩ = some (.int .i64 0) ∧ wr.cell? ⟨w.heap.size, 4, none⟩ = some (.int .i64 0) ∧ wr.cell? ⟨w.heap.size, 5, none⟩ = some (.int .i64 0) ∧ wr.cell? ⟨w.heap.size, 6, none⟩ = some (.int .i64 0) ∧ wr.cell? ⟨w.heap.size, 7, none⟩ = some (.int .i64 0) ∧ wr.cell? ⟨w.heap.size, 8, none⟩ = some (.int .i64 0) ∧ wr.cell? ⟨w.heap.size, 9, none⟩ = some (.int .i64 0) ∧ Hid (wr.ownsRow w.heap.size 92 10 (.slice (some ⟨w.heap.size, 0, none⟩) 1 1) 1 [.int .i64 0, .int .i64 0, .int .i64 0, .int .i64 0, .int .i64 0, .int .i64 0, .int .i64 0, .int .i64 0, .int .i64 0, .int .i64 0]) ∧ Hid (wr.ownsRow w.heap.size 92 1 (.slice (some ⟨wt_1.heap.size, 0, none⟩) 10 10) 10 (Go.Proofs.Ytfjcibkgbalkaaa.HelpInt.iv earliest_7l0)) ∧ Hid (earliest_7l0.length = 10) ∧ Hid (Apart (some ⟨wt_1.heap.size, 0, none⟩) (some ⟨w.heap.size, 0, none⟩)))
  case atStart => exact ⟨0, _, by omega, rfl, H, HBwl7_7, kt_0_0__655, kt_0_1__656, kt_0_2__657, kt_0_3__658, kt_0_4__659, kt_0_5__660, kt_0_6__661, kt_0_7__662, kt_0_8__663, kt_0_9__664, Ot_0, Pl7_7, Lib.hid (nl7_7.out), Lib.hid Dearliest_2_t_0.out⟩
  case round =>
    obtain ⟨k0, earliest_7l0, hkm0, rfl, H, HBwr0, kt_0_0__655, kt_0_1__656, kt_0_2__657, kt_0_3__658, kt_0_4__659, kt_0_5__660, kt_0_6__661, kt_0_7__662, kt_0_8__663, kt_0_9__664, Ot_0, Oearliest_7l0, hnearliest_7l0, Dearliest_7l0_t_0⟩ := hrel
    rename World => wr0
    cases gk with
    | zero =>
      obtain rfl : k0 = list.length := by omega
      have hc0 : decide (((list.length : Nat) : Int) < ((list.length : Nat) : Int)) = false := by simp
      replace H := cnt_zero H
      unfold e0 at H
      replace H := let_hid H
      obtain ⟨_, rfl, H⟩ := H
      have ka_665 : wr0.cell? ⟨wt_1.heap.size, 0, none⟩ = some (.int .i64 (Go.Proofs.Ytfjcibkgbalkaaa.GoA.nth earliest_7l0 0)) := Go.Proofs.Ytfjcibkgbalkaaa.GoA.row_at Oearliest_7l0.out hnearliest_7l0.out 0 (by omega)
      have ka_666 : wr0.cell? ⟨wt_1.heap.size, 1, none⟩ = some (.int .i64 (Go.Proofs.Ytfjcibkgbalkaaa.GoA.nth earliest_7l0 1)) := Go.Proofs.Ytfjcibkgbalkaaa.GoA.row_at Oearliest_7l0.out hnearliest_7l0.out 1 (by omega)
      have ka_667 : wr0.cell? ⟨wt_1.heap.size, 2, none⟩ = some (.int .i64 (Go.Proofs.Ytfjcibkgbalkaaa.GoA.nth earliest_7l0 2)) := Go.Proofs.Ytfjcibkgbalkaaa.GoA.row_at Oearliest_7l0.out hnearliest_7l0.out 2 (by omega)
      have ka_668 : wr0.cell? ⟨wt_1.heap.size, 3, none⟩ = some (.int .i64 (Go.Proofs.Ytfjcibkgbalkaaa.GoA.nth earliest_7l0 3)) := Go.Proofs.Ytfjcibkgbalkaaa.GoA.row_at Oearliest_7l0.out hnearliest_7l0.out 3 (by omega)
      have ka_669 : wr0.cell? ⟨wt_1.heap.size, 4, none⟩ = some (.int .i64 (Go.Proofs.Ytfjcibkgbalkaaa.GoA.nth earliest_7l0 4)) := Go.Proofs.Ytfjcibkgbalkaaa.GoA.row_at Oearliest_7l0.out hnearliest_7l0.out 4 (by omega)
      have ka_670 : wr0.cell? ⟨wt_1.heap.size, 5, none⟩ = some (.int .i64 (Go.Proofs.Ytfjcibkgbalkaaa.GoA.nth earliest_7l0 5)) := Go.Proofs.Ytfjcibkgbalkaaa.GoA.row_at Oearliest_7l0.out hnearliest_7l0.out 5 (by omega)
      have ka_671 : wr0.cell? ⟨wt_1.heap.size, 6, none⟩ = some (.int .i64 (Go.Proofs.Ytfjcibkgbalkaaa.GoA.nth earliest_7l0 6)) := Go.Proofs.Ytfjcibkgbalkaaa.GoA.row_at Oearliest_7l0.out hnearliest_7l0.out 6 (by omega)
      have ka_672 : wr0.cell? ⟨wt_1.heap.size, 7, none⟩ = some (.int .i64 (Go.Proofs.Ytfjcibkgbalkaaa.GoA.nth earliest_7l0 7)) := Go.Proofs.Ytfjcibkgbalkaaa.GoA.row_at Oearliest_7l0.out hnearliest_7l0.out 7 (by omega)
      have ka_673 : wr0.cell? ⟨wt_1.heap.size, 8, none⟩ = some (.int .i64 (Go.Proofs.Ytfjcibkgbalkaaa.GoA.nth earliest_7l0 8)) := Go.Proofs.Ytfjcibkgbalkaaa.GoA.row_at Oearliest_7l0.out hnearliest_7l0.out 8 (by omega)
      have ka_674 : wr0.cell? ⟨wt_1.heap.size, 9, none⟩ = some (.int .i64 (Go.Proofs.Ytfjcibkgbalkaaa.GoA.nth earliest_7l0 9)) := Go.Proofs.Ytfjcibkgbalkaaa.GoA.row_at Oearliest_7l0.out hnearliest_7l0.out 9 (by omega)
      obtain ⟨wb37_37, hwb37_37⟩ : ∃ x, ((((((((((wr0).setCell ⟨w.heap.size, 0, none⟩ (.int .i64 (Go.Proofs.Ytfjcibkgbalkaaa.GoA.nth earliest_7l0 0))).setCell ⟨w.heap.size, 1, none⟩ (.int .i64 (Go.Proofs.Ytfjcibkgbalkaaa.GoA.nth earliest_7l0 1))).setCell ⟨w.heap.size, 2, none⟩ (.int .i64 (Go.Proofs.Ytfjcibkgbalkaaa.GoA.nth earliest_7l0 2))).setCell ⟨w.heap.size, 3, none⟩ (.int .i64 (Go.Proofs.Ytfjcibkgbalkaaa.GoA.nth earliest_7l0 3))).setCell ⟨w.heap.size, 4, none⟩ (.int .i64 (Go.Proofs.Ytfjcibkgbalkaaa.GoA.nth earliest_7l0 4))).setCell ⟨w.heap.size, 5, none⟩ (.int .i64 (Go.Proofs.Ytfjcibkgbalkaaa.GoA.nth earliest_7l0 5))).setCell ⟨w.heap.size, 6, none⟩ (.int .i64 (Go.Proofs.Ytfjcibkgbalkaaa.GoA.nth earliest_7l0 6))).setCell ⟨w.heap.size, 7, none⟩ (.int .i64 (Go.Proofs.Ytfjcibkgbalkaaa.GoA.nth earliest_7l0 7))).setCell ⟨w.heap.size, 8, none⟩ (.int .i64 (Go.Proofs.Ytfjcibkgbalkaaa.GoA.nth earliest_7l0 8))).setCell ⟨w.heap.size, 9, none⟩ (.int .i64 (Go.Proofs.Ytfjcibkgbalkaaa.GoA.nth earliest_7l0 9)) = x := ⟨_, rfl⟩
      have z0b37_37 := Ot_0.out.frozenAt 0
      have z1b37_37 := Ot_0.out.frozenAt 1
      have z2b37_37 := Ot_0.out.frozenAt 2
      have z3b37_37 := Ot_0.out.frozenAt 3
      have z4b37_37 := Ot_0.out.frozenAt 4
      have z5b37_37 := Ot_0.out.frozenAt 5
      have z6b37_37 := Ot_0.out.frozenAt 6
      have z7b37_37 := Ot_0.out.frozenAt 7
      have z8b37_37 := Ot_0.out.frozenAt 8
      have z9b37_37 := Ot_0.out.frozenAt 9
      have Sb37_37 := Lib.hid (own_stores [(0, .int .i64 (Go.Proofs.Ytfjcibkgbalkaaa.GoA.nth earliest_7l0 0)), (1, .int .i64 (Go.Proofs.Ytfjcibkgbalkaaa.GoA.nth earliest_7l0 1)), (2, .int .i64 (Go.Proofs.Ytfjcibkgbalkaaa.GoA.nth earliest_7l0 2)), (3, .int .i64 (Go.Proofs.Ytfjcibkgbalkaaa.GoA.nth earliest_7l0 3)), (4, .int .i64 (Go.Proofs.Ytfjcibkgbalkaaa.GoA.nth earliest_7l0 4)), (5, .int .i64 (Go.Proofs.Ytfjcibkgbalkaaa.GoA.nth earliest_7l0 5)), (6, .int .i64 (Go.Proofs.Ytfjcibkgbalkaaa.GoA.nth earliest_7l0 6)), (7, .int .i64 (Go.Proofs.Ytfjcibkgbalkaaa.GoA.nth earliest_7l0 7)), (8, .int .i64 (Go.Proofs.Ytfjcibkgbalkaaa.GoA.nth earliest_7l0 8)), (9, .int .i64 (Go.Proofs.Ytfjcibkgbalkaaa.GoA.nth earliest_7l0 9))] Ot_0.out)
      have Pb37_37 : Hid (wb37_37.ownsRow w.heap.size 92 10 (.slice (some ⟨w.heap.size, 0, none⟩) 1 1) 1 [.int .i64 (Go.Proofs.Ytfjcibkgbalkaaa.GoA.nth earliest_7l0 0), .int .i64 (Go.Proofs.Ytfjcibkgbalkaaa.GoA.nth earliest_7l0 1), .int .i64 (Go.Proofs.Ytfjcibkgbalkaaa.GoA.nth earliest_7l0 2), .int .i64 (Go.Proofs.Ytfjcibkgbalkaaa.GoA.nth earliest_7l0 3), .int .i64 (Go.Proofs.Ytfjcibkgbalkaaa.GoA.nth earliest_7l0 4), .int .i64 (Go.Proofs.Ytfjcibkgbalkaaa.GoA.nth earliest_7l0 5), .int .i64 (Go.Proofs.Ytfjcibkgbalkaaa.GoA.nth earliest_7l0 6), .int .i64 (Go.Proofs.Ytfjcibkgbalkaaa.GoA.nth earliest_7l0 7), .int .i64 (Go.Proofs.Ytfjcibkgbalkaaa.GoA.nth earliest_7l0 8), .int .i64 (Go.Proofs.Ytfjcibkgbalkaaa.GoA.nth earliest_7l0 9)]) := Lib.hid (by rw [← hwb37_37]; exact Sb37_37.out.1)
      have Gb37_37 : Hid (wr0.grownBy wb37_37 (Value.slice (some ⟨w.heap.size, 0, none⟩) 1 1).ownBlock) := Lib.hid (by rw [← hwb37_37]; exact Sb37_37.out.2)
      have HBwb37_37 := Lib.hid (HBwr0.out.grown Gb37_37.out HBwr0.out.size (fun q hq => (Ot_0.out.lt q hq).1))
      clear Sb37_37
      replace Oearliest_7l0 := Lib.hid (own_other Oearliest_7l0.out Gb37_37.out (Apart.symm Dearliest_7l0_t_0.out))
      clear Ot_0 Gb37_37
      have kt_0_0__675 : wb37_37.cell? ⟨w.heap.size, 0, none⟩ = some (.int .i64 (Go.Proofs.Ytfjcibkgbalkaaa.GoA.nth earliest_7l0 0)) := Pb37_37.out.cells rfl 0 _ rfl
      have kt_0_1__676 : wb37_37.cell? ⟨w.heap.size, 1, none⟩ = some (.int .i64 (Go.Proofs.Ytfjcibkgbalkaaa.GoA.nth earliest_7l0 1)) := Pb37_37.out.cells rfl 1 _ rfl
      have kt_0_2__677 : wb37_37.cell? ⟨w.heap.size, 2, none⟩ = some (.int .i64 (Go.Proofs.Ytfjcibkgbalkaaa.GoA.nth earliest_7l0 2)) := Pb37_37.out.cells rfl 2 _ rfl
      have kt_0_3__678 : wb37_37.cell? ⟨w.heap.size, 3, none⟩ = some (.int .i64 (Go.Proofs.Ytfjcibkgbalkaaa.GoA.nth earliest_7l0 3)) := Pb37_37.out.cells rfl 3 _ rfl
      have kt_0_4__679 : wb37_37.cell? ⟨w.heap.size, 4, none⟩ = some (.int .i64 (Go.Proofs.Ytfjcibkgbalkaaa.GoA.nth earliest_7l0 4)) := Pb37_37.out.cells rfl 4 _ rfl
      have kt_0_5__680 : wb37_37.cell? ⟨w.heap.size, 5, none⟩ = some (.int .i64 (Go.Proofs.Ytfjcibkgbalkaaa.GoA.nth earliest_7l0 5)) := Pb37_37.out.cells rfl 5 _ rfl
      have kt_0_6__681 : wb37_37.cell? ⟨w.heap.size, 6, none⟩ = some (.int .i64 (Go.Proofs.Ytfjcibkgbalkaaa.GoA.nth earliest_7l0 6)) := Pb37_37.out.cells rfl 6 _ rfl
      have kt_0_7__682 : wb37_37.cell? ⟨w.heap.size, 7, none⟩ = some (.int .i64 (Go.Proofs.Ytfjcibkgbalkaaa.GoA.nth earliest_7l0 7)) := Pb37_37.out.cells rfl 7 _ rfl
      have kt_0_8__683 : wb37_37.cell? ⟨w.heap.size, 8, none⟩ = some (.int .i64 (Go.Proofs.Ytfjcibkgbalkaaa.GoA.nth earliest_7l0 8)) := Pb37_37.out.cells rfl 8 _ rfl
      have kt_0_9__684 : wb37_37.cell? ⟨w.heap.size, 9, none⟩ = some (.int .i64 (Go.Proofs.Ytfjcibkgbalkaaa.GoA.nth earliest_7l0 9)) := Pb37_37.out.cells rfl 9 _ rfl
      cases ret_hid H
      go_wp2_with fail
      (try simp only [Exit.inBlock, Exit.then])
      refine bodyPost_ret (v := .agg #[.int .i64 (Go.Proofs.Ytfjcibkgbalkaaa.GoA.nth earliest_7l0 0), .int .i64 (Go.Proofs.Ytfjcibkgbalkaaa.GoA.nth earliest_7l0 1), .int .i64 (Go.Proofs.Ytfjcibkgbalkaaa.GoA.nth earliest_7l0 2), .int .i64 (Go.Proofs.Ytfjcibkgbalkaaa.GoA.nth earliest_7l0 3), .int .i64 (Go.Proofs.Ytfjcibkgbalkaaa.GoA.nth earliest_7l0 4), .int .i64 (Go.Proofs.Ytfjcibkgbalkaaa.GoA.nth earliest_7l0 5), .int .i64 (Go.Proofs.Ytfjcibkgbalkaaa.GoA.nth earliest_7l0 6), .int .i64 (Go.Proofs.Ytfjcibkgbalkaaa.GoA.nth earliest_7l0 7), .int .i64 (Go.Proofs.Ytfjcibkgbalkaaa.GoA.nth earliest_7l0 8), .int .i64 (Go.Proofs.Ytfjcibkgbalkaaa.GoA.nth earliest_7l0 9)]) ?hr_ ?hd_ ?_
      case hd_ => rfl
      case hr_ => simp [results, Try.results98, kt_0_0__675, kt_0_1__676, kt_0_2__677, kt_0_3__678, kt_0_4__679, kt_0_5__680, kt_0_6__681, kt_0_7__682, kt_0_8__683, kt_0_9__684, go_sem]
      exact ⟨rfl, HBwb37_37.out⟩
    | succ m0 =>
      have hlt0 : k0 < list.length := by omega
      have hc0 : decide ((k0 : Int) < ((list.length : Nat) : Int)) = true := by simp; omega
      replace H := cnt_succ H
      unfold l0 at H
      replace H := let_hid H
      obtain ⟨_, rfl, H⟩ := H
      replace H := idx_hid H
      obtain ⟨nt_12, yt_12, et_12, lt_12, gt_12, H⟩ := H
      obtain rfl : k0 = nt_12 := by omega
      clear et_12
      obtain ⟨t_12_leave, t_12_from_, t_12_to_, t_12_arrive⟩ := yt_12
      replace H := unMail_hid H
      obtain ⟨ab_t_12, ao_t_12, zt_12, At_12, z_t_12, ct_12_0, ct_12_1, ct_12_2, ct_12_3⟩ := Go.Proofs.Ytfjcibkgbalkaaa.OMail.at_ M0.out lt_12
      obtain rfl := Option.some.inj (gt_12.out.symm.trans z_t_12)
      subst At_12
      have ltt_12 := cell_lt ct_12_0
      replace ct_12_0 := cell_below HBwr0.out ct_12_0
      replace ct_12_1 := cell_below HBwr0.out ct_12_1
      replace ct_12_2 := cell_below HBwr0.out ct_12_2
      replace ct_12_3 := cell_below HBwr0.out ct_12_3
      clear z_t_12
      have b0t_12 : (0 : Int) ≤ (k0 : Int) := by omega
      have b1t_12 : (k0 : Int) < ((list.length : Nat) : Int) := by omega
      have b2t_12 : ((k0 : Int)).toNat = k0 := by omega
      obtain ⟨w_x_14, hw_x_14⟩ : ∃ x, wr0.alloc (.cells #[.int .i64 t_12_leave, .int .i64 t_12_from_, .int .i64 t_12_to_, .int .i64 t_12_arrive] 95) = x := ⟨_, rfl⟩
      have bw_x_14 : Below wr0.heap.size wr0 w_x_14 := by rw [← hw_x_14]; exact (Below.refl _ _).alloc (Nat.le_refl _) _
      have Dx_14_earliest_7l0 := Lib.hid (apart_fresh Oearliest_7l0.out)
      have Dx_14_t_0 := Lib.hid (apart_box kt_0_0__655)
      have HBw_x_14 := Lib.hid (Below.step HBwr0.out bw_x_14)
      have kt_0_0__685 := cell_below bw_x_14 kt_0_0__655
      have kt_0_1__686 := cell_below bw_x_14 kt_0_1__656
      have kt_0_2__687 := cell_below bw_x_14 kt_0_2__657
      have kt_0_3__688 := cell_below bw_x_14 kt_0_3__658
      have kt_0_4__689 := cell_below bw_x_14 kt_0_4__659
      have kt_0_5__690 := cell_below bw_x_14 kt_0_5__660
      have kt_0_6__691 := cell_below bw_x_14 kt_0_6__661
      have kt_0_7__692 := cell_below bw_x_14 kt_0_7__662
      have kt_0_8__693 := cell_below bw_x_14 kt_0_8__663
      have kt_0_9__694 := cell_below bw_x_14 kt_0_9__664
      have ct_12_0__695 := cell_below bw_x_14 ct_12_0
      have ct_12_1__696 := cell_below bw_x_14 ct_12_1
      have ct_12_2__697 := cell_below bw_x_14 ct_12_2
      have ct_12_3__698 := cell_below bw_x_14 ct_12_3
      replace Oearliest_7l0 := Lib.hid (own_below Oearliest_7l0.out bw_x_14)
      replace Ot_0 := Lib.hid (own_below Ot_0.out bw_x_14)
      clear bw_x_14
      have kx_14_0 : w_x_14.cell? ⟨wr0.heap.size, 0, none⟩ = some (.int .i64 t_12_leave) := by rw [← hw_x_14]; exact box_new _ _ _ 0 _ rfl
      have kx_14_1 : w_x_14.cell? ⟨wr0.heap.size, 1, none⟩ = some (.int .i64 t_12_from_) := by rw [← hw_x_14]; exact box_new _ _ _ 1 _ rfl
      have kx_14_2 : w_x_14.cell? ⟨wr0.heap.size, 2, none⟩ = some (.int .i64 t_12_to_) := by rw [← hw_x_14]; exact box_new _ _ _ 2 _ rfl
      have kx_14_3 : w_x_14.cell? ⟨wr0.heap.size, 3, none⟩ = some (.int .i64 t_12_arrive) := by rw [← hw_x_14]; exact box_new _ _ _ 3 _ rfl
      go_wp2_with fail
      clear kt_0_0__655 kt_0_1__656 kt_0_2__657 kt_0_3__658 kt_0_4__659 kt_0_5__660 kt_0_6__661 kt_0_7__662 kt_0_8__663 kt_0_9__664 ct_12_0 ct_12_1 ct_12_2 ct_12_3
      have Hkt_0_0__685 := Lib.hid kt_0_0__685
      replace kt_0_0__685 := cell_regrown kt_0_0__685
      have Hkt_0_1__686 := Lib.hid kt_0_1__686
      replace kt_0_1__686 := cell_regrown kt_0_1__686
      have Hkt_0_2__687 := Lib.hid kt_0_2__687
      replace kt_0_2__687 := cell_regrown kt_0_2__687
      have Hkt_0_3__688 := Lib.hid kt_0_3__688
      replace kt_0_3__688 := cell_regrown kt_0_3__688
      have Hkt_0_4__689 := Lib.hid kt_0_4__689
      replace kt_0_4__689 := cell_regrown kt_0_4__689
      have Hkt_0_5__690 := Lib.hid kt_0_5__690
      replace kt_0_5__690 := cell_regrown kt_0_5__690
      have Hkt_0_6__691 := Lib.hid kt_0_6__691
      replace kt_0_6__691 := cell_regrown kt_0_6__691
      have Hkt_0_7__692 := Lib.hid kt_0_7__692
      replace kt_0_7__692 := cell_regrown kt_0_7__692
      have Hkt_0_8__693 := Lib.hid kt_0_8__693
      replace kt_0_8__693 := cell_regrown kt_0_8__693
      have Hkt_0_9__694 := Lib.hid kt_0_9__694
      replace kt_0_9__694 := cell_regrown kt_0_9__694
      have Hct_12_0__695 := Lib.hid ct_12_0__695
      replace ct_12_0__695 := cell_regrown ct_12_0__695
      have Hct_12_1__696 := Lib.hid ct_12_1__696
      replace ct_12_1__696 := cell_regrown ct_12_1__696
      have Hct_12_2__697 := Lib.hid ct_12_2__697
      replace ct_12_2__697 := cell_regrown ct_12_2__697
      have Hct_12_3__698 := Lib.hid ct_12_3__698
      replace ct_12_3__698 := cell_regrown ct_12_3__698
      have Hkx_14_0 := Lib.hid kx_14_0
      replace kx_14_0 := cell_regrown kx_14_0
      have Hkx_14_1 := Lib.hid kx_14_1
      replace kx_14_1 := cell_regrown kx_14_1
      have Hkx_14_2 := Lib.hid kx_14_2
      replace kx_14_2 := cell_regrown kx_14_2
      have Hkx_14_3 := Lib.hid kx_14_3
      replace kx_14_3 := cell_regrown kx_14_3
      replace H := idx_hid H
      obtain ⟨nt_18, yt_18, et_18, lt_18, gt_18, H⟩ := H
      subst et_18
      have hqt_18 := hnearliest_7l0.out
      obtain ⟨ab_t_18, ao_t_18, zt_18, At_18, z_t_18, ct_18_0⟩ := Go.Proofs.Ytfjcibkgbalkaaa.HelpInt.Ints.at_ (own_cells Oearliest_7l0.out) (k := nt_18) (by omega)
      obtain rfl := Option.some.inj (gt_18.out.symm.trans z_t_18)
      simp only [Option.some.injEq, Addr.mk.injEq] at At_18
      obtain ⟨rfl, rfl, _⟩ := At_18
      clear z_t_18
      simp only [Nat.zero_add] at ct_18_0
      have b0t_18 : (0 : Int) ≤ (nt_18 : Int) := by omega
      have b1t_18 : (nt_18 : Int) < ((10 : Nat) : Int) := by omega
      have b2t_18 : ((nt_18 : Int)).toNat = nt_18 := by omega
      clear hqt_18
      have Hct_18_0 := Lib.hid ct_18_0
      replace ct_18_0 := cell_regrown ct_18_0
      have b3t_18 : nt_18 < 10 := by have h_ := lt_18; have hn_ := hnearliest_7l0.out; omega
      have b4t_18 : (nt_18 : Int) < (10 : Int) := by omega
      replace H := let_hid H
      obtain ⟨t_22, ht_22, H⟩ := H
      refine wp_region_quiet_below (by kernel_rfl) (by kernel_rfl) ?_
      repeat (go_big_quiet_step (fail))
      refine wpQuiet_nil ?_
      intro Y6 hY6
      replace hY6 := below_class hY6
      replace kt_0_0__685 := Hkt_0_0__685.out
      clear Hkt_0_0__685
      replace kt_0_1__686 := Hkt_0_1__686.out
      clear Hkt_0_1__686
      replace kt_0_2__687 := Hkt_0_2__687.out
      clear Hkt_0_2__687
      replace kt_0_3__688 := Hkt_0_3__688.out
      clear Hkt_0_3__688
      replace kt_0_4__689 := Hkt_0_4__689.out
      clear Hkt_0_4__689
      replace kt_0_5__690 := Hkt_0_5__690.out
      clear Hkt_0_5__690
      replace kt_0_6__691 := Hkt_0_6__691.out
      clear Hkt_0_6__691
      replace kt_0_7__692 := Hkt_0_7__692.out
      clear Hkt_0_7__692
      replace kt_0_8__693 := Hkt_0_8__693.out
      clear Hkt_0_8__693
      replace kt_0_9__694 := Hkt_0_9__694.out
      clear Hkt_0_9__694
      replace ct_12_0__695 := Hct_12_0__695.out
      clear Hct_12_0__695
      replace ct_12_1__696 := Hct_12_1__696.out
      clear Hct_12_1__696
      replace ct_12_2__697 := Hct_12_2__697.out
      clear Hct_12_2__697
      replace ct_12_3__698 := Hct_12_3__698.out
      clear Hct_12_3__698
      replace kx_14_0 := Hkx_14_0.out
      clear Hkx_14_0
      replace kx_14_1 := Hkx_14_1.out
      clear Hkx_14_1
      replace kx_14_2 := Hkx_14_2.out
      clear Hkx_14_2
      replace kx_14_3 := Hkx_14_3.out
      clear Hkx_14_3
      replace ct_18_0 := Hct_18_0.out
      clear Hct_18_0
      have HBY6 := Lib.hid (Below.step HBw_x_14.out hY6)
      replace kt_0_0__685 := cell_below hY6 kt_0_0__685
      replace kt_0_1__686 := cell_below hY6 kt_0_1__686
      replace kt_0_2__687 := cell_below hY6 kt_0_2__687
      replace kt_0_3__688 := cell_below hY6 kt_0_3__688
      replace kt_0_4__689 := cell_below hY6 kt_0_4__689
      replace kt_0_5__690 := cell_below hY6 kt_0_5__690
      replace kt_0_6__691 := cell_below hY6 kt_0_6__691
      replace kt_0_7__692 := cell_below hY6 kt_0_7__692
      replace kt_0_8__693 := cell_below hY6 kt_0_8__693
      replace kt_0_9__694 := cell_below hY6 kt_0_9__694
      replace ct_12_0__695 := cell_below hY6 ct_12_0__695
      replace ct_12_1__696 := cell_below hY6 ct_12_1__696
      replace ct_12_2__697 := cell_below hY6 ct_12_2__697
      replace ct_12_3__698 := cell_below hY6 ct_12_3__698
      replace kx_14_0 := cell_below hY6 kx_14_0
      replace kx_14_1 := cell_below hY6 kx_14_1
      replace kx_14_2 := cell_below hY6 kx_14_2
      replace kx_14_3 := cell_below hY6 kx_14_3
      replace ct_18_0 := cell_below hY6 ct_18_0
      replace Oearliest_7l0 := Lib.hid (own_below Oearliest_7l0.out hY6)
      replace Ot_0 := Lib.hid (own_below Ot_0.out hY6)
      clear hY6
      cases t_22 with
      | false =>
        replace H := ite_f H
        replace H := app_hid H
        go_wp2_with fail
        go_roundg m0
        case measure => omega
        case rel => exact ⟨k0 + 1, _, by omega, by go_num, H, HBY6, kt_0_0__685, kt_0_1__686, kt_0_2__687, kt_0_3__688, kt_0_4__689, kt_0_5__690, kt_0_6__691, kt_0_7__692, kt_0_8__693, kt_0_9__694, Ot_0, Oearliest_7l0, Lib.hid (hnearliest_7l0.out), Lib.hid Dearliest_7l0_t_0.out⟩
      | true =>
        replace H := ite_t H
        go_wp2_with fail
        obtain ⟨Z7, hZ7⟩ : ∃ x, Y6.drew = x := ⟨_, rfl⟩
        have bd7 : Below Y6.heap.size Y6 Z7 := by rw [← hZ7]; exact (Below.refl _ _).drew
        have HBZ7 := Lib.hid (Below.step HBY6.out bd7)
        replace kt_0_0__685 := cell_below bd7 kt_0_0__685
        replace kt_0_1__686 := cell_below bd7 kt_0_1__686
        replace kt_0_2__687 := cell_below bd7 kt_0_2__687
        replace kt_0_3__688 := cell_below bd7 kt_0_3__688
        replace kt_0_4__689 := cell_below bd7 kt_0_4__689
        replace kt_0_5__690 := cell_below bd7 kt_0_5__690
        replace kt_0_6__691 := cell_below bd7 kt_0_6__691
        replace kt_0_7__692 := cell_below bd7 kt_0_7__692
        replace kt_0_8__693 := cell_below bd7 kt_0_8__693
        replace kt_0_9__694 := cell_below bd7 kt_0_9__694
        replace ct_12_0__695 := cell_below bd7 ct_12_0__695
        replace ct_12_1__696 := cell_below bd7 ct_12_1__696
        replace ct_12_2__697 := cell_below bd7 ct_12_2__697
        replace ct_12_3__698 := cell_below bd7 ct_12_3__698
        replace kx_14_0 := cell_below bd7 kx_14_0
        replace kx_14_1 := cell_below bd7 kx_14_1
        replace kx_14_2 := cell_below bd7 kx_14_2
        replace kx_14_3 := cell_below bd7 kx_14_3
        replace ct_18_0 := cell_below bd7 ct_18_0
        replace Oearliest_7l0 := Lib.hid (own_below Oearliest_7l0.out bd7)
        replace Ot_0 := Lib.hid (own_below Ot_0.out bd7)
        clear bd7
        replace H := idx_hid H
        obtain ⟨nt_27, yt_27, et_27, lt_27, gt_27, H⟩ := H
        subst et_27
        have hqt_27 := hnearliest_7l0.out
        obtain ⟨ab_t_27, ao_t_27, zt_27, At_27, z_t_27, ct_27_0⟩ := Go.Proofs.Ytfjcibkgbalkaaa.HelpInt.Ints.at_ (own_cells Oearliest_7l0.out) (k := nt_27) (by omega)
        obtain rfl := Option.some.inj (gt_27.out.symm.trans z_t_27)
        simp only [Option.some.injEq, Addr.mk.injEq] at At_27
        obtain ⟨rfl, rfl, _⟩ := At_27
        clear z_t_27
        simp only [Nat.zero_add] at ct_27_0
        have b0t_27 : (0 : Int) ≤ (nt_27 : Int) := by omega
        have b1t_27 : (nt_27 : Int) < ((10 : Nat) : Int) := by omega
        have b2t_27 : ((nt_27 : Int)).toNat = nt_27 := by omega
        clear hqt_27
        have b3t_27 : nt_27 < 10 := by have h_ := lt_27; have hn_ := hnearliest_7l0.out; omega
        have b4t_27 : (nt_27 : Int) < (10 : Int) := by omega
        replace H := let_hid H
        obtain ⟨t_31, ht_31, H⟩ := H
        replace H := idx_hid H
        obtain ⟨nt_32, yt_32, et_32, lt_32, gt_32, H⟩ := H
        obtain rfl : nt_27 = nt_32 := by omega
        clear et_32
        obtain rfl := Option.some.inj (gt_27.out.symm.trans gt_32.out)
        clear gt_32 lt_32
        have b3t_32 : nt_27 < 10 := by have h_ := lt_27; have hn_ := hnearliest_7l0.out; omega
        have b4t_32 : (nt_27 : Int) < (10 : Int) := by omega
        refine wp_region_still_tail 10 (by kernel_rfl) (by kernel_rfl) ?_
        simp only [List.take_succ_cons, List.take_zero, List.drop_succ_cons, List.drop_zero]
        change wpStill _ _ Y6.drew _ _ _
        rw [hZ7]
        repeat still_step
        refine wpStill_nil ?_
        change wpList _ _ _ _ _ Y6.drew
        rw [hZ7]
        clear hZ7
        replace H := let_hid H
        obtain ⟨l33_33, hl33_33, H⟩ := H
        try simp only [Int.toNat_natCast] at hl33_33
        obtain ⟨wl33_33, hwl33_33⟩ : ∃ x, (Z7).setCell ⟨wt_1.heap.size, nt_27, none⟩ (.int .i64 t_31) = x := ⟨_, rfl⟩
        have z0l33_33 := Oearliest_7l0.out.frozenAt (nt_27)
        have Sl33_33 := Lib.hid (own_stores [(nt_27, .int .i64 t_31)] Oearliest_7l0.out)
        have nl33_33 : Hid (l33_33.length = 10) := Lib.hid (by rw [← hl33_33, List.length_set]; exact hnearliest_7l0.out)
        have Pl33_33 : Hid (wl33_33.ownsRow w.heap.size 92 1 (.slice (some ⟨wt_1.heap.size, 0, none⟩) 10 10) 10 (Go.Proofs.Ytfjcibkgbalkaaa.HelpInt.iv l33_33)) := Lib.hid (by have e_ : ([(nt_27, .int .i64 t_31)] : List (Nat × Value)).foldl (fun xs p => xs.set p.1 p.2) (Go.Proofs.Ytfjcibkgbalkaaa.HelpInt.iv earliest_7l0) = (Go.Proofs.Ytfjcibkgbalkaaa.HelpInt.iv l33_33) := (by rw [← hl33_33]; first | done | simp [Go.Proofs.Ytfjcibkgbalkaaa.HelpInt.iv, List.map_set]); rw [← hwl33_33, ← e_]; exact Sl33_33.out.1)
        have Gl33_33 : Hid (Z7.grownBy wl33_33 (Value.slice (some ⟨wt_1.heap.size, 0, none⟩) 10 10).ownBlock) := Lib.hid (by rw [← hwl33_33]; exact Sl33_33.out.2)
        have HBwl33_33 := Lib.hid (HBZ7.out.grown Gl33_33.out HBZ7.out.size (fun q hq => (Oearliest_7l0.out.lt q hq).1))
        have hhl33_33 := Lib.hid hl33_33
        clear hl33_33 Sl33_33
        have kt_0_0__699 := cell_other kt_0_0__685 Gl33_33.out Dearliest_7l0_t_0.out
        have kt_0_1__700 := cell_other kt_0_1__686 Gl33_33.out Dearliest_7l0_t_0.out
        have kt_0_2__701 := cell_other kt_0_2__687 Gl33_33.out Dearliest_7l0_t_0.out
        have kt_0_3__702 := cell_other kt_0_3__688 Gl33_33.out Dearliest_7l0_t_0.out
        have kt_0_4__703 := cell_other kt_0_4__689 Gl33_33.out Dearliest_7l0_t_0.out
        have kt_0_5__704 := cell_other kt_0_5__690 Gl33_33.out Dearliest_7l0_t_0.out
        have kt_0_6__705 := cell_other kt_0_6__691 Gl33_33.out Dearliest_7l0_t_0.out
        have kt_0_7__706 := cell_other kt_0_7__692 Gl33_33.out Dearliest_7l0_t_0.out
        have kt_0_8__707 := cell_other kt_0_8__693 Gl33_33.out Dearliest_7l0_t_0.out
        have kt_0_9__708 := cell_other kt_0_9__694 Gl33_33.out Dearliest_7l0_t_0.out
        have ct_12_0__709 := cell_other ct_12_0__695 Gl33_33.out (apart_old Oearliest_7l0.out ltt_12)
        have ct_12_1__710 := cell_other ct_12_1__696 Gl33_33.out (apart_old Oearliest_7l0.out ltt_12)
        have ct_12_2__711 := cell_other ct_12_2__697 Gl33_33.out (apart_old Oearliest_7l0.out ltt_12)
        have ct_12_3__712 := cell_other ct_12_3__698 Gl33_33.out (apart_old Oearliest_7l0.out ltt_12)
        have kx_14_0__713 := cell_other kx_14_0 Gl33_33.out (Apart.symm Dx_14_earliest_7l0.out)
        have kx_14_1__714 := cell_other kx_14_1 Gl33_33.out (Apart.symm Dx_14_earliest_7l0.out)
        have kx_14_2__715 := cell_other kx_14_2 Gl33_33.out (Apart.symm Dx_14_earliest_7l0.out)
        have kx_14_3__716 := cell_other kx_14_3 Gl33_33.out (Apart.symm Dx_14_earliest_7l0.out)
        replace Ot_0 := Lib.hid (own_other Ot_0.out Gl33_33.out Dearliest_7l0_t_0.out)
        clear Oearliest_7l0 Gl33_33
        replace H := app_hid H
        go_wp2_with fail
        clear z0l33_33 kt_0_0__685 kt_0_1__686 kt_0_2__687 kt_0_3__688 kt_0_4__689 kt_0_5__690 kt_0_6__691 kt_0_7__692 kt_0_8__693 kt_0_9__694 ct_12_0__695 ct_12_1__696 ct_12_2__697 ct_12_3__698 kx_14_0 kx_14_1 kx_14_2 kx_14_3 ct_18_0 ct_27_0
        go_roundg m0
        case measure => omega
        case rel => exact ⟨k0 + 1, _, by omega, by go_num, H, HBwl33_33, kt_0_0__699, kt_0_1__700, kt_0_2__701, kt_0_3__702, kt_0_4__703, kt_0_5__704, kt_0_6__705, kt_0_7__706, kt_0_8__707, kt_0_9__708, Ot_0, Pl33_33, Lib.hid (nl33_33.out), Lib.hid Dearliest_7l0_t_0.out⟩
end Go.Proofs.Ytfjcibkgbalkaaa.GiEarliestMinutes

/- Chapter 9: mails and routes: the plain functions of the program and of the reference agree, and the laws answer true. (Q9Early) No condition but those of each theorem. -/
namespace Go.Proofs.Ytfjcibkgbalkaaa.Q9Early
set_option linter.unusedVariables false
set_option linter.unusedSimpArgs false
open Go.RowKit
open Go.Proofs.Ytfjcibkgbalkaaa.GoP Go.Proofs.Ytfjcibkgbalkaaa.PlainStamp Go.Proofs.Ytfjcibkgbalkaaa.QBase Go.Proofs.Ytfjcibkgbalkaaa.QFoldS Go.Proofs.Ytfjcibkgbalkaaa.Q9Dual Go.Proofs.Ytfjcibkgbalkaaa.Q9Arr Go.Proofs.Ytfjcibkgbalkaaa.Q9List Go.Proofs.Ytfjcibkgbalkaaa.Q9Mail Go.Proofs.Ytfjcibkgbalkaaa.QLoop Go.Proofs.Ytfjcibkgbalkaaa.PMail Go.Proofs.Ytfjcibkgbalkaaa.PIntA10 Go.Proofs.Ytfjcibkgbalkaaa.GoA

theorem least_eq (a b : Int) : GsL1Least.P a b = some (min a b) := by
  simp only [GsL1Least.P, letK, iteK_if]
  by_cases h : a < b
  · rw [if_pos (by simpa using h)]; congr 1; omega
  · rw [if_neg (by simpa using h)]; congr 1; omega
theorem earliest_eq {l : List Mail} (hg : goodM l = true) {o : Int} (ho : 0 ≤ o ∧ o ≤ 9) (m : Int) : GiEarliestMinutes.P l o m = some (toA (earlyM l o m)) := by
  simp only [GiEarliestMinutes.P, filled_eq, Option.bind_some, un_eq, letK]
  rw [ten (by simp), idx_at (by simp) ho, Option.bind_some, fold_cnt (g := stepE) (J := fun s => s.length = 10)]
  · rfl
  · intro k x s nx hx hs
    have hk : idx l (k : Int) = some x := by rw [idx_nat, hx]
    have hm := okM_of (m_ok hg hx)
    obtain ⟨a, b, c, d⟩ := x
    dsimp only at hm
    refine ⟨?_, by rw [stepE_len, hs]⟩
    simp only [GiEarliestMinutes.l0, letK, hk, Option.bind_some, unMail, idx_at hs hm.1, iteK_if, stepE]
    by_cases h : at_ s b ≤ a
    · simp [h, idx_at hs hm.2.1, appK]
    · simp [h, appK]
  · simp
theorem times_eq {l : List Mail} (hg : goodM l = true) {o : Int} (ho : 0 ≤ o ∧ o ≤ 9) (m : Int) : GsL9Times.P l o m = some (earlyM l o m) := by
  simp only [GsL9Times.P, letK]
  rw [guardK_pos (by omega)]
  have h10 : cntK GsL9Times.l0 (List.replicate 10 (0 : Int)).length 0 (List.replicate 10 (0 : Int)) (GsL9Times.e0 l o m) = GsL9Times.e0 l o m (List.replicate 10 10000) := rfl
  rw [h10]
  simp only [GsL9Times.e0, letK]
  rw [idx_at (by simp) ho, Option.bind_some, fold_cnt (g := stepE) (J := fun s => s.length = 10)]
  · rfl
  · intro k x s nx hx hs
    have hk : idx l (k : Int) = some x := by rw [idx_nat, hx]
    have hm := okM_of (m_ok hg hx)
    obtain ⟨a, b, c, d⟩ := x
    dsimp only at hm
    refine ⟨?_, by rw [stepE_len, hs]⟩
    simp only [GsL9Times.l1, letK, hk, Option.bind_some, unMail, idx_at hs hm.1, iteK_if, stepE]
    by_cases h : at_ s b ≤ a
    · simp [h, idx_at hs hm.2.1, appK, least_eq]
    · simp [h, appK]
  · simp
end Go.Proofs.Ytfjcibkgbalkaaa.Q9Early

/- Chapter 9: mails and routes: the plain functions of the program and of the reference agree, and the laws answer true. (Q9Leave) No condition but those of each theorem. -/
namespace Go.Proofs.Ytfjcibkgbalkaaa.Q9Leave
set_option linter.unusedVariables false
set_option linter.unusedSimpArgs false
open Go.RowKit
open Go.Proofs.Ytfjcibkgbalkaaa.GoP Go.Proofs.Ytfjcibkgbalkaaa.PlainStamp Go.Proofs.Ytfjcibkgbalkaaa.QBase Go.Proofs.Ytfjcibkgbalkaaa.Q9Late Go.Proofs.Ytfjcibkgbalkaaa.Q9Early Go.Proofs.Ytfjcibkgbalkaaa.QFoldS Go.Proofs.Ytfjcibkgbalkaaa.Q9Cand Go.Proofs.Ytfjcibkgbalkaaa.Q9Dual Go.Proofs.Ytfjcibkgbalkaaa.Q9Arr Go.Proofs.Ytfjcibkgbalkaaa.Q9List Go.Proofs.Ytfjcibkgbalkaaa.Q9Mail Go.Proofs.Ytfjcibkgbalkaaa.QUp Go.Proofs.Ytfjcibkgbalkaaa.QAll Go.Proofs.Ytfjcibkgbalkaaa.QLoop Go.Proofs.Ytfjcibkgbalkaaa.PMail Go.Proofs.Ytfjcibkgbalkaaa.PIntA10

def leaveRes (l : List Mail) (o p b : Int) : Int × Bool := if goodM l = true ∧ inB o 0 9 = true ∧ inB p 0 9 = true ∧ o ≠ p ∧ inB b 0 9999 = true ∧ at_ (lateM l p b) o ≠ -1 then (at_ (lateM l p b) o, true) else (0, false)
theorem leave_impl {fuel : Nat} (l : List Mail) (hl : l.length ≤ 9223372036854775807) (o p b : Int) (hf : 20 < fuel) : GiLatestLeave.P fuel l o p b = some (leaveRes l o p b) := by
  simp only [GiLatestLeave.P, isTime_eq l hl, isOffice_eq, isMinute_eq, Option.bind_some, letK, joinK, appK, iteK_if, leaveRes]
  cases hg : goodM l with
  | false => simp
  | true =>
    cases ho : inB o 0 9 with
    | false => simp
    | true =>
      cases hp : inB p 0 9 with
      | false => simp
      | true =>
        have hp2 := inB_of hp
        have ho2 := inB_of ho
        by_cases he : o = p
        · simp [he]
        · cases hb : inB b 0 9999 with
          | false => simp [he]
          | true =>
            have he2 : (o == p) = false := by simpa using he
            simp only [Bool.not_true, Bool.false_eq_true, if_false, he2, latest_eq hg hp2 b hf, Option.bind_some, un_eq, ten (late_len l p b), idx_at (late_len l p b) ho2]
            by_cases h : at_ (lateM l p b) o = -1 <;> simp [h, he]
theorem leave_test {l : List Mail} (hg : goodM l = true) {o p b : Int} (hp : 0 ≤ p ∧ p ≤ 9) (hb : 0 ≤ b ∧ b ≤ 9999) {k : Nat} {x : Mail} (hx : l[k]? = some x) :
    (x.from_ = o ∧ x.arrive ≤ b ∧ at_ (earlyM l x.to_ x.arrive) p ≤ b) ↔ x.from_ = o ∧ x.arrive ≤ at_ (lateM (l.drop (k + 1)) p b) x.to_ := by
  have hm := okM_of (m_ok hg hx)
  rw [dual hg hm.2.1 hp (by omega) hb.2, ← late_behind hg hx p b]
  constructor
  · rintro ⟨h1, _, h2⟩; exact ⟨h1, h2⟩
  · rintro ⟨h1, h2⟩
    refine ⟨h1, ?_, h2⟩
    have h3 := (dual hg hm.2.1 hp (by omega) hb.2).2 h2
    have h4 := early_low hg hm.2.1 (m := x.arrive) (by omega) hp
    omega
/-- what is told by the last mail that leads on -/
theorem leave_last {l : List Mail} (hg : goodM l = true) {o p b : Int} {k : Nat} {x : Mail} (hx : l[k]? = some x) (h1 : x.from_ = o) (h2 : x.arrive ≤ at_ (lateM (l.drop (k + 1)) p b) x.to_) (h3 : at_ (lateM (l.drop (k + 1)) p b) o = -1) : at_ (lateM l p b) o = x.leave := by
  have hok := m_ok hg hx
  have hm := okM_of hok
  have hd := late_len (l.drop (k + 1)) p b
  subst h1
  have hs : at_ (stepL x (lateM (l.drop (k + 1)) p b)) x.from_ = x.leave := by
    rw [stepL_at hd hok hm.1, if_pos ⟨h2, rfl⟩, h3]; omega
  have hmem : ∀ y ∈ l.take k, okM y = true := fun y hy => m_mem hg (List.mem_of_mem_take hy)
  have h5 := foldL_up (l.take k) hmem hm.1 (t := stepL x (lateM (l.drop (k + 1)) p b)) (by rw [stepL_len, hd])
  have h6 := foldL_top (l.take k) hmem (aheadM hg hx) hm.1 (t := stepL x (lateM (l.drop (k + 1)) p b)) (by rw [stepL_len, hd])
  rw [late_cut hx p b]
  omega
theorem leave_spec {fuel : Nat} (l : List Mail) (hl : l.length ≤ 9223372036854775807) (o p b : Int) (hf : 20 < fuel) : GsLatestLeave.P fuel l o p b = some (leaveRes l o p b) := by
  simp only [GsLatestLeave.P, l9Asked_eq l hl, l9Office_eq, Option.bind_some, letK, joinK, appK, iteK_if]
  cases ha : askM l o b with
  | false =>
    have : leaveRes l o p b = (0, false) := by
      unfold leaveRes; rw [if_neg]
      rintro ⟨h1, h2, _, _, h3, _⟩
      unfold askM at ha; rw [h1, h2, h3] at ha; exact absurd ha (by simp)
    simp [this]
  | true =>
    obtain ⟨hg, ho, hb⟩ := ask_of ha
    have ha' := ha
    unfold askM at ha'
    simp only [Bool.and_eq_true] at ha'
    obtain ⟨⟨_, ho1⟩, hb1⟩ := ha'
    cases hp : inB p 0 9 with
    | false => simp [leaveRes, hp]
    | true =>
      have hp2 := inB_of hp
      by_cases he : o = p
      · simp [he, leaveRes]
      · have he2 : (o == p) = false := by simpa using he
        have hlen := m_len hg
        simp only [Bool.not_true, Bool.false_eq_true, if_false, he2]
        rw [wrap_in (by omega) (by omega)]
        refine lp_is (n := l.length) _ (fun k (s : Int) => s = (l.length : Int) - 1 - (k : Int) ∧ at_ (lateM (l.drop (l.length - k)) p b) o = -1) ?_ ?_ fuel 0 _ (by omega) (by omega) ?_
        · rintro k s nx hk ⟨rfl, hI⟩ hn
          have hq : l.length - k - 1 < l.length := by omega
          obtain ⟨x, hx⟩ : ∃ x, l[l.length - k - 1]? = some x := ⟨_, List.getElem?_eq_getElem hq⟩
          have hxe : l[l.length - k - 1] = x := by rw [List.getElem?_eq_getElem hq] at hx; exact Option.some.inj hx
          have hi : idx l ((l.length : Int) - 1 - (k : Int)) = some x := by
            rw [show (l.length : Int) - 1 - (k : Int) = ((l.length - k - 1 : Nat) : Int) by omega, idx_nat, hx]
          have hok := m_ok hg hx
          have hm := okM_of hok
          have hd : lateM (l.drop (l.length - (k + 1))) p b = stepL x (lateM (l.drop (l.length - k)) p b) := by
            unfold lateM
            rw [show l.length - (k + 1) = l.length - k - 1 by omega, List.drop_eq_getElem_cons hq, List.foldr_cons, hxe, show l.length - k - 1 + 1 = l.length - k by omega]
          have ht := leave_test hg hp2 hb hx (o := o)
          have hll := leave_last hg hx (o := o) (p := p) (b := b)
          rw [show l.length - k - 1 + 1 = l.length - k by omega] at ht hll
          have h0 : (0 : Int) ≤ (l.length : Int) - 1 - (k : Int) := by omega
          have hn2 := fun h => hn ((l.length : Int) - 1 - (k : Int) - 1) ⟨by omega, h⟩
          have ht1 := times_eq hg hm.2.1 x.arrive
          have hat := stepL_at (i := o) (late_len (l.drop (l.length - k)) p b) hok ho
          rw [hd] at hn2
          clear hx hxe hd
          obtain ⟨a, c, d, e⟩ := x
          dsimp only at hm ht hll ht1 hat
          have no : ¬ (c = o ∧ e ≤ b ∧ at_ (earlyM l d e) p ≤ b) → at_ (stepL ⟨a, c, d, e⟩ (lateM (l.drop (l.length - k)) p b)) o = -1 := by
            intro h
            rw [hat, if_neg (fun q => h (ht.2 ⟨q.2.symm, q.1⟩)), hI]
          simp only [GsLatestLeave.l0, letK, decide_eq_true h0, iteK_if, if_true, hi, Option.bind_some, unMail, joinK, appK]
          rw [wrap_in (by omega) (by omega)]
          by_cases h1 : c = o
          · by_cases h2 : e ≤ b
            · simp only [beq_iff_eq, h1, if_true, decide_eq_true h2, ht1, Option.bind_some, idx_at (early_len l d e) hp2]
              by_cases h3 : at_ (earlyM l d e) p ≤ b
              · have h4 := hll h1 (ht.1 ⟨h1, h2, h3⟩).2 hI
                have h5 : ¬ a = -1 := by omega
                simp [h3, leaveRes, hg, ho1, hp, he, hb1, h4, h5]
              · simp only [decide_eq_false h3, Bool.false_eq_true, if_false]
                exact hn2 (no (fun q => h3 q.2.2))
            · simp only [beq_iff_eq, h1, if_true, decide_eq_false h2, Bool.false_eq_true, if_false]
              exact hn2 (no (fun q => h2 q.2.1))
          · have h1' : (c == o) = false := by simpa using h1
            simp only [h1', Bool.false_eq_true, if_false]
            exact hn2 (no (fun q => h1 q.1))
        · rintro s nx ⟨rfl, hI⟩
          have h0 : ¬ (0 : Int) ≤ (l.length : Int) - 1 - (l.length : Int) := by omega
          rw [Nat.sub_self, List.drop_zero] at hI
          simp only [GsLatestLeave.l0, letK, decide_eq_false h0, iteK_if, Bool.false_eq_true, if_false, appK, GsLatestLeave.e0]
          simp [leaveRes, hI]
        · refine ⟨by simp, ?_⟩
          rw [Nat.sub_zero, List.drop_length]
          show at_ (startL p b) o = -1
          rw [startL_at hp2 ho, if_neg he]
end Go.Proofs.Ytfjcibkgbalkaaa.Q9Leave

/- The laws' helpers on Mail and on slices of it as plain functions: copied, equal, their bulk. No condition. -/
namespace Go.Proofs.Ytfjcibkgbalkaaa.QHMailE
set_option linter.unusedVariables false
set_option linter.unusedSimpArgs false
open Go.RowKit
open Go.Proofs.Ytfjcibkgbalkaaa.GoP Go.Proofs.Ytfjcibkgbalkaaa.QBase Go.Proofs.Ytfjcibkgbalkaaa.QLoop Go.Proofs.Ytfjcibkgbalkaaa.PMail

theorem toOne (s : Mail) : GlToMail.P s = some s := by cases s; rfl
theorem eqOne (s : Mail) : GlEqMail.P s s = some true := by
  obtain ⟨x0, x1, x2, x3⟩ := s
  simp [GlEqMail.P, unMail, letK, joinK, appK, iteK_if]
theorem toS (l : List Mail) (hl : l.length ≤ 1048576) : GlToMailS.P l = some l := by
  simp only [GlToMailS.P, letK]
  rw [guardK_pos (by omega)]
  refine cnt_is l (fun k s => s = l.take k ++ List.replicate (l.length - k) (Mail.mk 0 0 0 0)) ?_ ?_ _ (by simp)
  · intro k s nx hk hI hn
    obtain ⟨x, hx, hi⟩ := at_lt (l := l) (k := k) hk
    have hlen : s.length = l.length := by rw [hI]; simp; omega
    obtain ⟨z, hz, hj⟩ := at_lt (l := s) (k := k) (by omega)
    simp only [GlToMailS.l0, hi, hj, toOne, Option.bind_some, unMail, letK, appK]
    refine hn _ ?_
    rw [hI, take_next hx, List.set_append_right _ _ (by simp; omega)]
    have hr : l.length - k = (l.length - (k + 1)) + 1 := by omega
    rw [hr, List.replicate_succ, List.append_assoc]
    simp [show k - min k l.length = 0 by omega]
  · intro s hI
    rw [hI]; simp [GlToMailS.e0, letK]
theorem eqS (l : List Mail) : GlEqMailS.P l l = some true := by
  simp only [GlEqMailS.P, letK, iteK_if]
  rw [if_neg (by simp)]
  refine cnt_is true (fun _ _ => True) ?_ (fun s _ => rfl) () trivial
  intro k s nx hk _ hn
  obtain ⟨x, hx, hi⟩ := at_lt (l := l) (k := k) hk
  simp only [GlEqMailS.l0, hi, Option.bind_some, unMail, eqOne, letK, appK, iteK_if]
  exact hn () trivial
theorem szS (l : List Mail) (hl : l.length ≤ 9223372036854775807) : GlSzMailS.P l 1048576 = some (if l.length ≤ 1048576 then 1048576 - (l.length : Int) else -1) := by
  simp only [GlSzMailS.P, letK, iteK_if]
  rw [wrap_in (by omega) (by omega)]
  by_cases h : l.length ≤ 1048576
  · rw [if_neg (by simp; omega), if_pos h]
  · rw [if_pos (by simp; omega), if_neg h]
end Go.Proofs.Ytfjcibkgbalkaaa.QHMailE

/- Chapter 9: mails and routes: the plain functions of the program and of the reference agree, and the laws answer true. (QL9Leave) No condition but those of each theorem. -/
namespace Go.Proofs.Ytfjcibkgbalkaaa.QL9Leave
set_option linter.unusedVariables false
set_option linter.unusedSimpArgs false
open Go.RowKit
open Go.Proofs.Ytfjcibkgbalkaaa.GoP Go.Proofs.Ytfjcibkgbalkaaa.PlainStamp Go.Proofs.Ytfjcibkgbalkaaa.QBase Go.Proofs.Ytfjcibkgbalkaaa.Q9Leave Go.Proofs.Ytfjcibkgbalkaaa.Q9List Go.Proofs.Ytfjcibkgbalkaaa.QLoop Go.Proofs.Ytfjcibkgbalkaaa.PMail Go.Proofs.Ytfjcibkgbalkaaa.QHMailE

theorem law_leave {fuel : Nat} (l : List Mail) (o p b : Int) (hl : l.length ≤ 9223372036854775807) (hf : 20 < fuel) : GlFnExactLatestLeave.P fuel l o p b = some true := by
  simp only [GlFnExactLatestLeave.P, szS l hl, Option.bind_some, letK, iteK_if]
  by_cases hb : l.length ≤ 1048576
  · rw [if_neg (by rw [if_pos hb]; simp; omega)]
    obtain ⟨⟨a, c⟩, he⟩ : ∃ x, x = leaveRes l o p b := ⟨_, rfl⟩
    simp [toS l hb, leave_spec l hl o p b hf, leave_impl l hl o p b hf, ← he, bind2, joinK, appK, iteK_if, eqS]
  · rw [if_pos (by rw [if_neg hb]; simp)]
end Go.Proofs.Ytfjcibkgbalkaaa.QL9Leave

