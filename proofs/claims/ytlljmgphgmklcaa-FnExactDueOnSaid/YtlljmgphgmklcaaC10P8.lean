/- Texts on which the proofs of several laws stand, one behind the other (8 of 21). No condition of their own. -/
import Derived.Test.YtlljmgphgmklcaaChecked
import Derived.Test.YtlljmgphgmklcaaC10P1
import Derived.Test.YtlljmgphgmklcaaC10P7
import Derived.Test.YtlljmgphgmklcaaC10P4
import Derived.WalkKit
import Derived.WalkSpells
import Derived.WalkLawsBesides
import Derived.BigQuiet
import Derived.OwnWalk
import Derived.Deep.LoopGhost
import Derived.Deep.QuietTactic
import Derived.IntWalk
import Derived.Lib.QuietBelow
import Derived.Test.YtlljmgphgmklcaaC10P5
import Derived.StillTailTactics
import Derived.Test.YtlljmgphgmklcaaC10P2
import Derived.Test.YtlljmgphgmklcaaC10P3
/- loop.example/g01062/impl.filledWith as a plain function, and the contract of the program's: where the plain one has an answer, the program has it. Conditions: slices read as lists. -/
namespace Go.Proofs.Ytlljmgphgmklcaa.GiFilledWith
set_option linter.unusedVariables false
set_option linter.unusedSimpArgs false
open Go.RowKit
open Go.Proofs.Ytlljmgphgmklcaa.Rowed Go.Proofs.Ytlljmgphgmklcaa.Turn Go.Proofs.Ytlljmgphgmklcaa.Aid Go.Proofs.Ytlljmgphgmklcaa.GoP Go.Proofs.Ytlljmgphgmklcaa.GoM

def l0 (minute : Int) (k0 : Nat) (s : (List Int)) (nx0 bk0 : (List Int) → Option (Go.Proofs.Ytlljmgphgmklcaa.PIntA10.IntA10)) : Option (Go.Proofs.Ytlljmgphgmklcaa.PIntA10.IntA10) :=
  letK s fun minutes_3l0 =>
  Option.bind (idx minutes_3l0 (k0 : Int)) fun (yt_8 : Int) =>
  letK (minutes_3l0.set k0 minute) fun (l9_9 : (List Int)) =>
  appK nx0 (l9_9)

def e0  (s : (List Int)) : Option (Go.Proofs.Ytlljmgphgmklcaa.PIntA10.IntA10) :=
  letK s fun minutes_3l0 =>
  some (Go.Proofs.Ytlljmgphgmklcaa.PIntA10.IntA10.mk (Go.Proofs.Ytlljmgphgmklcaa.GoA.nth minutes_3l0 0) (Go.Proofs.Ytlljmgphgmklcaa.GoA.nth minutes_3l0 1) (Go.Proofs.Ytlljmgphgmklcaa.GoA.nth minutes_3l0 2) (Go.Proofs.Ytlljmgphgmklcaa.GoA.nth minutes_3l0 3) (Go.Proofs.Ytlljmgphgmklcaa.GoA.nth minutes_3l0 4) (Go.Proofs.Ytlljmgphgmklcaa.GoA.nth minutes_3l0 5) (Go.Proofs.Ytlljmgphgmklcaa.GoA.nth minutes_3l0 6) (Go.Proofs.Ytlljmgphgmklcaa.GoA.nth minutes_3l0 7) (Go.Proofs.Ytlljmgphgmklcaa.GoA.nth minutes_3l0 8) (Go.Proofs.Ytlljmgphgmklcaa.GoA.nth minutes_3l0 9))

def P (minute : Int) : Option (Go.Proofs.Ytlljmgphgmklcaa.PIntA10.IntA10) :=
  letK ([0, 0, 0, 0, 0, 0, 0, 0, 0, 0]) fun (vminutes_1 : (List Int)) =>
  cntK (l0 minute) (10) 0 (vminutes_1) (e0 )

set_option maxRecDepth 100000 in
set_option maxHeartbeats 2000000 in
theorem C (minute : Int)   (w : World)   {r : Go.Proofs.Ytlljmgphgmklcaa.PIntA10.IntA10} (H : Hid (P minute = some r)) :
    Calls Try.prog 154 #[.int .i64 minute] w (Gives ((Go.Proofs.Ytlljmgphgmklcaa.PIntA10.IntA10.val r)) w) := by
  have HB := Lib.hid (Below.refl w.heap.size w)
  unfold P at H
  go_enter Try.func154, Try.ntmps154
  obtain ⟨w_t_0, hw_t_0⟩ : ∃ x, w.alloc (.cells #[.int .i64 0, .int .i64 0, .int .i64 0, .int .i64 0, .int .i64 0, .int .i64 0, .int .i64 0, .int .i64 0, .int .i64 0, .int .i64 0] 121) = x := ⟨_, rfl⟩
  have bw_t_0 : Below w.heap.size w w_t_0 := by rw [← hw_t_0]; exact (Below.refl _ _).alloc (Nat.le_refl _) _
  have HBw_t_0 := Lib.hid (Below.step HB.out bw_t_0)
  clear bw_t_0
  have kt_0_0 : w_t_0.cell? ⟨w.heap.size, 0, none⟩ = some (.int .i64 0) := by rw [← hw_t_0]; exact box_new _ _ _ 0 _ rfl
  have kt_0_1 : w_t_0.cell? ⟨w.heap.size, 1, none⟩ = some (.int .i64 0) := by rw [← hw_t_0]; exact box_new _ _ _ 1 _ rfl
  have kt_0_2 : w_t_0.cell? ⟨w.heap.size, 2, none⟩ = some (.int .i64 0) := by rw [← hw_t_0]; exact box_new _ _ _ 2 _ rfl
  have kt_0_3 : w_t_0.cell? ⟨w.heap.size, 3, none⟩ = some (.int .i64 0) := by rw [← hw_t_0]; exact box_new _ _ _ 3 _ rfl
  have kt_0_4 : w_t_0.cell? ⟨w.heap.size, 4, none⟩ = some (.int .i64 0) := by rw [← hw_t_0]; exact box_new _ _ _ 4 _ rfl
  have kt_0_5 : w_t_0.cell? ⟨w.heap.size, 5, none⟩ = some (.int .i64 0) := by rw [← hw_t_0]; exact box_new _ _ _ 5 _ rfl
  have kt_0_6 : w_t_0.cell? ⟨w.heap.size, 6, none⟩ = some (.int .i64 0) := by rw [← hw_t_0]; exact box_new _ _ _ 6 _ rfl
  have kt_0_7 : w_t_0.cell? ⟨w.heap.size, 7, none⟩ = some (.int .i64 0) := by rw [← hw_t_0]; exact box_new _ _ _ 7 _ rfl
  have kt_0_8 : w_t_0.cell? ⟨w.heap.size, 8, none⟩ = some (.int .i64 0) := by rw [← hw_t_0]; exact box_new _ _ _ 8 _ rfl
  have kt_0_9 : w_t_0.cell? ⟨w.heap.size, 9, none⟩ = some (.int .i64 0) := by rw [← hw_t_0]; exact box_new _ _ _ 9 _ rfl
  have Ot_0 : Hid (w_t_0.ownsRow w.heap.size 121 10 (.slice (some ⟨w.heap.size, 0, none⟩) 1 1) 1 [.int .i64 0, .int .i64 0, .int .i64 0, .int .i64 0, .int .i64 0, .int .i64 0, .int .i64 0, .int .i64 0, .int .i64 0, .int .i64 0]) := Lib.hid (by rw [← hw_t_0]; exact own_laid (n := 1) HB.out.size rfl rfl (by unfold maxLen; omega))
  replace H := let_hid H
  obtain ⟨vminutes_1, hvminutes_1, H⟩ := H
  obtain ⟨w_minutes_1, hw_minutes_1⟩ : ∃ x, w_t_0.alloc (.cells #[.int .i64 0, .int .i64 0, .int .i64 0, .int .i64 0, .int .i64 0, .int .i64 0, .int .i64 0, .int .i64 0, .int .i64 0, .int .i64 0] 121) = x := ⟨_, rfl⟩
  have bw_minutes_1 : Below w_t_0.heap.size w_t_0 w_minutes_1 := by rw [← hw_minutes_1]; exact (Below.refl _ _).alloc (Nat.le_refl _) _
  have hs_minutes_1 := HBw_t_0.out.size
  have nminutes_1 : vminutes_1.length = 10 := by rw [← hvminutes_1]; rfl
  have Ominutes_1 : Hid (w_minutes_1.ownsRow w.heap.size 121 1 (.slice (some ⟨w_t_0.heap.size, 0, none⟩) 10 10) 10 (Go.Proofs.Ytlljmgphgmklcaa.HelpInt.iv vminutes_1)) := by
    rw [← hw_minutes_1, ← hvminutes_1]
    have e_ : ([.int .i64 0, .int .i64 0, .int .i64 0, .int .i64 0, .int .i64 0, .int .i64 0, .int .i64 0, .int .i64 0, .int .i64 0, .int .i64 0] : List Value) = Go.Proofs.Ytlljmgphgmklcaa.HelpInt.iv [0, 0, 0, 0, 0, 0, 0, 0, 0, 0] := rfl
    exact Lib.hid (own_laid (n := 10) hs_minutes_1 e_ rfl (by unfold maxLen; omega))
  clear hs_minutes_1
  have hhminutes_1 := Lib.hid hvminutes_1
  clear hvminutes_1
  replace nminutes_1 := Lib.hid nminutes_1
  have Dminutes_1_t_0 := Lib.hid (apart_box kt_0_0)
  have HBw_minutes_1 := Lib.hid (Below.step HBw_t_0.out bw_minutes_1)
  have kt_0_0__473 := cell_below bw_minutes_1 kt_0_0
  have kt_0_1__474 := cell_below bw_minutes_1 kt_0_1
  have kt_0_2__475 := cell_below bw_minutes_1 kt_0_2
  have kt_0_3__476 := cell_below bw_minutes_1 kt_0_3
  have kt_0_4__477 := cell_below bw_minutes_1 kt_0_4
  have kt_0_5__478 := cell_below bw_minutes_1 kt_0_5
  have kt_0_6__479 := cell_below bw_minutes_1 kt_0_6
  have kt_0_7__480 := cell_below bw_minutes_1 kt_0_7
  have kt_0_8__481 := cell_below bw_minutes_1 kt_0_8
  have kt_0_9__482 := cell_below bw_minutes_1 kt_0_9
  replace Ot_0 := Lib.hid (own_below Ot_0.out bw_minutes_1)
  clear bw_minutes_1
  go_wp2_with fail
  clear kt_0_0 kt_0_1 kt_0_2 kt_0_3 kt_0_4 kt_0_5 kt_0_6 kt_0_7 kt_0_8 kt_0_9
  go_wp2_with fail
  go_loopg [5] (10) (fun m_ v5_ wr => ∃ (k0 : Nat) (minutes_3l0 : (List Int)), k0 + m_ = 10 ∧ v5_ = .int .i64 (k0 : Int) ∧ Hid (cntK (l0 minute) m_ k0 (minutes_3l0) (e0 ) = some r) ∧ Hid (Below w.heap.size w wr) ∧ wr.cell? ⟨w.heap.size, 0, none⟩ = some (.int .i64 0) ∧ wr.cell? ⟨w.heap.size, 1, none⟩ = some (.int .i64 0) ∧ wr.cell? ⟨w.heap.size, 2, none⟩ = some (.int .i64 0) ∧ wr.cell? ⟨w.heap.size, 3, none⟩ = some (.int .i64 0) ∧ wr.cell? ⟨w.heap.size, 4, none⟩ = some (.int .i64 0) ∧ wr.cell? ⟨w.heap.size, 5, none⟩ = some (.int .i64 0) ∧ wr.cell? ⟨w.heap.size, 6, none⟩ = some (.int .i64 0) ∧ wr.cell? ⟨w.heap.size, 7, none⟩ = some (.int .i64 0) ∧ wr.cell? ⟨w.heap.size, 8, none⟩ = some (.int .i64 0) ∧ wr.cell? ⟨w.heap.size, 9, none⟩ = some (.int .i64 0) ∧ Hid (wr.ownsRow w.heap.size 121 10 (.slice (some ⟨w.heap.size, 0, none⟩) 1 1) 1 [.int .i64 0, .int .i64 0, .int .i64 0, .int .i64 0, .int .i64 0, .int .i64 0, .int .i64 0, .int .i64 0, .int .i64 0, .int .i64 0]) ∧ Hid (wr.ownsRow w.heap.size 121 1 (.slice (some ⟨w_t_0.heap.size, 0, none⟩) 10 10) 10 (Go.Proofs.Ytlljmgphgmklcaa.HelpInt.iv minutes_3l0)) ∧ Hid (minutes_3l0.length = 10) ∧ Hid (Apart (some ⟨w_t_0.heap.size, 0, none⟩) (some ⟨w.heap.size, 0, none⟩)))
  case atStart => exact ⟨0, _, by omega, rfl, H, HBw_minutes_1, kt_0_0__473, kt_0_1__474, kt_0_2__475, kt_0_3__476, kt_0_4__477, kt_0_5__478, kt_0_6__479, kt_0_7__480, kt_0_8__481, kt_0_9__482, Ot_0, Ominutes_1, Lib.hid (nminutes_1.out), Lib.hid Dminutes_1_t_0.out⟩
  case round =>
    obtain ⟨k0, minutes_3l0, hkm0, rfl, H, HBwr0, kt_0_0__473, kt_0_1__474, kt_0_2__475, kt_0_3__476, kt_0_4__477, kt_0_5__478, kt_0_6__479, kt_0_7__480, kt_0_8__481, kt_0_9__482, Ot_0, Ominutes_3l0, hnminutes_3l0, Dminutes_3l0_t_0⟩ := hrel
    rename World => wr0
    cases gk with
    | zero =>
      obtain rfl : k0 = 10 := by omega
      have hc0 : decide (((10 : Nat) : Int) < ((10 : Nat) : Int)) = false := by simp
      replace H := cnt_zero H
      unfold e0 at H
      replace H := let_hid H
      obtain ⟨_, rfl, H⟩ := H
      have ka_483 : wr0.cell? ⟨w_t_0.heap.size, 0, none⟩ = some (.int .i64 (Go.Proofs.Ytlljmgphgmklcaa.GoA.nth minutes_3l0 0)) := Go.Proofs.Ytlljmgphgmklcaa.GoA.row_at Ominutes_3l0.out hnminutes_3l0.out 0 (by omega)
      have ka_484 : wr0.cell? ⟨w_t_0.heap.size, 1, none⟩ = some (.int .i64 (Go.Proofs.Ytlljmgphgmklcaa.GoA.nth minutes_3l0 1)) := Go.Proofs.Ytlljmgphgmklcaa.GoA.row_at Ominutes_3l0.out hnminutes_3l0.out 1 (by omega)
      have ka_485 : wr0.cell? ⟨w_t_0.heap.size, 2, none⟩ = some (.int .i64 (Go.Proofs.Ytlljmgphgmklcaa.GoA.nth minutes_3l0 2)) := Go.Proofs.Ytlljmgphgmklcaa.GoA.row_at Ominutes_3l0.out hnminutes_3l0.out 2 (by omega)
      have ka_486 : wr0.cell? ⟨w_t_0.heap.size, 3, none⟩ = some (.int .i64 (Go.Proofs.Ytlljmgphgmklcaa.GoA.nth minutes_3l0 3)) := Go.Proofs.Ytlljmgphgmklcaa.GoA.row_at Ominutes_3l0.out hnminutes_3l0.out 3 (by omega)
      have ka_487 : wr0.cell? ⟨w_t_0.heap.size, 4, none⟩ = some (.int .i64 (Go.Proofs.Ytlljmgphgmklcaa.GoA.nth minutes_3l0 4)) := Go.Proofs.Ytlljmgphgmklcaa.GoA.row_at Ominutes_3l0.out hnminutes_3l0.out 4 (by omega)
      have ka_488 : wr0.cell? ⟨w_t_0.heap.size, 5, none⟩ = some (.int .i64 (Go.Proofs.Ytlljmgphgmklcaa.GoA.nth minutes_3l0 5)) := Go.Proofs.Ytlljmgphgmklcaa.GoA.row_at Ominutes_3l0.out hnminutes_3l0.out 5 (by omega)
      have ka_489 : wr0.cell? ⟨w_t_0.heap.size, 6, none⟩ = some (.int .i64 (Go.Proofs.Ytlljmgphgmklcaa.GoA.nth minutes_3l0 6)) := Go.Proofs.Ytlljmgphgmklcaa.GoA.row_at Ominutes_3l0.out hnminutes_3l0.out 6 (by omega)
      have ka_490 : wr0.cell? ⟨w_t_0.heap.size, 7, none⟩ = some (.int .i64 (Go.Proofs.Ytlljmgphgmklcaa.GoA.nth minutes_3l0 7)) := Go.Proofs.Ytlljmgphgmklcaa.GoA.row_at Ominutes_3l0.out hnminutes_3l0.out 7 (by omega)
      have ka_491 : wr0.cell? ⟨w_t_0.heap.size, 8, none⟩ = some (.int .i64 (Go.Proofs.Ytlljmgphgmklcaa.GoA.nth minutes_3l0 8)) := Go.Proofs.Ytlljmgphgmklcaa.GoA.row_at Ominutes_3l0.out hnminutes_3l0.out 8 (by omega)
      have ka_492 : wr0.cell? ⟨w_t_0.heap.size, 9, none⟩ = some (.int .i64 (Go.Proofs.Ytlljmgphgmklcaa.GoA.nth minutes_3l0 9)) := Go.Proofs.Ytlljmgphgmklcaa.GoA.row_at Ominutes_3l0.out hnminutes_3l0.out 9 (by omega)
      obtain ⟨wb13_13, hwb13_13⟩ : ∃ x, ((((((((((wr0).setCell ⟨w.heap.size, 0, none⟩ (.int .i64 (Go.Proofs.Ytlljmgphgmklcaa.GoA.nth minutes_3l0 0))).setCell ⟨w.heap.size, 1, none⟩ (.int .i64 (Go.Proofs.Ytlljmgphgmklcaa.GoA.nth minutes_3l0 1))).setCell ⟨w.heap.size, 2, none⟩ (.int .i64 (Go.Proofs.Ytlljmgphgmklcaa.GoA.nth minutes_3l0 2))).setCell ⟨w.heap.size, 3, none⟩ (.int .i64 (Go.Proofs.Ytlljmgphgmklcaa.GoA.nth minutes_3l0 3))).setCell ⟨w.heap.size, 4, none⟩ (.int .i64 (Go.Proofs.Ytlljmgphgmklcaa.GoA.nth minutes_3l0 4))).setCell ⟨w.heap.size, 5, none⟩ (.int .i64 (Go.Proofs.Ytlljmgphgmklcaa.GoA.nth minutes_3l0 5))).setCell ⟨w.heap.size, 6, none⟩ (.int .i64 (Go.Proofs.Ytlljmgphgmklcaa.GoA.nth minutes_3l0 6))).setCell ⟨w.heap.size, 7, none⟩ (.int .i64 (Go.Proofs.Ytlljmgphgmklcaa.GoA.nth minutes_3l0 7))).setCell ⟨w.heap.size, 8, none⟩ (.int .i64 (Go.Proofs.Ytlljmgphgmklcaa.GoA.nth minutes_3l0 8))).setCell ⟨w.heap.size, 9, none⟩ (.int .i64 (Go.Proofs.Ytlljmgphgmklcaa.GoA.nth minutes_3l0 9)) = x := ⟨_, rfl⟩
      have z0b13_13 := Ot_0.out.frozenAt 0
      have z1b13_13 := Ot_0.out.frozenAt 1
      have z2b13_13 := Ot_0.out.frozenAt 2
      have z3b13_13 := Ot_0.out.frozenAt 3
      have z4b13_13 := Ot_0.out.frozenAt 4
      have z5b13_13 := Ot_0.out.frozenAt 5
      have z6b13_13 := Ot_0.out.frozenAt 6
      have z7b13_13 := Ot_0.out.frozenAt 7
      have z8b13_13 := Ot_0.out.frozenAt 8
      have z9b13_13 := Ot_0.out.frozenAt 9
      have Sb13_13 := Lib.hid (own_stores [(0, .int .i64 (Go.Proofs.Ytlljmgphgmklcaa.GoA.nth minutes_3l0 0)), (1, .int .i64 (Go.Proofs.Ytlljmgphgmklcaa.GoA.nth minutes_3l0 1)), (2, .int .i64 (Go.Proofs.Ytlljmgphgmklcaa.GoA.nth minutes_3l0 2)), (3, .int .i64 (Go.Proofs.Ytlljmgphgmklcaa.GoA.nth minutes_3l0 3)), (4, .int .i64 (Go.Proofs.Ytlljmgphgmklcaa.GoA.nth minutes_3l0 4)), (5, .int .i64 (Go.Proofs.Ytlljmgphgmklcaa.GoA.nth minutes_3l0 5)), (6, .int .i64 (Go.Proofs.Ytlljmgphgmklcaa.GoA.nth minutes_3l0 6)), (7, .int .i64 (Go.Proofs.Ytlljmgphgmklcaa.GoA.nth minutes_3l0 7)), (8, .int .i64 (Go.Proofs.Ytlljmgphgmklcaa.GoA.nth minutes_3l0 8)), (9, .int .i64 (Go.Proofs.Ytlljmgphgmklcaa.GoA.nth minutes_3l0 9))] Ot_0.out)
      have Pb13_13 : Hid (wb13_13.ownsRow w.heap.size 121 10 (.slice (some ⟨w.heap.size, 0, none⟩) 1 1) 1 [.int .i64 (Go.Proofs.Ytlljmgphgmklcaa.GoA.nth minutes_3l0 0), .int .i64 (Go.Proofs.Ytlljmgphgmklcaa.GoA.nth minutes_3l0 1), .int .i64 (Go.Proofs.Ytlljmgphgmklcaa.GoA.nth minutes_3l0 2), .int .i64 (Go.Proofs.Ytlljmgphgmklcaa.GoA.nth minutes_3l0 3), .int .i64 (Go.Proofs.Ytlljmgphgmklcaa.GoA.nth minutes_3l0 4), .int .i64 (Go.Proofs.Ytlljmgphgmklcaa.GoA.nth minutes_3l0 5), .int .i64 (Go.Proofs.Ytlljmgphgmklcaa.GoA.nth minutes_3l0 6), .int .i64 (Go.Proofs.Ytlljmgphgmklcaa.GoA.nth minutes_3l0 7), .int .i64 (Go.Proofs.Ytlljmgphgmklcaa.GoA.nth minutes_3l0 8), .int .i64 (Go.Proofs.Ytlljmgphgmklcaa.GoA.nth minutes_3l0 9)]) := Lib.hid (by rw [← hwb13_13]; exact Sb13_13.out.1)
      have Gb13_13 : Hid (wr0.grownBy wb13_13 (Value.slice (some ⟨w.heap.size, 0, none⟩) 1 1).ownBlock) := Lib.hid (by rw [← hwb13_13]; exact Sb13_13.out.2)
      have HBwb13_13 := Lib.hid (HBwr0.out.grown Gb13_13.out HBwr0.out.size (fun q hq => (Ot_0.out.lt q hq).1))
      clear Sb13_13
      replace Ominutes_3l0 := Lib.hid (own_other Ominutes_3l0.out Gb13_13.out (Apart.symm Dminutes_3l0_t_0.out))
      clear Ot_0 Gb13_13
      have kt_0_0__493 : wb13_13.cell? ⟨w.heap.size, 0, none⟩ = some (.int .i64 (Go.Proofs.Ytlljmgphgmklcaa.GoA.nth minutes_3l0 0)) := Pb13_13.out.cells rfl 0 _ rfl
      have kt_0_1__494 : wb13_13.cell? ⟨w.heap.size, 1, none⟩ = some (.int .i64 (Go.Proofs.Ytlljmgphgmklcaa.GoA.nth minutes_3l0 1)) := Pb13_13.out.cells rfl 1 _ rfl
      have kt_0_2__495 : wb13_13.cell? ⟨w.heap.size, 2, none⟩ = some (.int .i64 (Go.Proofs.Ytlljmgphgmklcaa.GoA.nth minutes_3l0 2)) := Pb13_13.out.cells rfl 2 _ rfl
      have kt_0_3__496 : wb13_13.cell? ⟨w.heap.size, 3, none⟩ = some (.int .i64 (Go.Proofs.Ytlljmgphgmklcaa.GoA.nth minutes_3l0 3)) := Pb13_13.out.cells rfl 3 _ rfl
      have kt_0_4__497 : wb13_13.cell? ⟨w.heap.size, 4, none⟩ = some (.int .i64 (Go.Proofs.Ytlljmgphgmklcaa.GoA.nth minutes_3l0 4)) := Pb13_13.out.cells rfl 4 _ rfl
      have kt_0_5__498 : wb13_13.cell? ⟨w.heap.size, 5, none⟩ = some (.int .i64 (Go.Proofs.Ytlljmgphgmklcaa.GoA.nth minutes_3l0 5)) := Pb13_13.out.cells rfl 5 _ rfl
      have kt_0_6__499 : wb13_13.cell? ⟨w.heap.size, 6, none⟩ = some (.int .i64 (Go.Proofs.Ytlljmgphgmklcaa.GoA.nth minutes_3l0 6)) := Pb13_13.out.cells rfl 6 _ rfl
      have kt_0_7__500 : wb13_13.cell? ⟨w.heap.size, 7, none⟩ = some (.int .i64 (Go.Proofs.Ytlljmgphgmklcaa.GoA.nth minutes_3l0 7)) := Pb13_13.out.cells rfl 7 _ rfl
      have kt_0_8__501 : wb13_13.cell? ⟨w.heap.size, 8, none⟩ = some (.int .i64 (Go.Proofs.Ytlljmgphgmklcaa.GoA.nth minutes_3l0 8)) := Pb13_13.out.cells rfl 8 _ rfl
      have kt_0_9__502 : wb13_13.cell? ⟨w.heap.size, 9, none⟩ = some (.int .i64 (Go.Proofs.Ytlljmgphgmklcaa.GoA.nth minutes_3l0 9)) := Pb13_13.out.cells rfl 9 _ rfl
      cases ret_hid H
      go_wp2_with fail
      (try simp only [Exit.inBlock, Exit.then])
      refine bodyPost_ret (v := .agg #[.int .i64 (Go.Proofs.Ytlljmgphgmklcaa.GoA.nth minutes_3l0 0), .int .i64 (Go.Proofs.Ytlljmgphgmklcaa.GoA.nth minutes_3l0 1), .int .i64 (Go.Proofs.Ytlljmgphgmklcaa.GoA.nth minutes_3l0 2), .int .i64 (Go.Proofs.Ytlljmgphgmklcaa.GoA.nth minutes_3l0 3), .int .i64 (Go.Proofs.Ytlljmgphgmklcaa.GoA.nth minutes_3l0 4), .int .i64 (Go.Proofs.Ytlljmgphgmklcaa.GoA.nth minutes_3l0 5), .int .i64 (Go.Proofs.Ytlljmgphgmklcaa.GoA.nth minutes_3l0 6), .int .i64 (Go.Proofs.Ytlljmgphgmklcaa.GoA.nth minutes_3l0 7), .int .i64 (Go.Proofs.Ytlljmgphgmklcaa.GoA.nth minutes_3l0 8), .int .i64 (Go.Proofs.Ytlljmgphgmklcaa.GoA.nth minutes_3l0 9)]) ?hr_ ?hd_ ?_
      case hd_ => rfl
      case hr_ => simp [results, Try.results154, kt_0_0__493, kt_0_1__494, kt_0_2__495, kt_0_3__496, kt_0_4__497, kt_0_5__498, kt_0_6__499, kt_0_7__500, kt_0_8__501, kt_0_9__502, go_sem]
      exact ⟨rfl, HBwb13_13.out⟩
    | succ m0 =>
      have hlt0 : k0 < 10 := by omega
      have hc0 : decide ((k0 : Int) < ((10 : Nat) : Int)) = true := by simp; omega
      replace H := cnt_succ H
      have hd0 : decide ((k0 : Int) < 10) = true := by simp; omega
      unfold l0 at H
      replace H := let_hid H
      obtain ⟨_, rfl, H⟩ := H
      replace H := idx_hid H
      obtain ⟨nt_8, yt_8, et_8, lt_8, gt_8, H⟩ := H
      obtain rfl : k0 = nt_8 := by omega
      clear et_8
      have hqt_8 := hnminutes_3l0.out
      obtain ⟨ab_t_8, ao_t_8, zt_8, At_8, z_t_8, ct_8_0⟩ := Go.Proofs.Ytlljmgphgmklcaa.HelpInt.Ints.at_ (own_cells Ominutes_3l0.out) (k := k0) (by omega)
      obtain rfl := Option.some.inj (gt_8.out.symm.trans z_t_8)
      simp only [Option.some.injEq, Addr.mk.injEq] at At_8
      obtain ⟨rfl, rfl, _⟩ := At_8
      clear z_t_8
      simp only [Nat.zero_add] at ct_8_0
      have b0t_8 : (0 : Int) ≤ (k0 : Int) := by omega
      have b1t_8 : (k0 : Int) < ((10 : Nat) : Int) := by omega
      have b2t_8 : ((k0 : Int)).toNat = k0 := by omega
      clear hqt_8
      have b3t_8 : k0 < 10 := by have h_ := lt_8; have hn_ := hnminutes_3l0.out; omega
      have b4t_8 : (k0 : Int) < (10 : Int) := by omega
      replace H := let_hid H
      obtain ⟨l9_9, hl9_9, H⟩ := H
      try simp only [Int.toNat_natCast] at hl9_9
      obtain ⟨wl9_9, hwl9_9⟩ : ∃ x, (wr0).setCell ⟨w_t_0.heap.size, k0, none⟩ (.int .i64 minute) = x := ⟨_, rfl⟩
      have z0l9_9 := Ominutes_3l0.out.frozenAt (k0)
      have Sl9_9 := Lib.hid (own_stores [(k0, .int .i64 minute)] Ominutes_3l0.out)
      have nl9_9 : Hid (l9_9.length = 10) := Lib.hid (by rw [← hl9_9, List.length_set]; exact hnminutes_3l0.out)
      have Pl9_9 : Hid (wl9_9.ownsRow w.heap.size 121 1 (.slice (some ⟨w_t_0.heap.size, 0, none⟩) 10 10) 10 (Go.Proofs.Ytlljmgphgmklcaa.HelpInt.iv l9_9)) := Lib.hid (by have e_ : ([(k0, .int .i64 minute)] : List (Nat × Value)).foldl (fun xs p => xs.set p.1 p.2) (Go.Proofs.Ytlljmgphgmklcaa.HelpInt.iv minutes_3l0) = (Go.Proofs.Ytlljmgphgmklcaa.HelpInt.iv l9_9) := (by rw [← hl9_9]; first | done | simp [Go.Proofs.Ytlljmgphgmklcaa.HelpInt.iv, List.map_set]); rw [← hwl9_9, ← e_]; exact Sl9_9.out.1)
      have Gl9_9 : Hid (wr0.grownBy wl9_9 (Value.slice (some ⟨w_t_0.heap.size, 0, none⟩) 10 10).ownBlock) := Lib.hid (by rw [← hwl9_9]; exact Sl9_9.out.2)
      have HBwl9_9 := Lib.hid (HBwr0.out.grown Gl9_9.out HBwr0.out.size (fun q hq => (Ominutes_3l0.out.lt q hq).1))
      have hhl9_9 := Lib.hid hl9_9
      clear hl9_9 Sl9_9
      have kt_0_0__503 := cell_other kt_0_0__473 Gl9_9.out Dminutes_3l0_t_0.out
      have kt_0_1__504 := cell_other kt_0_1__474 Gl9_9.out Dminutes_3l0_t_0.out
      have kt_0_2__505 := cell_other kt_0_2__475 Gl9_9.out Dminutes_3l0_t_0.out
      have kt_0_3__506 := cell_other kt_0_3__476 Gl9_9.out Dminutes_3l0_t_0.out
      have kt_0_4__507 := cell_other kt_0_4__477 Gl9_9.out Dminutes_3l0_t_0.out
      have kt_0_5__508 := cell_other kt_0_5__478 Gl9_9.out Dminutes_3l0_t_0.out
      have kt_0_6__509 := cell_other kt_0_6__479 Gl9_9.out Dminutes_3l0_t_0.out
      have kt_0_7__510 := cell_other kt_0_7__480 Gl9_9.out Dminutes_3l0_t_0.out
      have kt_0_8__511 := cell_other kt_0_8__481 Gl9_9.out Dminutes_3l0_t_0.out
      have kt_0_9__512 := cell_other kt_0_9__482 Gl9_9.out Dminutes_3l0_t_0.out
      replace Ot_0 := Lib.hid (own_other Ot_0.out Gl9_9.out Dminutes_3l0_t_0.out)
      clear Ominutes_3l0 Gl9_9
      replace H := app_hid H
      go_wp2_with fail
      clear z0l9_9 kt_0_0__473 kt_0_1__474 kt_0_2__475 kt_0_3__476 kt_0_4__477 kt_0_5__478 kt_0_6__479 kt_0_7__480 kt_0_8__481 kt_0_9__482 ct_8_0
      go_roundg m0
      case measure => omega
      case rel => exact ⟨k0 + 1, _, by omega, by go_num, H, HBwl9_9, kt_0_0__503, kt_0_1__504, kt_0_2__505, kt_0_3__506, kt_0_4__507, kt_0_5__508, kt_0_6__509, kt_0_7__510, kt_0_8__511, kt_0_9__512, Ot_0, Pl9_9, Lib.hid (nl9_9.out), Lib.hid Dminutes_3l0_t_0.out⟩
end Go.Proofs.Ytlljmgphgmklcaa.GiFilledWith

/- loop.example/g01062/impl.earliestMinutes as a plain function, and the contract of the program's: where the plain one has an answer, the program has it. Conditions: slices read as lists. -/
namespace Go.Proofs.Ytlljmgphgmklcaa.GiEarliestMinutes
set_option linter.unusedVariables false
set_option linter.unusedSimpArgs false
open Go.RowKit
open Go.Proofs.Ytlljmgphgmklcaa.Rowed Go.Proofs.Ytlljmgphgmklcaa.Turn Go.Proofs.Ytlljmgphgmklcaa.Aid Go.Proofs.Ytlljmgphgmklcaa.GoP Go.Proofs.Ytlljmgphgmklcaa.GoM

def l0 (list : (List Go.Proofs.Ytlljmgphgmklcaa.PMail.Mail)) (k0 : Nat) (s : (List Int)) (nx0 bk0 : (List Int) → Option (Go.Proofs.Ytlljmgphgmklcaa.PIntA10.IntA10)) : Option (Go.Proofs.Ytlljmgphgmklcaa.PIntA10.IntA10) :=
  letK s fun earliest_7l0 =>
  Option.bind (idx list (k0 : Int)) fun (yt_12 : Go.Proofs.Ytlljmgphgmklcaa.PMail.Mail) =>
  unMail yt_12 fun (t_12_leave : Int) (t_12_from_ : Int) (t_12_to_ : Int) (t_12_arrive : Int) =>
  Option.bind (idx earliest_7l0 t_12_from_) fun (yt_18 : Int) =>
  letK (decide (yt_18 ≤ t_12_leave)) fun (t_22 : Bool) =>
  iteK t_22
  (Option.bind (idx earliest_7l0 t_12_to_) fun (yt_27 : Int) =>
  letK (min yt_27 t_12_arrive) fun (t_31 : Int) =>
  Option.bind (idx earliest_7l0 t_12_to_) fun (yt_32 : Int) =>
  letK (earliest_7l0.set (t_12_to_).toNat t_31) fun (l33_33 : (List Int)) =>
  appK nx0 (l33_33))
  (appK nx0 (earliest_7l0))

def e0  (s : (List Int)) : Option (Go.Proofs.Ytlljmgphgmklcaa.PIntA10.IntA10) :=
  letK s fun earliest_7l0 =>
  some (Go.Proofs.Ytlljmgphgmklcaa.PIntA10.IntA10.mk (Go.Proofs.Ytlljmgphgmklcaa.GoA.nth earliest_7l0 0) (Go.Proofs.Ytlljmgphgmklcaa.GoA.nth earliest_7l0 1) (Go.Proofs.Ytlljmgphgmklcaa.GoA.nth earliest_7l0 2) (Go.Proofs.Ytlljmgphgmklcaa.GoA.nth earliest_7l0 3) (Go.Proofs.Ytlljmgphgmklcaa.GoA.nth earliest_7l0 4) (Go.Proofs.Ytlljmgphgmklcaa.GoA.nth earliest_7l0 5) (Go.Proofs.Ytlljmgphgmklcaa.GoA.nth earliest_7l0 6) (Go.Proofs.Ytlljmgphgmklcaa.GoA.nth earliest_7l0 7) (Go.Proofs.Ytlljmgphgmklcaa.GoA.nth earliest_7l0 8) (Go.Proofs.Ytlljmgphgmklcaa.GoA.nth earliest_7l0 9))

def P (list : (List Go.Proofs.Ytlljmgphgmklcaa.PMail.Mail)) (from_1 : Int) (minute : Int) : Option (Go.Proofs.Ytlljmgphgmklcaa.PIntA10.IntA10) :=
  Option.bind (Go.Proofs.Ytlljmgphgmklcaa.GiFilledWith.P 10000) fun (t_1 : Go.Proofs.Ytlljmgphgmklcaa.PIntA10.IntA10) =>
  unIntA10 t_1 fun (t_1_x0 : Int) (t_1_x1 : Int) (t_1_x2 : Int) (t_1_x3 : Int) (t_1_x4 : Int) (t_1_x5 : Int) (t_1_x6 : Int) (t_1_x7 : Int) (t_1_x8 : Int) (t_1_x9 : Int) =>
  letK ([t_1_x0, t_1_x1, t_1_x2, t_1_x3, t_1_x4, t_1_x5, t_1_x6, t_1_x7, t_1_x8, t_1_x9]) fun (vearliest_2 : (List Int)) =>
  Option.bind (idx vearliest_2 from_1) fun (yt_6 : Int) =>
  letK (vearliest_2.set (from_1).toNat minute) fun (l7_7 : (List Int)) =>
  cntK (l0 list) (list.length) 0 (l7_7) (e0 )

set_option maxRecDepth 100000 in
set_option maxHeartbeats 2000000 in
theorem C (list : (List Go.Proofs.Ytlljmgphgmklcaa.PMail.Mail)) (from_1 : Int) (minute : Int) (A0 : Option Addr) (c0 : Nat)  (w : World) (M0 : Hid (Cells w 4 A0 list.length (Go.Proofs.Ytlljmgphgmklcaa.PMail.flat list))) (N0 : Hid (list.length ≤ 9223372036854775807))  {r : Go.Proofs.Ytlljmgphgmklcaa.PIntA10.IntA10} (H : Hid (P list from_1 minute = some r)) :
    Calls Try.prog 150 #[.slice A0 list.length c0, .int .i64 from_1, .int .i64 minute] w (Gives ((Go.Proofs.Ytlljmgphgmklcaa.PIntA10.IntA10.val r)) w) := by
  have HB := Lib.hid (Below.refl w.heap.size w)
  unfold P at H
  have N0o := N0.out
  go_enter Try.func150, Try.ntmps150
  obtain ⟨w_t_0, hw_t_0⟩ : ∃ x, w.alloc (.cells #[.int .i64 0, .int .i64 0, .int .i64 0, .int .i64 0, .int .i64 0, .int .i64 0, .int .i64 0, .int .i64 0, .int .i64 0, .int .i64 0] 121) = x := ⟨_, rfl⟩
  have bw_t_0 : Below w.heap.size w w_t_0 := by rw [← hw_t_0]; exact (Below.refl _ _).alloc (Nat.le_refl _) _
  have HBw_t_0 := Lib.hid (Below.step HB.out bw_t_0)
  clear bw_t_0
  have kt_0_0 : w_t_0.cell? ⟨w.heap.size, 0, none⟩ = some (.int .i64 0) := by rw [← hw_t_0]; exact box_new _ _ _ 0 _ rfl
  have kt_0_1 : w_t_0.cell? ⟨w.heap.size, 1, none⟩ = some (.int .i64 0) := by rw [← hw_t_0]; exact box_new _ _ _ 1 _ rfl
  have kt_0_2 : w_t_0.cell? ⟨w.heap.size, 2, none⟩ = some (.int .i64 0) := by rw [← hw_t_0]; exact box_new _ _ _ 2 _ rfl
  have kt_0_3 : w_t_0.cell? ⟨w.heap.size, 3, none⟩ = some (.int .i64 0) := by rw [← hw_t_0]; exact box_new _ _ _ 3 _ rfl
  have kt_0_4 : w_t_0.cell? ⟨w.heap.size, 4, none⟩ = some (.int .i64 0) := by rw [← hw_t_0]; exact box_new _ _ _ 4 _ rfl
  have kt_0_5 : w_t_0.cell? ⟨w.heap.size, 5, none⟩ = some (.int .i64 0) := by rw [← hw_t_0]; exact box_new _ _ _ 5 _ rfl
  have kt_0_6 : w_t_0.cell? ⟨w.heap.size, 6, none⟩ = some (.int .i64 0) := by rw [← hw_t_0]; exact box_new _ _ _ 6 _ rfl
  have kt_0_7 : w_t_0.cell? ⟨w.heap.size, 7, none⟩ = some (.int .i64 0) := by rw [← hw_t_0]; exact box_new _ _ _ 7 _ rfl
  have kt_0_8 : w_t_0.cell? ⟨w.heap.size, 8, none⟩ = some (.int .i64 0) := by rw [← hw_t_0]; exact box_new _ _ _ 8 _ rfl
  have kt_0_9 : w_t_0.cell? ⟨w.heap.size, 9, none⟩ = some (.int .i64 0) := by rw [← hw_t_0]; exact box_new _ _ _ 9 _ rfl
  have Ot_0 : Hid (w_t_0.ownsRow w.heap.size 121 10 (.slice (some ⟨w.heap.size, 0, none⟩) 1 1) 1 [.int .i64 0, .int .i64 0, .int .i64 0, .int .i64 0, .int .i64 0, .int .i64 0, .int .i64 0, .int .i64 0, .int .i64 0, .int .i64 0]) := Lib.hid (by rw [← hw_t_0]; exact own_laid (n := 1) HB.out.size rfl rfl (by unfold maxLen; omega))
  replace H := bind_hid H
  obtain ⟨t_1, qt_1, H⟩ := H
  obtain ⟨t_1_x0, t_1_x1, t_1_x2, t_1_x3, t_1_x4, t_1_x5, t_1_x6, t_1_x7, t_1_x8, t_1_x9⟩ := t_1
  replace H := unIntA10_hid H
  go_wp2_with fail
  go_at_call 154
  refine (Go.Proofs.Ytlljmgphgmklcaa.GiFilledWith.C (10000)  _    qt_1).mono ?_
  rintro e_t_1 wt_1 ⟨rfl, bt_1⟩
  unfold Go.Proofs.Ytlljmgphgmklcaa.PIntA10.IntA10.val
  have HBwt_1 := Lib.hid (Below.step HBw_t_0.out bt_1)
  replace kt_0_0 := cell_below bt_1 kt_0_0
  replace kt_0_1 := cell_below bt_1 kt_0_1
  replace kt_0_2 := cell_below bt_1 kt_0_2
  replace kt_0_3 := cell_below bt_1 kt_0_3
  replace kt_0_4 := cell_below bt_1 kt_0_4
  replace kt_0_5 := cell_below bt_1 kt_0_5
  replace kt_0_6 := cell_below bt_1 kt_0_6
  replace kt_0_7 := cell_below bt_1 kt_0_7
  replace kt_0_8 := cell_below bt_1 kt_0_8
  replace kt_0_9 := cell_below bt_1 kt_0_9
  replace Ot_0 := Lib.hid (own_below Ot_0.out bt_1)
  clear bt_1
  replace H := let_hid H
  obtain ⟨vearliest_2, hvearliest_2, H⟩ := H
  obtain ⟨w_earliest_2, hw_earliest_2⟩ : ∃ x, wt_1.alloc (.cells #[.int .i64 t_1_x0, .int .i64 t_1_x1, .int .i64 t_1_x2, .int .i64 t_1_x3, .int .i64 t_1_x4, .int .i64 t_1_x5, .int .i64 t_1_x6, .int .i64 t_1_x7, .int .i64 t_1_x8, .int .i64 t_1_x9] 121) = x := ⟨_, rfl⟩
  have bw_earliest_2 : Below wt_1.heap.size wt_1 w_earliest_2 := by rw [← hw_earliest_2]; exact (Below.refl _ _).alloc (Nat.le_refl _) _
  have hs_earliest_2 := HBwt_1.out.size
  have nearliest_2 : vearliest_2.length = 10 := by rw [← hvearliest_2]; rfl
  have Oearliest_2 : Hid (w_earliest_2.ownsRow w.heap.size 121 1 (.slice (some ⟨wt_1.heap.size, 0, none⟩) 10 10) 10 (Go.Proofs.Ytlljmgphgmklcaa.HelpInt.iv vearliest_2)) := by
    rw [← hw_earliest_2, ← hvearliest_2]
    have e_ : ([.int .i64 t_1_x0, .int .i64 t_1_x1, .int .i64 t_1_x2, .int .i64 t_1_x3, .int .i64 t_1_x4, .int .i64 t_1_x5, .int .i64 t_1_x6, .int .i64 t_1_x7, .int .i64 t_1_x8, .int .i64 t_1_x9] : List Value) = Go.Proofs.Ytlljmgphgmklcaa.HelpInt.iv [t_1_x0, t_1_x1, t_1_x2, t_1_x3, t_1_x4, t_1_x5, t_1_x6, t_1_x7, t_1_x8, t_1_x9] := rfl
    exact Lib.hid (own_laid (n := 10) hs_earliest_2 e_ rfl (by unfold maxLen; omega))
  clear hs_earliest_2
  have hhearliest_2 := Lib.hid hvearliest_2
  clear hvearliest_2
  replace nearliest_2 := Lib.hid nearliest_2
  have Dearliest_2_t_0 := Lib.hid (apart_box kt_0_0)
  have HBw_earliest_2 := Lib.hid (Below.step HBwt_1.out bw_earliest_2)
  have kt_0_0__513 := cell_below bw_earliest_2 kt_0_0
  have kt_0_1__514 := cell_below bw_earliest_2 kt_0_1
  have kt_0_2__515 := cell_below bw_earliest_2 kt_0_2
  have kt_0_3__516 := cell_below bw_earliest_2 kt_0_3
  have kt_0_4__517 := cell_below bw_earliest_2 kt_0_4
  have kt_0_5__518 := cell_below bw_earliest_2 kt_0_5
  have kt_0_6__519 := cell_below bw_earliest_2 kt_0_6
  have kt_0_7__520 := cell_below bw_earliest_2 kt_0_7
  have kt_0_8__521 := cell_below bw_earliest_2 kt_0_8
  have kt_0_9__522 := cell_below bw_earliest_2 kt_0_9
  replace Ot_0 := Lib.hid (own_below Ot_0.out bw_earliest_2)
  clear bw_earliest_2
  replace H := idx_hid H
  obtain ⟨nt_6, yt_6, et_6, lt_6, gt_6, H⟩ := H
  subst et_6
  have hqt_6 := nearliest_2.out
  obtain ⟨ab_t_6, ao_t_6, zt_6, At_6, z_t_6, ct_6_0⟩ := Go.Proofs.Ytlljmgphgmklcaa.HelpInt.Ints.at_ (own_cells Oearliest_2.out) (k := nt_6) (by omega)
  obtain rfl := Option.some.inj (gt_6.out.symm.trans z_t_6)
  simp only [Option.some.injEq, Addr.mk.injEq] at At_6
  obtain ⟨rfl, rfl, _⟩ := At_6
  clear z_t_6
  simp only [Nat.zero_add] at ct_6_0
  have b0t_6 : (0 : Int) ≤ (nt_6 : Int) := by omega
  have b1t_6 : (nt_6 : Int) < ((10 : Nat) : Int) := by omega
  have b2t_6 : ((nt_6 : Int)).toNat = nt_6 := by omega
  clear hqt_6
  have b3t_6 : nt_6 < 10 := by have h_ := lt_6; have hn_ := nearliest_2.out; omega
  have b4t_6 : (nt_6 : Int) < (10 : Int) := by omega
  replace H := let_hid H
  obtain ⟨l7_7, hl7_7, H⟩ := H
  try simp only [Int.toNat_natCast] at hl7_7
  obtain ⟨wl7_7, hwl7_7⟩ : ∃ x, (w_earliest_2).setCell ⟨wt_1.heap.size, nt_6, none⟩ (.int .i64 minute) = x := ⟨_, rfl⟩
  have z0l7_7 := Oearliest_2.out.frozenAt (nt_6)
  have Sl7_7 := Lib.hid (own_stores [(nt_6, .int .i64 minute)] Oearliest_2.out)
  have nl7_7 : Hid (l7_7.length = 10) := Lib.hid (by rw [← hl7_7, List.length_set]; exact nearliest_2.out)
  have Pl7_7 : Hid (wl7_7.ownsRow w.heap.size 121 1 (.slice (some ⟨wt_1.heap.size, 0, none⟩) 10 10) 10 (Go.Proofs.Ytlljmgphgmklcaa.HelpInt.iv l7_7)) := Lib.hid (by have e_ : ([(nt_6, .int .i64 minute)] : List (Nat × Value)).foldl (fun xs p => xs.set p.1 p.2) (Go.Proofs.Ytlljmgphgmklcaa.HelpInt.iv vearliest_2) = (Go.Proofs.Ytlljmgphgmklcaa.HelpInt.iv l7_7) := (by rw [← hl7_7]; first | done | simp [Go.Proofs.Ytlljmgphgmklcaa.HelpInt.iv, List.map_set]); rw [← hwl7_7, ← e_]; exact Sl7_7.out.1)
  have Gl7_7 : Hid (w_earliest_2.grownBy wl7_7 (Value.slice (some ⟨wt_1.heap.size, 0, none⟩) 10 10).ownBlock) := Lib.hid (by rw [← hwl7_7]; exact Sl7_7.out.2)
  have HBwl7_7 := Lib.hid (HBw_earliest_2.out.grown Gl7_7.out HBw_earliest_2.out.size (fun q hq => (Oearliest_2.out.lt q hq).1))
  have hhl7_7 := Lib.hid hl7_7
  clear hl7_7 Sl7_7
  have kt_0_0__523 := cell_other kt_0_0__513 Gl7_7.out Dearliest_2_t_0.out
  have kt_0_1__524 := cell_other kt_0_1__514 Gl7_7.out Dearliest_2_t_0.out
  have kt_0_2__525 := cell_other kt_0_2__515 Gl7_7.out Dearliest_2_t_0.out
  have kt_0_3__526 := cell_other kt_0_3__516 Gl7_7.out Dearliest_2_t_0.out
  have kt_0_4__527 := cell_other kt_0_4__517 Gl7_7.out Dearliest_2_t_0.out
  have kt_0_5__528 := cell_other kt_0_5__518 Gl7_7.out Dearliest_2_t_0.out
  have kt_0_6__529 := cell_other kt_0_6__519 Gl7_7.out Dearliest_2_t_0.out
  have kt_0_7__530 := cell_other kt_0_7__520 Gl7_7.out Dearliest_2_t_0.out
  have kt_0_8__531 := cell_other kt_0_8__521 Gl7_7.out Dearliest_2_t_0.out
  have kt_0_9__532 := cell_other kt_0_9__522 Gl7_7.out Dearliest_2_t_0.out
  replace Ot_0 := Lib.hid (own_other Ot_0.out Gl7_7.out Dearliest_2_t_0.out)
  clear Oearliest_2 Gl7_7
  go_wp2_with fail
  clear kt_0_0 kt_0_1 kt_0_2 kt_0_3 kt_0_4 kt_0_5 kt_0_6 kt_0_7 kt_0_8 kt_0_9 z0l7_7 kt_0_0__513 kt_0_1__514 kt_0_2__515 kt_0_3__516 kt_0_4__517 kt_0_5__518 kt_0_6__519 kt_0_7__520 kt_0_8__521 kt_0_9__522 ct_6_0
  go_wp2_with fail
  go_loopg [16] (list.length) (fun m_ v16_ wr => ∃ (k0 : Nat) (earliest_7l0 : (List Int)), k0 + m_ = list.length ∧ v16_ = .int .i64 (k0 : Int) ∧ Hid (cntK (l0 list) m_ k0 (earliest_7l0) (e0 ) = some r) ∧ Hid (Below w.heap.size w wr) ∧ wr.cell? ⟨w.heap.size, 0, none⟩ = some (.int .i64 0) ∧ wr.cell? ⟨w.heap.size, 1, none⟩ = some (.int .i64 0) ∧ wr.cell? ⟨w.heap.size, 2, none⟩ = some (.int .i64 0) ∧ wr.cell? ⟨w.heap.size, 3, none⟩ = some (.int .i64 0) ∧ wr.cell? ⟨w.heap.size, 4, none⟩ = some (.int .i64 0) ∧ wr.cell? ⟨w.heap.size, 5, none⟩ = some (.int .i64 0) ∧ wr.cell? ⟨w.heap.size, 6, none⟩ = some (.int .i64 0) ∧ wr.cell? ⟨w.heap.size, 7, none⟩ = some (.int .i64 0) ∧ wr.cell? ⟨w.heap.size, 8, none⟩ = some (.int .i64 0) ∧ wr.cell? ⟨w.heap.size, 9, none⟩ = some (.int .i64 0) ∧ Hid (wr.ownsRow w.heap.size 121 10 (.slice (some ⟨w.heap.size, 0, none⟩) 1 1) 1 [.int .i64 0, .int .i64 0, .int .i64 0, .int .i64 0, .int .i64 0, .int .i64 0, .int .i64 0, .int .i64 0, .int .i64 0, .int .i64 0]) ∧ Hid (wr.ownsRow w.heap.size 121 1 (.slice (some ⟨wt_1.heap.size, 0, none⟩) 10 10) 10 (Go.Proofs.Ytlljmgphgmklcaa.HelpInt.iv earliest_7l0)) ∧ Hid (earliest_7l0.length = 10) ∧ Hid (Apart (some ⟨wt_1.heap.size, 0, none⟩) (some ⟨w.heap.size, 0, none⟩)))
  case atStart => exact ⟨0, _, by omega, rfl, H, HBwl7_7, kt_0_0__523, kt_0_1__524, kt_0_2__525, kt_0_3__526, kt_0_4__527, kt_0_5__528, kt_0_6__529, kt_0_7__530, kt_0_8__531, kt_0_9__532, Ot_0, Pl7_7, Lib.hid (nl7_7.out), Lib.hid Dearliest_2_t_0.out⟩
  case round =>
    obtain ⟨k0, earliest_7l0, hkm0, rfl, H, HBwr0, kt_0_0__523, kt_0_1__524, kt_0_2__525, kt_0_3__526, kt_0_4__527, kt_0_5__528, kt_0_6__529, kt_0_7__530, kt_0_8__531, kt_0_9__532, Ot_0, Oearliest_7l0, hnearliest_7l0, Dearliest_7l0_t_0⟩ := hrel
    rename World => wr0
    cases gk with
    | zero =>
      obtain rfl : k0 = list.length := by omega
      have hc0 : decide (((list.length : Nat) : Int) < ((list.length : Nat) : Int)) = false := by simp
      replace H := cnt_zero H
      unfold e0 at H
      replace H := let_hid H
      obtain ⟨_, rfl, H⟩ := H
      have ka_533 : wr0.cell? ⟨wt_1.heap.size, 0, none⟩ = some (.int .i64 (Go.Proofs.Ytlljmgphgmklcaa.GoA.nth earliest_7l0 0)) := Go.Proofs.Ytlljmgphgmklcaa.GoA.row_at Oearliest_7l0.out hnearliest_7l0.out 0 (by omega)
      have ka_534 : wr0.cell? ⟨wt_1.heap.size, 1, none⟩ = some (.int .i64 (Go.Proofs.Ytlljmgphgmklcaa.GoA.nth earliest_7l0 1)) := Go.Proofs.Ytlljmgphgmklcaa.GoA.row_at Oearliest_7l0.out hnearliest_7l0.out 1 (by omega)
      have ka_535 : wr0.cell? ⟨wt_1.heap.size, 2, none⟩ = some (.int .i64 (Go.Proofs.Ytlljmgphgmklcaa.GoA.nth earliest_7l0 2)) := Go.Proofs.Ytlljmgphgmklcaa.GoA.row_at Oearliest_7l0.out hnearliest_7l0.out 2 (by omega)
      have ka_536 : wr0.cell? ⟨wt_1.heap.size, 3, none⟩ = some (.int .i64 (Go.Proofs.Ytlljmgphgmklcaa.GoA.nth earliest_7l0 3)) := Go.Proofs.Ytlljmgphgmklcaa.GoA.row_at Oearliest_7l0.out hnearliest_7l0.out 3 (by omega)
      have ka_537 : wr0.cell? ⟨wt_1.heap.size, 4, none⟩ = some (.int .i64 (Go.Proofs.Ytlljmgphgmklcaa.GoA.nth earliest_7l0 4)) := Go.Proofs.Ytlljmgphgmklcaa.GoA.row_at Oearliest_7l0.out hnearliest_7l0.out 4 (by omega)
      have ka_538 : wr0.cell? ⟨wt_1.heap.size, 5, none⟩ = some (.int .i64 (Go.Proofs.Ytlljmgphgmklcaa.GoA.nth earliest_7l0 5)) := Go.Proofs.Ytlljmgphgmklcaa.GoA.row_at Oearliest_7l0.out hnearliest_7l0.out 5 (by omega)
      have ka_539 : wr0.cell? ⟨wt_1.heap.size, 6, none⟩ = some (.int .i64 (Go.Proofs.Ytlljmgphgmklcaa.GoA.nth earliest_7l0 6)) := Go.Proofs.Ytlljmgphgmklcaa.GoA.row_at Oearliest_7l0.out hnearliest_7l0.out 6 (by omega)
      have ka_540 : wr0.cell? ⟨wt_1.heap.size, 7, none⟩ = some (.int .i64 (Go.Proofs.Ytlljmgphgmklcaa.GoA.nth earliest_7l0 7)) := Go.Proofs.Ytlljmgphgmklcaa.GoA.row_at Oearliest_7l0.out hnearliest_7l0.out 7 (by omega)
      have ka_541 : wr0.cell? ⟨wt_1.heap.size, 8, none⟩ = some (.int .i64 (Go.Proofs.Ytlljmgphgmklcaa.GoA.nth earliest_7l0 8)) := Go.Proofs.Ytlljmgphgmklcaa.GoA.row_at Oearliest_7l0.out hnearliest_7l0.out 8 (by omega)
      have ka_542 : wr0.cell? ⟨wt_1.heap.size, 9, none⟩ = some (.int .i64 (Go.Proofs.Ytlljmgphgmklcaa.GoA.nth earliest_7l0 9)) := Go.Proofs.Ytlljmgphgmklcaa.GoA.row_at Oearliest_7l0.out hnearliest_7l0.out 9 (by omega)
      obtain ⟨wb37_37, hwb37_37⟩ : ∃ x, ((((((((((wr0).setCell ⟨w.heap.size, 0, none⟩ (.int .i64 (Go.Proofs.Ytlljmgphgmklcaa.GoA.nth earliest_7l0 0))).setCell ⟨w.heap.size, 1, none⟩ (.int .i64 (Go.Proofs.Ytlljmgphgmklcaa.GoA.nth earliest_7l0 1))).setCell ⟨w.heap.size, 2, none⟩ (.int .i64 (Go.Proofs.Ytlljmgphgmklcaa.GoA.nth earliest_7l0 2))).setCell ⟨w.heap.size, 3, none⟩ (.int .i64 (Go.Proofs.Ytlljmgphgmklcaa.GoA.nth earliest_7l0 3))).setCell ⟨w.heap.size, 4, none⟩ (.int .i64 (Go.Proofs.Ytlljmgphgmklcaa.GoA.nth earliest_7l0 4))).setCell ⟨w.heap.size, 5, none⟩ (.int .i64 (Go.Proofs.Ytlljmgphgmklcaa.GoA.nth earliest_7l0 5))).setCell ⟨w.heap.size, 6, none⟩ (.int .i64 (Go.Proofs.Ytlljmgphgmklcaa.GoA.nth earliest_7l0 6))).setCell ⟨w.heap.size, 7, none⟩ (.int .i64 (Go.Proofs.Ytlljmgphgmklcaa.GoA.nth earliest_7l0 7))).setCell ⟨w.heap.size, 8, none⟩ (.int .i64 (Go.Proofs.Ytlljmgphgmklcaa.GoA.nth earliest_7l0 8))).setCell ⟨w.heap.size, 9, none⟩ (.int .i64 (Go.Proofs.Ytlljmgphgmklcaa.GoA.nth earliest_7l0 9)) = x := ⟨_, rfl⟩
      have z0b37_37 := Ot_0.out.frozenAt 0
      have z1b37_37 := Ot_0.out.frozenAt 1
      have z2b37_37 := Ot_0.out.frozenAt 2
      have z3b37_37 := Ot_0.out.frozenAt 3
      have z4b37_37 := Ot_0.out.frozenAt 4
      have z5b37_37 := Ot_0.out.frozenAt 5
      have z6b37_37 := Ot_0.out.frozenAt 6
      have z7b37_37 := Ot_0.out.frozenAt 7
      have z8b37_37 := Ot_0.out.frozenAt 8
      have z9b37_37 := Ot_0.out.frozenAt 9
      have Sb37_37 := Lib.hid (own_stores [(0, .int .i64 (Go.Proofs.Ytlljmgphgmklcaa.GoA.nth earliest_7l0 0)), (1, .int .i64 (Go.Proofs.Ytlljmgphgmklcaa.GoA.nth earliest_7l0 1)), (2, .int .i64 (Go.Proofs.Ytlljmgphgmklcaa.GoA.nth earliest_7l0 2)), (3, .int .i64 (Go.Proofs.Ytlljmgphgmklcaa.GoA.nth earliest_7l0 3)), (4, .int .i64 (Go.Proofs.Ytlljmgphgmklcaa.GoA.nth earliest_7l0 4)), (5, .int .i64 (Go.Proofs.Ytlljmgphgmklcaa.GoA.nth earliest_7l0 5)), (6, .int .i64 (Go.Proofs.Ytlljmgphgmklcaa.GoA.nth earliest_7l0 6)), (7, .int .i64 (Go.Proofs.Ytlljmgphgmklcaa.GoA.nth earliest_7l0 7)), (8, .int .i64 (Go.Proofs.Ytlljmgphgmklcaa.GoA.nth earliest_7l0 8)), (9, .int .i64 (Go.Proofs.Ytlljmgphgmklcaa.GoA.nth earliest_7l0 9))] Ot_0.out)
      have Pb37_37 : Hid (wb37_37.ownsRow w.heap.size 121 10 (.slice (some ⟨w.heap.size, 0, none⟩) 1 1) 1 [.int .i64 (Go.Proofs.Ytlljmgphgmklcaa.GoA.nth earliest_7l0 0), .int .i64 (Go.Proofs.Ytlljmgphgmklcaa.GoA.nth earliest_7l0 1), .int .i64 (Go.Proofs.Ytlljmgphgmklcaa.GoA.nth earliest_7l0 2), .int .i64 (Go.Proofs.Ytlljmgphgmklcaa.GoA.nth earliest_7l0 3), .int .i64 (Go.Proofs.Ytlljmgphgmklcaa.GoA.nth earliest_7l0 4), .int .i64 (Go.Proofs.Ytlljmgphgmklcaa.GoA.nth earliest_7l0 5), .int .i64 (Go.Proofs.Ytlljmgphgmklcaa.GoA.nth earliest_7l0 6), .int .i64 (Go.Proofs.Ytlljmgphgmklcaa.GoA.nth earliest_7l0 7), .int .i64 (Go.Proofs.Ytlljmgphgmklcaa.GoA.nth earliest_7l0 8), .int .i64 (Go.Proofs.Ytlljmgphgmklcaa.GoA.nth earliest_7l0 9)]) := Lib.hid (by rw [← hwb37_37]; exact Sb37_37.out.1)
      have Gb37_37 : Hid (wr0.grownBy wb37_37 (Value.slice (some ⟨w.heap.size, 0, none⟩) 1 1).ownBlock) := Lib.hid (by rw [← hwb37_37]; exact Sb37_37.out.2)
      have HBwb37_37 := Lib.hid (HBwr0.out.grown Gb37_37.out HBwr0.out.size (fun q hq => (Ot_0.out.lt q hq).1))
      clear Sb37_37
      replace Oearliest_7l0 := Lib.hid (own_other Oearliest_7l0.out Gb37_37.out (Apart.symm Dearliest_7l0_t_0.out))
      clear Ot_0 Gb37_37
      have kt_0_0__543 : wb37_37.cell? ⟨w.heap.size, 0, none⟩ = some (.int .i64 (Go.Proofs.Ytlljmgphgmklcaa.GoA.nth earliest_7l0 0)) := Pb37_37.out.cells rfl 0 _ rfl
      have kt_0_1__544 : wb37_37.cell? ⟨w.heap.size, 1, none⟩ = some (.int .i64 (Go.Proofs.Ytlljmgphgmklcaa.GoA.nth earliest_7l0 1)) := Pb37_37.out.cells rfl 1 _ rfl
      have kt_0_2__545 : wb37_37.cell? ⟨w.heap.size, 2, none⟩ = some (.int .i64 (Go.Proofs.Ytlljmgphgmklcaa.GoA.nth earliest_7l0 2)) := Pb37_37.out.cells rfl 2 _ rfl
      have kt_0_3__546 : wb37_37.cell? ⟨w.heap.size, 3, none⟩ = some (.int .i64 (Go.Proofs.Ytlljmgphgmklcaa.GoA.nth earliest_7l0 3)) := Pb37_37.out.cells rfl 3 _ rfl
      have kt_0_4__547 : wb37_37.cell? ⟨w.heap.size, 4, none⟩ = some (.int .i64 (Go.Proofs.Ytlljmgphgmklcaa.GoA.nth earliest_7l0 4)) := Pb37_37.out.cells rfl 4 _ rfl
      have kt_0_5__548 : wb37_37.cell? ⟨w.heap.size, 5, none⟩ = some (.int .i64 (Go.Proofs.Ytlljmgphgmklcaa.GoA.nth earliest_7l0 5)) := Pb37_37.out.cells rfl 5 _ rfl
      have kt_0_6__549 : wb37_37.cell? ⟨w.heap.size, 6, none⟩ = some (.int .i64 (Go.Proofs.Ytlljmgphgmklcaa.GoA.nth earliest_7l0 6)) := Pb37_37.out.cells rfl 6 _ rfl
      have kt_0_7__550 : wb37_37.cell? ⟨w.heap.size, 7, none⟩ = some (.int .i64 (Go.Proofs.Ytlljmgphgmklcaa.GoA.nth earliest_7l0 7)) := Pb37_37.out.cells rfl 7 _ rfl
      have kt_0_8__551 : wb37_37.cell? ⟨w.heap.size, 8, none⟩ = some (.int .i64 (Go.Proofs.Ytlljmgphgmklcaa.GoA.nth earliest_7l0 8)) := Pb37_37.out.cells rfl 8 _ rfl
      have kt_0_9__552 : wb37_37.cell? ⟨w.heap.size, 9, none⟩ = some (.int .i64 (Go.Proofs.Ytlljmgphgmklcaa.GoA.nth earliest_7l0 9)) := Pb37_37.out.cells rfl 9 _ rfl
      cases ret_hid H
      go_wp2_with fail
      (try simp only [Exit.inBlock, Exit.then])
      refine bodyPost_ret (v := .agg #[.int .i64 (Go.Proofs.Ytlljmgphgmklcaa.GoA.nth earliest_7l0 0), .int .i64 (Go.Proofs.Ytlljmgphgmklcaa.GoA.nth earliest_7l0 1), .int .i64 (Go.Proofs.Ytlljmgphgmklcaa.GoA.nth earliest_7l0 2), .int .i64 (Go.Proofs.Ytlljmgphgmklcaa.GoA.nth earliest_7l0 3), .int .i64 (Go.Proofs.Ytlljmgphgmklcaa.GoA.nth earliest_7l0 4), .int .i64 (Go.Proofs.Ytlljmgphgmklcaa.GoA.nth earliest_7l0 5), .int .i64 (Go.Proofs.Ytlljmgphgmklcaa.GoA.nth earliest_7l0 6), .int .i64 (Go.Proofs.Ytlljmgphgmklcaa.GoA.nth earliest_7l0 7), .int .i64 (Go.Proofs.Ytlljmgphgmklcaa.GoA.nth earliest_7l0 8), .int .i64 (Go.Proofs.Ytlljmgphgmklcaa.GoA.nth earliest_7l0 9)]) ?hr_ ?hd_ ?_
      case hd_ => rfl
      case hr_ => simp [results, Try.results150, kt_0_0__543, kt_0_1__544, kt_0_2__545, kt_0_3__546, kt_0_4__547, kt_0_5__548, kt_0_6__549, kt_0_7__550, kt_0_8__551, kt_0_9__552, go_sem]
      exact ⟨rfl, HBwb37_37.out⟩
    | succ m0 =>
      have hlt0 : k0 < list.length := by omega
      have hc0 : decide ((k0 : Int) < ((list.length : Nat) : Int)) = true := by simp; omega
      replace H := cnt_succ H
      unfold l0 at H
      replace H := let_hid H
      obtain ⟨_, rfl, H⟩ := H
      replace H := idx_hid H
      obtain ⟨nt_12, yt_12, et_12, lt_12, gt_12, H⟩ := H
      obtain rfl : k0 = nt_12 := by omega
      clear et_12
      obtain ⟨t_12_leave, t_12_from_, t_12_to_, t_12_arrive⟩ := yt_12
      replace H := unMail_hid H
      obtain ⟨ab_t_12, ao_t_12, zt_12, At_12, z_t_12, ct_12_0, ct_12_1, ct_12_2, ct_12_3⟩ := Go.Proofs.Ytlljmgphgmklcaa.OMail.at_ M0.out lt_12
      obtain rfl := Option.some.inj (gt_12.out.symm.trans z_t_12)
      subst At_12
      have ltt_12 := cell_lt ct_12_0
      replace ct_12_0 := cell_below HBwr0.out ct_12_0
      replace ct_12_1 := cell_below HBwr0.out ct_12_1
      replace ct_12_2 := cell_below HBwr0.out ct_12_2
      replace ct_12_3 := cell_below HBwr0.out ct_12_3
      clear z_t_12
      have b0t_12 : (0 : Int) ≤ (k0 : Int) := by omega
      have b1t_12 : (k0 : Int) < ((list.length : Nat) : Int) := by omega
      have b2t_12 : ((k0 : Int)).toNat = k0 := by omega
      obtain ⟨w_x_14, hw_x_14⟩ : ∃ x, wr0.alloc (.cells #[.int .i64 t_12_leave, .int .i64 t_12_from_, .int .i64 t_12_to_, .int .i64 t_12_arrive] 108) = x := ⟨_, rfl⟩
      have bw_x_14 : Below wr0.heap.size wr0 w_x_14 := by rw [← hw_x_14]; exact (Below.refl _ _).alloc (Nat.le_refl _) _
      have Dx_14_earliest_7l0 := Lib.hid (apart_fresh Oearliest_7l0.out)
      have Dx_14_t_0 := Lib.hid (apart_box kt_0_0__523)
      have HBw_x_14 := Lib.hid (Below.step HBwr0.out bw_x_14)
      have kt_0_0__553 := cell_below bw_x_14 kt_0_0__523
      have kt_0_1__554 := cell_below bw_x_14 kt_0_1__524
      have kt_0_2__555 := cell_below bw_x_14 kt_0_2__525
      have kt_0_3__556 := cell_below bw_x_14 kt_0_3__526
      have kt_0_4__557 := cell_below bw_x_14 kt_0_4__527
      have kt_0_5__558 := cell_below bw_x_14 kt_0_5__528
      have kt_0_6__559 := cell_below bw_x_14 kt_0_6__529
      have kt_0_7__560 := cell_below bw_x_14 kt_0_7__530
      have kt_0_8__561 := cell_below bw_x_14 kt_0_8__531
      have kt_0_9__562 := cell_below bw_x_14 kt_0_9__532
      have ct_12_0__563 := cell_below bw_x_14 ct_12_0
      have ct_12_1__564 := cell_below bw_x_14 ct_12_1
      have ct_12_2__565 := cell_below bw_x_14 ct_12_2
      have ct_12_3__566 := cell_below bw_x_14 ct_12_3
      replace Oearliest_7l0 := Lib.hid (own_below Oearliest_7l0.out bw_x_14)
      replace Ot_0 := Lib.hid (own_below Ot_0.out bw_x_14)
      clear bw_x_14
      have kx_14_0 : w_x_14.cell? ⟨wr0.heap.size, 0, none⟩ = some (.int .i64 t_12_leave) := by rw [← hw_x_14]; exact box_new _ _ _ 0 _ rfl
      have kx_14_1 : w_x_14.cell? ⟨wr0.heap.size, 1, none⟩ = some (.int .i64 t_12_from_) := by rw [← hw_x_14]; exact box_new _ _ _ 1 _ rfl
      have kx_14_2 : w_x_14.cell? ⟨wr0.heap.size, 2, none⟩ = some (.int .i64 t_12_to_) := by rw [← hw_x_14]; exact box_new _ _ _ 2 _ rfl
      have kx_14_3 : w_x_14.cell? ⟨wr0.heap.size, 3, none⟩ = some (.int .i64 t_12_arrive) := by rw [← hw_x_14]; exact box_new _ _ _ 3 _ rfl
      go_wp2_with fail
      clear kt_0_0__523 kt_0_1__524 kt_0_2__525 kt_0_3__526 kt_0_4__527 kt_0_5__528 kt_0_6__529 kt_0_7__530 kt_0_8__531 kt_0_9__532 ct_12_0 ct_12_1 ct_12_2 ct_12_3
      have Hkt_0_0__553 := Lib.hid kt_0_0__553
      replace kt_0_0__553 := cell_regrown kt_0_0__553
      have Hkt_0_1__554 := Lib.hid kt_0_1__554
      replace kt_0_1__554 := cell_regrown kt_0_1__554
      have Hkt_0_2__555 := Lib.hid kt_0_2__555
      replace kt_0_2__555 := cell_regrown kt_0_2__555
      have Hkt_0_3__556 := Lib.hid kt_0_3__556
      replace kt_0_3__556 := cell_regrown kt_0_3__556
      have Hkt_0_4__557 := Lib.hid kt_0_4__557
      replace kt_0_4__557 := cell_regrown kt_0_4__557
      have Hkt_0_5__558 := Lib.hid kt_0_5__558
      replace kt_0_5__558 := cell_regrown kt_0_5__558
      have Hkt_0_6__559 := Lib.hid kt_0_6__559
      replace kt_0_6__559 := cell_regrown kt_0_6__559
      have Hkt_0_7__560 := Lib.hid kt_0_7__560
      replace kt_0_7__560 := cell_regrown kt_0_7__560
      have Hkt_0_8__561 := Lib.hid kt_0_8__561
      replace kt_0_8__561 := cell_regrown kt_0_8__561
      have Hkt_0_9__562 := Lib.hid kt_0_9__562
      replace kt_0_9__562 := cell_regrown kt_0_9__562
      have Hct_12_0__563 := Lib.hid ct_12_0__563
      replace ct_12_0__563 := cell_regrown ct_12_0__563
      have Hct_12_1__564 := Lib.hid ct_12_1__564
      replace ct_12_1__564 := cell_regrown ct_12_1__564
      have Hct_12_2__565 := Lib.hid ct_12_2__565
      replace ct_12_2__565 := cell_regrown ct_12_2__565
      have Hct_12_3__566 := Lib.hid ct_12_3__566
      replace ct_12_3__566 := cell_regrown ct_12_3__566
      have Hkx_14_0 := Lib.hid kx_14_0
      replace kx_14_0 := cell_regrown kx_14_0
      have Hkx_14_1 := Lib.hid kx_14_1
      replace kx_14_1 := cell_regrown kx_14_1
      have Hkx_14_2 := Lib.hid kx_14_2
      replace kx_14_2 := cell_regrown kx_14_2
      have Hkx_14_3 := Lib.hid kx_14_3
      replace kx_14_3 := cell_regrown kx_14_3
      replace H := idx_hid H
      obtain ⟨nt_18, yt_18, et_18, lt_18, gt_18, H⟩ := H
      subst et_18
      have hqt_18 := hnearliest_7l0.out
      obtain ⟨ab_t_18, ao_t_18, zt_18, At_18, z_t_18, ct_18_0⟩ := Go.Proofs.Ytlljmgphgmklcaa.HelpInt.Ints.at_ (own_cells Oearliest_7l0.out) (k := nt_18) (by omega)
      obtain rfl := Option.some.inj (gt_18.out.symm.trans z_t_18)
      simp only [Option.some.injEq, Addr.mk.injEq] at At_18
      obtain ⟨rfl, rfl, _⟩ := At_18
      clear z_t_18
      simp only [Nat.zero_add] at ct_18_0
      have b0t_18 : (0 : Int) ≤ (nt_18 : Int) := by omega
      have b1t_18 : (nt_18 : Int) < ((10 : Nat) : Int) := by omega
      have b2t_18 : ((nt_18 : Int)).toNat = nt_18 := by omega
      clear hqt_18
      have Hct_18_0 := Lib.hid ct_18_0
      replace ct_18_0 := cell_regrown ct_18_0
      have b3t_18 : nt_18 < 10 := by have h_ := lt_18; have hn_ := hnearliest_7l0.out; omega
      have b4t_18 : (nt_18 : Int) < (10 : Int) := by omega
      replace H := let_hid H
      obtain ⟨t_22, ht_22, H⟩ := H
      refine wp_region_quiet_below (by kernel_rfl) (by kernel_rfl) ?_
      repeat (go_big_quiet_step (fail))
      refine wpQuiet_nil ?_
      intro Y6 hY6
      replace hY6 := below_class hY6
      replace kt_0_0__553 := Hkt_0_0__553.out
      clear Hkt_0_0__553
      replace kt_0_1__554 := Hkt_0_1__554.out
      clear Hkt_0_1__554
      replace kt_0_2__555 := Hkt_0_2__555.out
      clear Hkt_0_2__555
      replace kt_0_3__556 := Hkt_0_3__556.out
      clear Hkt_0_3__556
      replace kt_0_4__557 := Hkt_0_4__557.out
      clear Hkt_0_4__557
      replace kt_0_5__558 := Hkt_0_5__558.out
      clear Hkt_0_5__558
      replace kt_0_6__559 := Hkt_0_6__559.out
      clear Hkt_0_6__559
      replace kt_0_7__560 := Hkt_0_7__560.out
      clear Hkt_0_7__560
      replace kt_0_8__561 := Hkt_0_8__561.out
      clear Hkt_0_8__561
      replace kt_0_9__562 := Hkt_0_9__562.out
      clear Hkt_0_9__562
      replace ct_12_0__563 := Hct_12_0__563.out
      clear Hct_12_0__563
      replace ct_12_1__564 := Hct_12_1__564.out
      clear Hct_12_1__564
      replace ct_12_2__565 := Hct_12_2__565.out
      clear Hct_12_2__565
      replace ct_12_3__566 := Hct_12_3__566.out
      clear Hct_12_3__566
      replace kx_14_0 := Hkx_14_0.out
      clear Hkx_14_0
      replace kx_14_1 := Hkx_14_1.out
      clear Hkx_14_1
      replace kx_14_2 := Hkx_14_2.out
      clear Hkx_14_2
      replace kx_14_3 := Hkx_14_3.out
      clear Hkx_14_3
      replace ct_18_0 := Hct_18_0.out
      clear Hct_18_0
      have HBY6 := Lib.hid (Below.step HBw_x_14.out hY6)
      replace kt_0_0__553 := cell_below hY6 kt_0_0__553
      replace kt_0_1__554 := cell_below hY6 kt_0_1__554
      replace kt_0_2__555 := cell_below hY6 kt_0_2__555
      replace kt_0_3__556 := cell_below hY6 kt_0_3__556
      replace kt_0_4__557 := cell_below hY6 kt_0_4__557
      replace kt_0_5__558 := cell_below hY6 kt_0_5__558
      replace kt_0_6__559 := cell_below hY6 kt_0_6__559
      replace kt_0_7__560 := cell_below hY6 kt_0_7__560
      replace kt_0_8__561 := cell_below hY6 kt_0_8__561
      replace kt_0_9__562 := cell_below hY6 kt_0_9__562
      replace ct_12_0__563 := cell_below hY6 ct_12_0__563
      replace ct_12_1__564 := cell_below hY6 ct_12_1__564
      replace ct_12_2__565 := cell_below hY6 ct_12_2__565
      replace ct_12_3__566 := cell_below hY6 ct_12_3__566
      replace kx_14_0 := cell_below hY6 kx_14_0
      replace kx_14_1 := cell_below hY6 kx_14_1
      replace kx_14_2 := cell_below hY6 kx_14_2
      replace kx_14_3 := cell_below hY6 kx_14_3
      replace ct_18_0 := cell_below hY6 ct_18_0
      replace Oearliest_7l0 := Lib.hid (own_below Oearliest_7l0.out hY6)
      replace Ot_0 := Lib.hid (own_below Ot_0.out hY6)
      clear hY6
      cases t_22 with
      | false =>
        replace H := ite_f H
        replace H := app_hid H
        go_wp2_with fail
        go_roundg m0
        case measure => omega
        case rel => exact ⟨k0 + 1, _, by omega, by go_num, H, HBY6, kt_0_0__553, kt_0_1__554, kt_0_2__555, kt_0_3__556, kt_0_4__557, kt_0_5__558, kt_0_6__559, kt_0_7__560, kt_0_8__561, kt_0_9__562, Ot_0, Oearliest_7l0, Lib.hid (hnearliest_7l0.out), Lib.hid Dearliest_7l0_t_0.out⟩
      | true =>
        replace H := ite_t H
        go_wp2_with fail
        obtain ⟨Z7, hZ7⟩ : ∃ x, Y6.drew = x := ⟨_, rfl⟩
        have bd7 : Below Y6.heap.size Y6 Z7 := by rw [← hZ7]; exact (Below.refl _ _).drew
        have HBZ7 := Lib.hid (Below.step HBY6.out bd7)
        replace kt_0_0__553 := cell_below bd7 kt_0_0__553
        replace kt_0_1__554 := cell_below bd7 kt_0_1__554
        replace kt_0_2__555 := cell_below bd7 kt_0_2__555
        replace kt_0_3__556 := cell_below bd7 kt_0_3__556
        replace kt_0_4__557 := cell_below bd7 kt_0_4__557
        replace kt_0_5__558 := cell_below bd7 kt_0_5__558
        replace kt_0_6__559 := cell_below bd7 kt_0_6__559
        replace kt_0_7__560 := cell_below bd7 kt_0_7__560
        replace kt_0_8__561 := cell_below bd7 kt_0_8__561
        replace kt_0_9__562 := cell_below bd7 kt_0_9__562
        replace ct_12_0__563 := cell_below bd7 ct_12_0__563
        replace ct_12_1__564 := cell_below bd7 ct_12_1__564
        replace ct_12_2__565 := cell_below bd7 ct_12_2__565
        replace ct_12_3__566 := cell_below bd7 ct_12_3__566
        replace kx_14_0 := cell_below bd7 kx_14_0
        replace kx_14_1 := cell_below bd7 kx_14_1
        replace kx_14_2 := cell_below bd7 kx_14_2
        replace kx_14_3 := cell_below bd7 kx_14_3
        replace ct_18_0 := cell_below bd7 ct_18_0
        replace Oearliest_7l0 := Lib.hid (own_below Oearliest_7l0.out bd7)
        replace Ot_0 := Lib.hid (own_below Ot_0.out bd7)
        clear bd7
        replace H := idx_hid H
        obtain ⟨nt_27, yt_27, et_27, lt_27, gt_27, H⟩ := H
        subst et_27
        have hqt_27 := hnearliest_7l0.out
        obtain ⟨ab_t_27, ao_t_27, zt_27, At_27, z_t_27, ct_27_0⟩ := Go.Proofs.Ytlljmgphgmklcaa.HelpInt.Ints.at_ (own_cells Oearliest_7l0.out) (k := nt_27) (by omega)
        obtain rfl := Option.some.inj (gt_27.out.symm.trans z_t_27)
        simp only [Option.some.injEq, Addr.mk.injEq] at At_27
        obtain ⟨rfl, rfl, _⟩ := At_27
        clear z_t_27
        simp only [Nat.zero_add] at ct_27_0
        have b0t_27 : (0 : Int) ≤ (nt_27 : Int) := by omega
        have b1t_27 : (nt_27 : Int) < ((10 : Nat) : Int) := by omega
        have b2t_27 : ((nt_27 : Int)).toNat = nt_27 := by omega
        clear hqt_27
        have b3t_27 : nt_27 < 10 := by have h_ := lt_27; have hn_ := hnearliest_7l0.out; omega
        have b4t_27 : (nt_27 : Int) < (10 : Int) := by omega
        replace H := let_hid H
        obtain ⟨t_31, ht_31, H⟩ := H
        replace H := idx_hid H
        obtain ⟨nt_32, yt_32, et_32, lt_32, gt_32, H⟩ := H
        obtain rfl : nt_27 = nt_32 := by omega
        clear et_32
        obtain rfl := Option.some.inj (gt_27.out.symm.trans gt_32.out)
        clear gt_32 lt_32
        have b3t_32 : nt_27 < 10 := by have h_ := lt_27; have hn_ := hnearliest_7l0.out; omega
        have b4t_32 : (nt_27 : Int) < (10 : Int) := by omega
        refine wp_region_still_tail 10 (by kernel_rfl) (by kernel_rfl) ?_
        simp only [List.take_succ_cons, List.take_zero, List.drop_succ_cons, List.drop_zero]
        change wpStill _ _ Y6.drew _ _ _
        rw [hZ7]
        repeat still_step
        refine wpStill_nil ?_
        change wpList _ _ _ _ _ Y6.drew
        rw [hZ7]
        clear hZ7
        replace H := let_hid H
        obtain ⟨l33_33, hl33_33, H⟩ := H
        try simp only [Int.toNat_natCast] at hl33_33
        obtain ⟨wl33_33, hwl33_33⟩ : ∃ x, (Z7).setCell ⟨wt_1.heap.size, nt_27, none⟩ (.int .i64 t_31) = x := ⟨_, rfl⟩
        have z0l33_33 := Oearliest_7l0.out.frozenAt (nt_27)
        have Sl33_33 := Lib.hid (own_stores [(nt_27, .int .i64 t_31)] Oearliest_7l0.out)
        have nl33_33 : Hid (l33_33.length = 10) := Lib.hid (by rw [← hl33_33, List.length_set]; exact hnearliest_7l0.out)
        have Pl33_33 : Hid (wl33_33.ownsRow w.heap.size 121 1 (.slice (some ⟨wt_1.heap.size, 0, none⟩) 10 10) 10 (Go.Proofs.Ytlljmgphgmklcaa.HelpInt.iv l33_33)) := Lib.hid (by have e_ : ([(nt_27, .int .i64 t_31)] : List (Nat × Value)).foldl (fun xs p => xs.set p.1 p.2) (Go.Proofs.Ytlljmgphgmklcaa.HelpInt.iv earliest_7l0) = (Go.Proofs.Ytlljmgphgmklcaa.HelpInt.iv l33_33) := (by rw [← hl33_33]; first | done | simp [Go.Proofs.Ytlljmgphgmklcaa.HelpInt.iv, List.map_set]); rw [← hwl33_33, ← e_]; exact Sl33_33.out.1)
        have Gl33_33 : Hid (Z7.grownBy wl33_33 (Value.slice (some ⟨wt_1.heap.size, 0, none⟩) 10 10).ownBlock) := Lib.hid (by rw [← hwl33_33]; exact Sl33_33.out.2)
        have HBwl33_33 := Lib.hid (HBZ7.out.grown Gl33_33.out HBZ7.out.size (fun q hq => (Oearliest_7l0.out.lt q hq).1))
        have hhl33_33 := Lib.hid hl33_33
        clear hl33_33 Sl33_33
        have kt_0_0__567 := cell_other kt_0_0__553 Gl33_33.out Dearliest_7l0_t_0.out
        have kt_0_1__568 := cell_other kt_0_1__554 Gl33_33.out Dearliest_7l0_t_0.out
        have kt_0_2__569 := cell_other kt_0_2__555 Gl33_33.out Dearliest_7l0_t_0.out
        have kt_0_3__570 := cell_other kt_0_3__556 Gl33_33.out Dearliest_7l0_t_0.out
        have kt_0_4__571 := cell_other kt_0_4__557 Gl33_33.out Dearliest_7l0_t_0.out
        have kt_0_5__572 := cell_other kt_0_5__558 Gl33_33.out Dearliest_7l0_t_0.out
        have kt_0_6__573 := cell_other kt_0_6__559 Gl33_33.out Dearliest_7l0_t_0.out
        have kt_0_7__574 := cell_other kt_0_7__560 Gl33_33.out Dearliest_7l0_t_0.out
        have kt_0_8__575 := cell_other kt_0_8__561 Gl33_33.out Dearliest_7l0_t_0.out
        have kt_0_9__576 := cell_other kt_0_9__562 Gl33_33.out Dearliest_7l0_t_0.out
        have ct_12_0__577 := cell_other ct_12_0__563 Gl33_33.out (apart_old Oearliest_7l0.out ltt_12)
        have ct_12_1__578 := cell_other ct_12_1__564 Gl33_33.out (apart_old Oearliest_7l0.out ltt_12)
        have ct_12_2__579 := cell_other ct_12_2__565 Gl33_33.out (apart_old Oearliest_7l0.out ltt_12)
        have ct_12_3__580 := cell_other ct_12_3__566 Gl33_33.out (apart_old Oearliest_7l0.out ltt_12)
        have kx_14_0__581 := cell_other kx_14_0 Gl33_33.out (Apart.symm Dx_14_earliest_7l0.out)
        have kx_14_1__582 := cell_other kx_14_1 Gl33_33.out (Apart.symm Dx_14_earliest_7l0.out)
        have kx_14_2__583 := cell_other kx_14_2 Gl33_33.out (Apart.symm Dx_14_earliest_7l0.out)
        have kx_14_3__584 := cell_other kx_14_3 Gl33_33.out (Apart.symm Dx_14_earliest_7l0.out)
        replace Ot_0 := Lib.hid (own_other Ot_0.out Gl33_33.out Dearliest_7l0_t_0.out)
        clear Oearliest_7l0 Gl33_33
        replace H := app_hid H
        go_wp2_with fail
        clear z0l33_33 kt_0_0__553 kt_0_1__554 kt_0_2__555 kt_0_3__556 kt_0_4__557 kt_0_5__558 kt_0_6__559 kt_0_7__560 kt_0_8__561 kt_0_9__562 ct_12_0__563 ct_12_1__564 ct_12_2__565 ct_12_3__566 kx_14_0 kx_14_1 kx_14_2 kx_14_3 ct_18_0 ct_27_0
        go_roundg m0
        case measure => omega
        case rel => exact ⟨k0 + 1, _, by omega, by go_num, H, HBwl33_33, kt_0_0__567, kt_0_1__568, kt_0_2__569, kt_0_3__570, kt_0_4__571, kt_0_5__572, kt_0_6__573, kt_0_7__574, kt_0_8__575, kt_0_9__576, Ot_0, Pl33_33, Lib.hid (nl33_33.out), Lib.hid Dearliest_7l0_t_0.out⟩
end Go.Proofs.Ytlljmgphgmklcaa.GiEarliestMinutes

/- loop.example/g01062/impl.earliestEnd as a plain function, and the contract of the program's: where the plain one has an answer, the program has it. Conditions: slices read as lists. -/
namespace Go.Proofs.Ytlljmgphgmklcaa.GiEarliestEnd
set_option linter.unusedVariables false
set_option linter.unusedSimpArgs false
open Go.RowKit
open Go.Proofs.Ytlljmgphgmklcaa.Rowed Go.Proofs.Ytlljmgphgmklcaa.Turn Go.Proofs.Ytlljmgphgmklcaa.Aid Go.Proofs.Ytlljmgphgmklcaa.GoP Go.Proofs.Ytlljmgphgmklcaa.GoM

def P (mails : (List Go.Proofs.Ytlljmgphgmklcaa.PMail.Mail)) (x : Go.Proofs.Ytlljmgphgmklcaa.PCover.Cover) : Option (Int) :=
  unCover x fun (x_id : Int) (x_day : Int) (x_zone : Int) (x_grams : Int) (x_paid : Int) (x_from_ : Int) (x_to_ : Int) (x_leave : Int) (x_arrive : Int) =>
  Option.bind (Go.Proofs.Ytlljmgphgmklcaa.GiEarliestMinutes.P mails x_from_ x_leave) fun (t_7 : Go.Proofs.Ytlljmgphgmklcaa.PIntA10.IntA10) =>
  unIntA10 t_7 fun (t_7_x0 : Int) (t_7_x1 : Int) (t_7_x2 : Int) (t_7_x3 : Int) (t_7_x4 : Int) (t_7_x5 : Int) (t_7_x6 : Int) (t_7_x7 : Int) (t_7_x8 : Int) (t_7_x9 : Int) =>
  Option.bind (idx [t_7_x0, t_7_x1, t_7_x2, t_7_x3, t_7_x4, t_7_x5, t_7_x6, t_7_x7, t_7_x8, t_7_x9] x_to_) fun (yt_10 : Int) =>
  some yt_10

set_option maxRecDepth 100000 in
set_option maxHeartbeats 2000000 in
theorem C (mails : (List Go.Proofs.Ytlljmgphgmklcaa.PMail.Mail)) (x : Go.Proofs.Ytlljmgphgmklcaa.PCover.Cover) (A0 : Option Addr) (c0 : Nat)  (w : World) (M0 : Hid (Cells w 4 A0 mails.length (Go.Proofs.Ytlljmgphgmklcaa.PMail.flat mails))) (N0 : Hid (mails.length ≤ 9223372036854775807))  {r : Int} (H : Hid (P mails x = some r)) :
    Calls Try.prog 105 #[.slice A0 mails.length c0, x.val] w (Gives (.int .i64 r) w) := by
  have HB := Lib.hid (Below.refl w.heap.size w)
  unfold P at H
  obtain ⟨x_id, x_day, x_zone, x_grams, x_paid, x_from_, x_to_, x_leave, x_arrive⟩ := x
  replace H := unCover_hid H
  unfold Go.Proofs.Ytlljmgphgmklcaa.PCover.Cover.val
  have N0o := N0.out
  go_enter Try.func105, Try.ntmps105
  obtain ⟨w_x_0, hw_x_0⟩ : ∃ x, w.alloc (.cells #[.int .i64 x_id, .int .i64 x_day, .int .i64 x_zone, .int .i64 x_grams, .int .i64 x_paid, .int .i64 x_from_, .int .i64 x_to_, .int .i64 x_leave, .int .i64 x_arrive] 25) = x := ⟨_, rfl⟩
  have bw_x_0 : Below w.heap.size w w_x_0 := by rw [← hw_x_0]; exact (Below.refl _ _).alloc (Nat.le_refl _) _
  have HBw_x_0 := Lib.hid (Below.step HB.out bw_x_0)
  clear bw_x_0
  have kx_0_0 : w_x_0.cell? ⟨w.heap.size, 0, none⟩ = some (.int .i64 x_id) := by rw [← hw_x_0]; exact box_new _ _ _ 0 _ rfl
  have kx_0_1 : w_x_0.cell? ⟨w.heap.size, 1, none⟩ = some (.int .i64 x_day) := by rw [← hw_x_0]; exact box_new _ _ _ 1 _ rfl
  have kx_0_2 : w_x_0.cell? ⟨w.heap.size, 2, none⟩ = some (.int .i64 x_zone) := by rw [← hw_x_0]; exact box_new _ _ _ 2 _ rfl
  have kx_0_3 : w_x_0.cell? ⟨w.heap.size, 3, none⟩ = some (.int .i64 x_grams) := by rw [← hw_x_0]; exact box_new _ _ _ 3 _ rfl
  have kx_0_4 : w_x_0.cell? ⟨w.heap.size, 4, none⟩ = some (.int .i64 x_paid) := by rw [← hw_x_0]; exact box_new _ _ _ 4 _ rfl
  have kx_0_5 : w_x_0.cell? ⟨w.heap.size, 5, none⟩ = some (.int .i64 x_from_) := by rw [← hw_x_0]; exact box_new _ _ _ 5 _ rfl
  have kx_0_6 : w_x_0.cell? ⟨w.heap.size, 6, none⟩ = some (.int .i64 x_to_) := by rw [← hw_x_0]; exact box_new _ _ _ 6 _ rfl
  have kx_0_7 : w_x_0.cell? ⟨w.heap.size, 7, none⟩ = some (.int .i64 x_leave) := by rw [← hw_x_0]; exact box_new _ _ _ 7 _ rfl
  have kx_0_8 : w_x_0.cell? ⟨w.heap.size, 8, none⟩ = some (.int .i64 x_arrive) := by rw [← hw_x_0]; exact box_new _ _ _ 8 _ rfl
  go_wp2_with fail
  have Hkx_0_0 := Lib.hid kx_0_0
  replace kx_0_0 := cell_regrown kx_0_0
  have Hkx_0_1 := Lib.hid kx_0_1
  replace kx_0_1 := cell_regrown kx_0_1
  have Hkx_0_2 := Lib.hid kx_0_2
  replace kx_0_2 := cell_regrown kx_0_2
  have Hkx_0_3 := Lib.hid kx_0_3
  replace kx_0_3 := cell_regrown kx_0_3
  have Hkx_0_4 := Lib.hid kx_0_4
  replace kx_0_4 := cell_regrown kx_0_4
  have Hkx_0_5 := Lib.hid kx_0_5
  replace kx_0_5 := cell_regrown kx_0_5
  have Hkx_0_6 := Lib.hid kx_0_6
  replace kx_0_6 := cell_regrown kx_0_6
  have Hkx_0_7 := Lib.hid kx_0_7
  replace kx_0_7 := cell_regrown kx_0_7
  have Hkx_0_8 := Lib.hid kx_0_8
  replace kx_0_8 := cell_regrown kx_0_8
  replace H := bind_hid H
  obtain ⟨t_7, qt_7, H⟩ := H
  obtain ⟨t_7_x0, t_7_x1, t_7_x2, t_7_x3, t_7_x4, t_7_x5, t_7_x6, t_7_x7, t_7_x8, t_7_x9⟩ := t_7
  replace H := unIntA10_hid H
  have nt_7 : ∀ d os, Calls Try.prog 150 #[.slice A0 mails.length c0, .int .i64 x_from_, .int .i64 x_leave] (Go.Sort.grow (redrawn w_x_0 d) os) fun e w'' => e = .returned (.agg #[.int .i64 t_7_x0, .int .i64 t_7_x1, .int .i64 t_7_x2, .int .i64 t_7_x3, .int .i64 t_7_x4, .int .i64 t_7_x5, .int .i64 t_7_x6, .int .i64 t_7_x7, .int .i64 t_7_x8, .int .i64 t_7_x9]) ∧ ∃ p : Regrown, w'' = Go.Sort.grow (redrawn w_x_0 p.d) p.os := fun d os => Calls.regrown_of (Go.Proofs.Ytlljmgphgmklcaa.GiEarliestMinutes.C (mails) (x_from_) (x_leave) A0 c0 _   (Lib.hid (Cells.below (Cells.below M0.out HBw_x_0.out) (below_regrown _ _ _))) N0 qt_7)
  replace H := idx_hid H
  obtain ⟨nt_10, yt_10, et_10, lt_10, gt_10, H⟩ := H
  subst et_10
  have it_10 : ∀ w, (Instr.index 121 (.agg #[.int .i64 t_7_x0, .int .i64 t_7_x1, .int .i64 t_7_x2, .int .i64 t_7_x3, .int .i64 t_7_x4, .int .i64 t_7_x5, .int .i64 t_7_x6, .int .i64 t_7_x7, .int .i64 t_7_x8, .int .i64 t_7_x9]) (.int .i64 (nt_10 : Int))).run Try.prog w = .ok (.int .i64 yt_10) w := by
    intro w
    have hl := lt_10
    have hg := gt_10.out
    clear gt_10 H
    rcases nt_10 with _ | _ | _ | _ | _ | _ | _ | _ | _ | _ | _
    · obtain rfl := Option.some.inj hg; rfl
    · obtain rfl := Option.some.inj hg; rfl
    · obtain rfl := Option.some.inj hg; rfl
    · obtain rfl := Option.some.inj hg; rfl
    · obtain rfl := Option.some.inj hg; rfl
    · obtain rfl := Option.some.inj hg; rfl
    · obtain rfl := Option.some.inj hg; rfl
    · obtain rfl := Option.some.inj hg; rfl
    · obtain rfl := Option.some.inj hg; rfl
    · obtain rfl := Option.some.inj hg; rfl
    · simp at hl; omega
  refine wp_region_quiet_below (by kernel_rfl) (by kernel_rfl) ?_
  repeat (go_big_quiet_step (first | (go_at_call 150; exact nt_7 _ _)))
  refine wpQuiet_nil ?_
  intro Y1 hY1
  replace hY1 := below_class hY1
  clear nt_7
  replace kx_0_0 := Hkx_0_0.out
  clear Hkx_0_0
  replace kx_0_1 := Hkx_0_1.out
  clear Hkx_0_1
  replace kx_0_2 := Hkx_0_2.out
  clear Hkx_0_2
  replace kx_0_3 := Hkx_0_3.out
  clear Hkx_0_3
  replace kx_0_4 := Hkx_0_4.out
  clear Hkx_0_4
  replace kx_0_5 := Hkx_0_5.out
  clear Hkx_0_5
  replace kx_0_6 := Hkx_0_6.out
  clear Hkx_0_6
  replace kx_0_7 := Hkx_0_7.out
  clear Hkx_0_7
  replace kx_0_8 := Hkx_0_8.out
  clear Hkx_0_8
  have HBY1 := Lib.hid (Below.step HBw_x_0.out hY1)
  replace kx_0_0 := cell_below hY1 kx_0_0
  replace kx_0_1 := cell_below hY1 kx_0_1
  replace kx_0_2 := cell_below hY1 kx_0_2
  replace kx_0_3 := cell_below hY1 kx_0_3
  replace kx_0_4 := cell_below hY1 kx_0_4
  replace kx_0_5 := cell_below hY1 kx_0_5
  replace kx_0_6 := cell_below hY1 kx_0_6
  replace kx_0_7 := cell_below hY1 kx_0_7
  replace kx_0_8 := cell_below hY1 kx_0_8
  clear hY1
  obtain rfl := ret_hid H
  go_wp2_with fail
  go_ret
  exact ⟨rfl, HBY1.out⟩
end Go.Proofs.Ytlljmgphgmklcaa.GiEarliestEnd

/- loop.example/g01062/impl.faultOn as a plain function, and the contract of the program's: where the plain one has an answer, the program has it. Conditions: slices read as lists. -/
namespace Go.Proofs.Ytlljmgphgmklcaa.GiFaultOn
set_option linter.unusedVariables false
set_option linter.unusedSimpArgs false
open Go.RowKit
open Go.Proofs.Ytlljmgphgmklcaa.Rowed Go.Proofs.Ytlljmgphgmklcaa.Turn Go.Proofs.Ytlljmgphgmklcaa.Aid Go.Proofs.Ytlljmgphgmklcaa.GoP Go.Proofs.Ytlljmgphgmklcaa.GoM

def P (rates : (List Go.Proofs.Ytlljmgphgmklcaa.PRate.Rate)) (mails : (List Go.Proofs.Ytlljmgphgmklcaa.PMail.Mail)) (x : Go.Proofs.Ytlljmgphgmklcaa.PCover.Cover) : Option (Int) :=
  unCover x fun (x_id : Int) (x_day : Int) (x_zone : Int) (x_grams : Int) (x_paid : Int) (x_from_ : Int) (x_to_ : Int) (x_leave : Int) (x_arrive : Int) =>
  Option.bind (Go.Proofs.Ytlljmgphgmklcaa.GiRateOfCover.P rates (Go.Proofs.Ytlljmgphgmklcaa.PCover.Cover.mk x_id x_day x_zone x_grams x_paid x_from_ x_to_ x_leave x_arrive)) fun (t_4 : Int) =>
  Option.bind (Go.Proofs.Ytlljmgphgmklcaa.GiEarliestEnd.P mails (Go.Proofs.Ytlljmgphgmklcaa.PCover.Cover.mk x_id x_day x_zone x_grams x_paid x_from_ x_to_ x_leave x_arrive)) fun (t_7 : Int) =>
  letK (t_4 == 0) fun (t_11 : Bool) =>
  iteK t_11
  (some 1)
  (letK (decide (x_paid < t_4)) fun (t_17 : Bool) =>
  iteK t_17
  (some 2)
  (letK (IntKind.i64.wrap (2 * t_4)) fun (t_23 : Int) =>
  letK (decide (t_23 < x_paid)) fun (t_24 : Bool) =>
  iteK t_24
  (some 3)
  (letK (t_7 == 10000) fun (t_28 : Bool) =>
  iteK t_28
  (some 4)
  (letK (decide (x_arrive < t_7)) fun (t_34 : Bool) =>
  iteK t_34
  (some 5)
  (some 0)))))

set_option maxRecDepth 100000 in
set_option maxHeartbeats 2000000 in
theorem C (rates : (List Go.Proofs.Ytlljmgphgmklcaa.PRate.Rate)) (mails : (List Go.Proofs.Ytlljmgphgmklcaa.PMail.Mail)) (x : Go.Proofs.Ytlljmgphgmklcaa.PCover.Cover) (A0 : Option Addr) (c0 : Nat) (A1 : Option Addr) (c1 : Nat)  (w : World) (M0 : Hid (Cells w 5 A0 rates.length (Go.Proofs.Ytlljmgphgmklcaa.PRate.flat rates))) (N0 : Hid (rates.length ≤ 9223372036854775807)) (M1 : Hid (Cells w 4 A1 mails.length (Go.Proofs.Ytlljmgphgmklcaa.PMail.flat mails))) (N1 : Hid (mails.length ≤ 9223372036854775807))  {r : Int} (H : Hid (P rates mails x = some r)) :
    Calls Try.prog 95 #[.slice A0 rates.length c0, .slice A1 mails.length c1, x.val] w (Gives (.int .i64 r) w) := by
  have HB := Lib.hid (Below.refl w.heap.size w)
  unfold P at H
  obtain ⟨x_id, x_day, x_zone, x_grams, x_paid, x_from_, x_to_, x_leave, x_arrive⟩ := x
  replace H := unCover_hid H
  unfold Go.Proofs.Ytlljmgphgmklcaa.PCover.Cover.val
  have N0o := N0.out
  have N1o := N1.out
  go_enter Try.func95, Try.ntmps95
  obtain ⟨w_x_0, hw_x_0⟩ : ∃ x, w.alloc (.cells #[.int .i64 x_id, .int .i64 x_day, .int .i64 x_zone, .int .i64 x_grams, .int .i64 x_paid, .int .i64 x_from_, .int .i64 x_to_, .int .i64 x_leave, .int .i64 x_arrive] 25) = x := ⟨_, rfl⟩
  have bw_x_0 : Below w.heap.size w w_x_0 := by rw [← hw_x_0]; exact (Below.refl _ _).alloc (Nat.le_refl _) _
  have HBw_x_0 := Lib.hid (Below.step HB.out bw_x_0)
  clear bw_x_0
  have kx_0_0 : w_x_0.cell? ⟨w.heap.size, 0, none⟩ = some (.int .i64 x_id) := by rw [← hw_x_0]; exact box_new _ _ _ 0 _ rfl
  have kx_0_1 : w_x_0.cell? ⟨w.heap.size, 1, none⟩ = some (.int .i64 x_day) := by rw [← hw_x_0]; exact box_new _ _ _ 1 _ rfl
  have kx_0_2 : w_x_0.cell? ⟨w.heap.size, 2, none⟩ = some (.int .i64 x_zone) := by rw [← hw_x_0]; exact box_new _ _ _ 2 _ rfl
  have kx_0_3 : w_x_0.cell? ⟨w.heap.size, 3, none⟩ = some (.int .i64 x_grams) := by rw [← hw_x_0]; exact box_new _ _ _ 3 _ rfl
  have kx_0_4 : w_x_0.cell? ⟨w.heap.size, 4, none⟩ = some (.int .i64 x_paid) := by rw [← hw_x_0]; exact box_new _ _ _ 4 _ rfl
  have kx_0_5 : w_x_0.cell? ⟨w.heap.size, 5, none⟩ = some (.int .i64 x_from_) := by rw [← hw_x_0]; exact box_new _ _ _ 5 _ rfl
  have kx_0_6 : w_x_0.cell? ⟨w.heap.size, 6, none⟩ = some (.int .i64 x_to_) := by rw [← hw_x_0]; exact box_new _ _ _ 6 _ rfl
  have kx_0_7 : w_x_0.cell? ⟨w.heap.size, 7, none⟩ = some (.int .i64 x_leave) := by rw [← hw_x_0]; exact box_new _ _ _ 7 _ rfl
  have kx_0_8 : w_x_0.cell? ⟨w.heap.size, 8, none⟩ = some (.int .i64 x_arrive) := by rw [← hw_x_0]; exact box_new _ _ _ 8 _ rfl
  go_wp2_with fail
  have Hkx_0_0 := Lib.hid kx_0_0
  replace kx_0_0 := cell_regrown kx_0_0
  have Hkx_0_1 := Lib.hid kx_0_1
  replace kx_0_1 := cell_regrown kx_0_1
  have Hkx_0_2 := Lib.hid kx_0_2
  replace kx_0_2 := cell_regrown kx_0_2
  have Hkx_0_3 := Lib.hid kx_0_3
  replace kx_0_3 := cell_regrown kx_0_3
  have Hkx_0_4 := Lib.hid kx_0_4
  replace kx_0_4 := cell_regrown kx_0_4
  have Hkx_0_5 := Lib.hid kx_0_5
  replace kx_0_5 := cell_regrown kx_0_5
  have Hkx_0_6 := Lib.hid kx_0_6
  replace kx_0_6 := cell_regrown kx_0_6
  have Hkx_0_7 := Lib.hid kx_0_7
  replace kx_0_7 := cell_regrown kx_0_7
  have Hkx_0_8 := Lib.hid kx_0_8
  replace kx_0_8 := cell_regrown kx_0_8
  replace H := bind_hid H
  obtain ⟨t_4, qt_4, H⟩ := H
  have nt_4 : ∀ d os, Calls Try.prog 102 #[.slice A0 rates.length c0, .agg #[.int .i64 x_id, .int .i64 x_day, .int .i64 x_zone, .int .i64 x_grams, .int .i64 x_paid, .int .i64 x_from_, .int .i64 x_to_, .int .i64 x_leave, .int .i64 x_arrive]] (Go.Sort.grow (redrawn w_x_0 d) os) fun e w'' => e = .returned (.int .i64 t_4) ∧ ∃ p : Regrown, w'' = Go.Sort.grow (redrawn w_x_0 p.d) p.os := fun d os => Calls.regrown_of (Go.Proofs.Ytlljmgphgmklcaa.GiRateOfCover.C (rates) ((Go.Proofs.Ytlljmgphgmklcaa.PCover.Cover.mk x_id x_day x_zone x_grams x_paid x_from_ x_to_ x_leave x_arrive)) A0 c0 _   (Lib.hid (Cells.below (Cells.below M0.out HBw_x_0.out) (below_regrown _ _ _))) N0 qt_4)
  replace H := bind_hid H
  obtain ⟨t_7, qt_7, H⟩ := H
  have nt_7 : ∀ d os, Calls Try.prog 105 #[.slice A1 mails.length c1, .agg #[.int .i64 x_id, .int .i64 x_day, .int .i64 x_zone, .int .i64 x_grams, .int .i64 x_paid, .int .i64 x_from_, .int .i64 x_to_, .int .i64 x_leave, .int .i64 x_arrive]] (Go.Sort.grow (redrawn w_x_0 d) os) fun e w'' => e = .returned (.int .i64 t_7) ∧ ∃ p : Regrown, w'' = Go.Sort.grow (redrawn w_x_0 p.d) p.os := fun d os => Calls.regrown_of (Go.Proofs.Ytlljmgphgmklcaa.GiEarliestEnd.C (mails) ((Go.Proofs.Ytlljmgphgmklcaa.PCover.Cover.mk x_id x_day x_zone x_grams x_paid x_from_ x_to_ x_leave x_arrive)) A1 c1 _   (Lib.hid (Cells.below (Cells.below M1.out HBw_x_0.out) (below_regrown _ _ _))) N1 qt_7)
  refine wp_region_quiet_below (by kernel_rfl) (by kernel_rfl) ?_
  repeat (go_big_quiet_step (first | (go_at_call 102; exact nt_4 _ _) | (go_at_call 105; exact nt_7 _ _)))
  refine wpQuiet_nil ?_
  intro Y1 hY1
  replace hY1 := below_class hY1
  clear nt_4 nt_7
  replace kx_0_0 := Hkx_0_0.out
  clear Hkx_0_0
  replace kx_0_1 := Hkx_0_1.out
  clear Hkx_0_1
  replace kx_0_2 := Hkx_0_2.out
  clear Hkx_0_2
  replace kx_0_3 := Hkx_0_3.out
  clear Hkx_0_3
  replace kx_0_4 := Hkx_0_4.out
  clear Hkx_0_4
  replace kx_0_5 := Hkx_0_5.out
  clear Hkx_0_5
  replace kx_0_6 := Hkx_0_6.out
  clear Hkx_0_6
  replace kx_0_7 := Hkx_0_7.out
  clear Hkx_0_7
  replace kx_0_8 := Hkx_0_8.out
  clear Hkx_0_8
  have HBY1 := Lib.hid (Below.step HBw_x_0.out hY1)
  replace kx_0_0 := cell_below hY1 kx_0_0
  replace kx_0_1 := cell_below hY1 kx_0_1
  replace kx_0_2 := cell_below hY1 kx_0_2
  replace kx_0_3 := cell_below hY1 kx_0_3
  replace kx_0_4 := cell_below hY1 kx_0_4
  replace kx_0_5 := cell_below hY1 kx_0_5
  replace kx_0_6 := cell_below hY1 kx_0_6
  replace kx_0_7 := cell_below hY1 kx_0_7
  replace kx_0_8 := cell_below hY1 kx_0_8
  clear hY1
  replace H := let_hid H
  obtain ⟨t_11, ht_11, H⟩ := H
  cases t_11 with
  | false =>
    replace H := ite_f H
    replace H := let_hid H
    obtain ⟨t_17, ht_17, H⟩ := H
    cases t_17 with
    | false =>
      replace H := ite_f H
      replace H := let_hid H
      obtain ⟨t_23, ht_23, H⟩ := H
      replace H := let_hid H
      obtain ⟨t_24, ht_24, H⟩ := H
      cases t_24 with
      | false =>
        replace H := ite_f H
        replace H := let_hid H
        obtain ⟨t_28, ht_28, H⟩ := H
        cases t_28 with
        | false =>
          replace H := ite_f H
          replace H := let_hid H
          obtain ⟨t_34, ht_34, H⟩ := H
          cases t_34 with
          | false =>
            replace H := ite_f H
            obtain rfl := ret_hid H
            go_wp2_with fail
            go_ret
            exact ⟨rfl, HBY1.out⟩
          | true =>
            replace H := ite_t H
            obtain rfl := ret_hid H
            go_wp2_with fail
            go_ret
            exact ⟨rfl, HBY1.out⟩
        | true =>
          replace H := ite_t H
          obtain rfl := ret_hid H
          go_wp2_with fail
          go_ret
          exact ⟨rfl, HBY1.out⟩
      | true =>
        replace H := ite_t H
        obtain rfl := ret_hid H
        go_wp2_with fail
        go_ret
        exact ⟨rfl, HBY1.out⟩
    | true =>
      replace H := ite_t H
      obtain rfl := ret_hid H
      go_wp2_with fail
      go_ret
      exact ⟨rfl, HBY1.out⟩
  | true =>
    replace H := ite_t H
    obtain rfl := ret_hid H
    go_wp2_with fail
    go_ret
    exact ⟨rfl, HBY1.out⟩
end Go.Proofs.Ytlljmgphgmklcaa.GiFaultOn

/- loop.example/g01062/impl.FaultOf as a plain function, and the contract of the program's: where the plain one has an answer, the program has it. Conditions: slices read as lists. -/
namespace Go.Proofs.Ytlljmgphgmklcaa.GiFaultOf
set_option linter.unusedVariables false
set_option linter.unusedSimpArgs false
open Go.RowKit
open Go.Proofs.Ytlljmgphgmklcaa.Rowed Go.Proofs.Ytlljmgphgmklcaa.Turn Go.Proofs.Ytlljmgphgmklcaa.Aid Go.Proofs.Ytlljmgphgmklcaa.GoP Go.Proofs.Ytlljmgphgmklcaa.GoM

def P (rates : (List Go.Proofs.Ytlljmgphgmklcaa.PRate.Rate)) (mails : (List Go.Proofs.Ytlljmgphgmklcaa.PMail.Mail)) (x : Go.Proofs.Ytlljmgphgmklcaa.PCover.Cover) : Option (Int × Bool) :=
  unCover x fun (x_id : Int) (x_day : Int) (x_zone : Int) (x_grams : Int) (x_paid : Int) (x_from_ : Int) (x_to_ : Int) (x_leave : Int) (x_arrive : Int) =>
  Option.bind (Go.Proofs.Ytlljmgphgmklcaa.GiCanCheckCovers.P rates mails) fun (t_5 : Bool) =>
  letK (!t_5) fun (t_6 : Bool) =>
  joinK (fun (t_11 : Bool) =>
  iteK t_11
  (some (0, false))
  (Option.bind (Go.Proofs.Ytlljmgphgmklcaa.GiFaultOn.P rates mails (Go.Proofs.Ytlljmgphgmklcaa.PCover.Cover.mk x_id x_day x_zone x_grams x_paid x_from_ x_to_ x_leave x_arrive)) fun (t_17 : Int) =>
  some (t_17, true))) fun jt_11 => iteK t_6 (appK jt_11 true) (Option.bind (Go.Proofs.Ytlljmgphgmklcaa.GiIsCover.P (Go.Proofs.Ytlljmgphgmklcaa.PCover.Cover.mk x_id x_day x_zone x_grams x_paid x_from_ x_to_ x_leave x_arrive)) fun (t_9 : Bool) =>
  letK (!t_9) fun (t_10 : Bool) =>
  appK jt_11 t_10)

set_option maxRecDepth 100000 in
set_option maxHeartbeats 2000000 in
theorem C (rates : (List Go.Proofs.Ytlljmgphgmklcaa.PRate.Rate)) (mails : (List Go.Proofs.Ytlljmgphgmklcaa.PMail.Mail)) (x : Go.Proofs.Ytlljmgphgmklcaa.PCover.Cover) (A0 : Option Addr) (c0 : Nat) (A1 : Option Addr) (c1 : Nat)  (w : World) (M0 : Hid (Cells w 5 A0 rates.length (Go.Proofs.Ytlljmgphgmklcaa.PRate.flat rates))) (N0 : Hid (rates.length ≤ 9223372036854775807)) (M1 : Hid (Cells w 4 A1 mails.length (Go.Proofs.Ytlljmgphgmklcaa.PMail.flat mails))) (N1 : Hid (mails.length ≤ 9223372036854775807))  {r0 : Int} {r1 : Bool} (H : Hid (P rates mails x = some (r0, r1))) :
    Calls Try.prog 29 #[.slice A0 rates.length c0, .slice A1 mails.length c1, x.val] w (Gives (.tuple #[.int .i64 r0, .bool r1]) w) := by
  have HB := Lib.hid (Below.refl w.heap.size w)
  unfold P at H
  obtain ⟨x_id, x_day, x_zone, x_grams, x_paid, x_from_, x_to_, x_leave, x_arrive⟩ := x
  replace H := unCover_hid H
  unfold Go.Proofs.Ytlljmgphgmklcaa.PCover.Cover.val
  have N0o := N0.out
  have N1o := N1.out
  go_enter Try.func29, Try.ntmps29
  obtain ⟨w_x_0, hw_x_0⟩ : ∃ x, w.alloc (.cells #[.int .i64 x_id, .int .i64 x_day, .int .i64 x_zone, .int .i64 x_grams, .int .i64 x_paid, .int .i64 x_from_, .int .i64 x_to_, .int .i64 x_leave, .int .i64 x_arrive] 25) = x := ⟨_, rfl⟩
  have bw_x_0 : Below w.heap.size w w_x_0 := by rw [← hw_x_0]; exact (Below.refl _ _).alloc (Nat.le_refl _) _
  have HBw_x_0 := Lib.hid (Below.step HB.out bw_x_0)
  clear bw_x_0
  have kx_0_0 : w_x_0.cell? ⟨w.heap.size, 0, none⟩ = some (.int .i64 x_id) := by rw [← hw_x_0]; exact box_new _ _ _ 0 _ rfl
  have kx_0_1 : w_x_0.cell? ⟨w.heap.size, 1, none⟩ = some (.int .i64 x_day) := by rw [← hw_x_0]; exact box_new _ _ _ 1 _ rfl
  have kx_0_2 : w_x_0.cell? ⟨w.heap.size, 2, none⟩ = some (.int .i64 x_zone) := by rw [← hw_x_0]; exact box_new _ _ _ 2 _ rfl
  have kx_0_3 : w_x_0.cell? ⟨w.heap.size, 3, none⟩ = some (.int .i64 x_grams) := by rw [← hw_x_0]; exact box_new _ _ _ 3 _ rfl
  have kx_0_4 : w_x_0.cell? ⟨w.heap.size, 4, none⟩ = some (.int .i64 x_paid) := by rw [← hw_x_0]; exact box_new _ _ _ 4 _ rfl
  have kx_0_5 : w_x_0.cell? ⟨w.heap.size, 5, none⟩ = some (.int .i64 x_from_) := by rw [← hw_x_0]; exact box_new _ _ _ 5 _ rfl
  have kx_0_6 : w_x_0.cell? ⟨w.heap.size, 6, none⟩ = some (.int .i64 x_to_) := by rw [← hw_x_0]; exact box_new _ _ _ 6 _ rfl
  have kx_0_7 : w_x_0.cell? ⟨w.heap.size, 7, none⟩ = some (.int .i64 x_leave) := by rw [← hw_x_0]; exact box_new _ _ _ 7 _ rfl
  have kx_0_8 : w_x_0.cell? ⟨w.heap.size, 8, none⟩ = some (.int .i64 x_arrive) := by rw [← hw_x_0]; exact box_new _ _ _ 8 _ rfl
  replace H := bind_hid H
  obtain ⟨t_5, qt_5, H⟩ := H
  go_wp2_with fail
  go_at_call 94
  refine (Go.Proofs.Ytlljmgphgmklcaa.GiCanCheckCovers.C (rates) (mails) A0 c0 A1 c1 _   (Lib.hid (Cells.below M0.out HBw_x_0.out)) N0 (Lib.hid (Cells.below M1.out HBw_x_0.out)) N1 qt_5).mono ?_
  rintro e_t_5 wt_5 ⟨rfl, bt_5⟩
  have HBwt_5 := Lib.hid (Below.step HBw_x_0.out bt_5)
  replace kx_0_0 := cell_below bt_5 kx_0_0
  replace kx_0_1 := cell_below bt_5 kx_0_1
  replace kx_0_2 := cell_below bt_5 kx_0_2
  replace kx_0_3 := cell_below bt_5 kx_0_3
  replace kx_0_4 := cell_below bt_5 kx_0_4
  replace kx_0_5 := cell_below bt_5 kx_0_5
  replace kx_0_6 := cell_below bt_5 kx_0_6
  replace kx_0_7 := cell_below bt_5 kx_0_7
  replace kx_0_8 := cell_below bt_5 kx_0_8
  clear bt_5
  cases t_5 with
  | false =>
    replace H := let_hid H
    obtain ⟨t_6, ht_6, H⟩ := H
    obtain rfl : t_6 = true := ht_6.symm
    replace H := join_hid H
    replace H := ite_t H
    replace H := app_hid H
    replace H := ite_t H
    cases ret_hid H
    go_wp2_with fail
    go_ret2
    exact ⟨rfl, HBwt_5.out⟩
  | true =>
    replace H := let_hid H
    obtain ⟨t_6, ht_6, H⟩ := H
    obtain rfl : t_6 = false := ht_6.symm
    replace H := join_hid H
    replace H := ite_f H
    replace H := bind_hid H
    obtain ⟨t_9, qt_9, H⟩ := H
    go_wp2_with fail
    go_at_call 18
    refine (Go.Proofs.Ytlljmgphgmklcaa.GiIsCover.C ((Go.Proofs.Ytlljmgphgmklcaa.PCover.Cover.mk x_id x_day x_zone x_grams x_paid x_from_ x_to_ x_leave x_arrive))  _    qt_9).mono ?_
    rintro e_t_9 wt_9 ⟨rfl, bt_9⟩
    have HBwt_9 := Lib.hid (Below.step HBwt_5.out bt_9)
    replace kx_0_0 := cell_below bt_9 kx_0_0
    replace kx_0_1 := cell_below bt_9 kx_0_1
    replace kx_0_2 := cell_below bt_9 kx_0_2
    replace kx_0_3 := cell_below bt_9 kx_0_3
    replace kx_0_4 := cell_below bt_9 kx_0_4
    replace kx_0_5 := cell_below bt_9 kx_0_5
    replace kx_0_6 := cell_below bt_9 kx_0_6
    replace kx_0_7 := cell_below bt_9 kx_0_7
    replace kx_0_8 := cell_below bt_9 kx_0_8
    clear bt_9
    cases t_9 with
    | false =>
      replace H := let_hid H
      obtain ⟨t_10, ht_10, H⟩ := H
      obtain rfl : t_10 = true := ht_10.symm
      replace H := app_hid H
      replace H := ite_t H
      cases ret_hid H
      go_wp2_with fail
      go_ret2
      exact ⟨rfl, HBwt_9.out⟩
    | true =>
      replace H := let_hid H
      obtain ⟨t_10, ht_10, H⟩ := H
      obtain rfl : t_10 = false := ht_10.symm
      replace H := app_hid H
      replace H := ite_f H
      replace H := bind_hid H
      obtain ⟨t_17, qt_17, H⟩ := H
      go_wp2_with fail
      go_at_call 95
      refine (Go.Proofs.Ytlljmgphgmklcaa.GiFaultOn.C (rates) (mails) ((Go.Proofs.Ytlljmgphgmklcaa.PCover.Cover.mk x_id x_day x_zone x_grams x_paid x_from_ x_to_ x_leave x_arrive)) A0 c0 A1 c1 _   (Lib.hid (Cells.below M0.out HBwt_9.out)) N0 (Lib.hid (Cells.below M1.out HBwt_9.out)) N1 qt_17).mono ?_
      rintro e_t_17 wt_17 ⟨rfl, bt_17⟩
      have HBwt_17 := Lib.hid (Below.step HBwt_9.out bt_17)
      replace kx_0_0 := cell_below bt_17 kx_0_0
      replace kx_0_1 := cell_below bt_17 kx_0_1
      replace kx_0_2 := cell_below bt_17 kx_0_2
      replace kx_0_3 := cell_below bt_17 kx_0_3
      replace kx_0_4 := cell_below bt_17 kx_0_4
      replace kx_0_5 := cell_below bt_17 kx_0_5
      replace kx_0_6 := cell_below bt_17 kx_0_6
      replace kx_0_7 := cell_below bt_17 kx_0_7
      replace kx_0_8 := cell_below bt_17 kx_0_8
      clear bt_17
      cases ret_hid H
      go_wp2_with fail
      go_ret2
      exact ⟨rfl, HBwt_17.out⟩
end Go.Proofs.Ytlljmgphgmklcaa.GiFaultOf

/- loop.example/g01062/laws.eqRate as a plain function, and the contract of the program's: where the plain one has an answer, the program has it. Conditions: slices read as lists. -/
namespace Go.Proofs.Ytlljmgphgmklcaa.GlEqRate
set_option linter.unusedVariables false
set_option linter.unusedSimpArgs false
open Go.RowKit
open Go.Proofs.Ytlljmgphgmklcaa.Rowed Go.Proofs.Ytlljmgphgmklcaa.Turn Go.Proofs.Ytlljmgphgmklcaa.Aid Go.Proofs.Ytlljmgphgmklcaa.GoP Go.Proofs.Ytlljmgphgmklcaa.GoM

def P (a : Go.Proofs.Ytlljmgphgmklcaa.PRate.Rate) (b : Go.Proofs.Ytlljmgphgmklcaa.PRate.Rate) : Option (Bool) :=
  unRate a fun (a_zone : Int) (a_grams : Int) (a_from_ : Int) (a_until_ : Int) (a_cents : Int) =>
  unRate b fun (b_zone : Int) (b_grams : Int) (b_from_ : Int) (b_until_ : Int) (b_cents : Int) =>
  letK (a_zone != b_zone) fun (t_7 : Bool) =>
  iteK t_7
  (some false)
  (letK (a_grams != b_grams) fun (t_13 : Bool) =>
  iteK t_13
  (some false)
  (letK (a_from_ != b_from_) fun (t_19 : Bool) =>
  iteK t_19
  (some false)
  (letK (a_until_ != b_until_) fun (t_25 : Bool) =>
  iteK t_25
  (some false)
  (letK (a_cents != b_cents) fun (t_31 : Bool) =>
  iteK t_31
  (some false)
  (some true)))))

set_option maxRecDepth 100000 in
set_option maxHeartbeats 2000000 in
theorem C (a : Go.Proofs.Ytlljmgphgmklcaa.PRate.Rate) (b : Go.Proofs.Ytlljmgphgmklcaa.PRate.Rate)   (w : World)   {r : Bool} (H : Hid (P a b = some r)) :
    Calls Try.prog 96 #[a.val, b.val] w (Gives (.bool r) w) := by
  have HB := Lib.hid (Below.refl w.heap.size w)
  unfold P at H
  obtain ⟨a_zone, a_grams, a_from_, a_until_, a_cents⟩ := a
  replace H := unRate_hid H
  obtain ⟨b_zone, b_grams, b_from_, b_until_, b_cents⟩ := b
  replace H := unRate_hid H
  unfold Go.Proofs.Ytlljmgphgmklcaa.PRate.Rate.val
  go_enter Try.func96, Try.ntmps96
  obtain ⟨w_a_0, hw_a_0⟩ : ∃ x, w.alloc (.cells #[.int .i64 a_zone, .int .i64 a_grams, .int .i64 a_from_, .int .i64 a_until_, .int .i64 a_cents] 104) = x := ⟨_, rfl⟩
  have bw_a_0 : Below w.heap.size w w_a_0 := by rw [← hw_a_0]; exact (Below.refl _ _).alloc (Nat.le_refl _) _
  have HBw_a_0 := Lib.hid (Below.step HB.out bw_a_0)
  clear bw_a_0
  have ka_0_0 : w_a_0.cell? ⟨w.heap.size, 0, none⟩ = some (.int .i64 a_zone) := by rw [← hw_a_0]; exact box_new _ _ _ 0 _ rfl
  have ka_0_1 : w_a_0.cell? ⟨w.heap.size, 1, none⟩ = some (.int .i64 a_grams) := by rw [← hw_a_0]; exact box_new _ _ _ 1 _ rfl
  have ka_0_2 : w_a_0.cell? ⟨w.heap.size, 2, none⟩ = some (.int .i64 a_from_) := by rw [← hw_a_0]; exact box_new _ _ _ 2 _ rfl
  have ka_0_3 : w_a_0.cell? ⟨w.heap.size, 3, none⟩ = some (.int .i64 a_until_) := by rw [← hw_a_0]; exact box_new _ _ _ 3 _ rfl
  have ka_0_4 : w_a_0.cell? ⟨w.heap.size, 4, none⟩ = some (.int .i64 a_cents) := by rw [← hw_a_0]; exact box_new _ _ _ 4 _ rfl
  obtain ⟨w_b_1, hw_b_1⟩ : ∃ x, w_a_0.alloc (.cells #[.int .i64 b_zone, .int .i64 b_grams, .int .i64 b_from_, .int .i64 b_until_, .int .i64 b_cents] 104) = x := ⟨_, rfl⟩
  have bw_b_1 : Below w_a_0.heap.size w_a_0 w_b_1 := by rw [← hw_b_1]; exact (Below.refl _ _).alloc (Nat.le_refl _) _
  have HBw_b_1 := Lib.hid (Below.step HBw_a_0.out bw_b_1)
  have ka_0_0__836 := cell_below bw_b_1 ka_0_0
  have ka_0_1__837 := cell_below bw_b_1 ka_0_1
  have ka_0_2__838 := cell_below bw_b_1 ka_0_2
  have ka_0_3__839 := cell_below bw_b_1 ka_0_3
  have ka_0_4__840 := cell_below bw_b_1 ka_0_4
  clear bw_b_1
  have kb_1_0 : w_b_1.cell? ⟨w_a_0.heap.size, 0, none⟩ = some (.int .i64 b_zone) := by rw [← hw_b_1]; exact box_new _ _ _ 0 _ rfl
  have kb_1_1 : w_b_1.cell? ⟨w_a_0.heap.size, 1, none⟩ = some (.int .i64 b_grams) := by rw [← hw_b_1]; exact box_new _ _ _ 1 _ rfl
  have kb_1_2 : w_b_1.cell? ⟨w_a_0.heap.size, 2, none⟩ = some (.int .i64 b_from_) := by rw [← hw_b_1]; exact box_new _ _ _ 2 _ rfl
  have kb_1_3 : w_b_1.cell? ⟨w_a_0.heap.size, 3, none⟩ = some (.int .i64 b_until_) := by rw [← hw_b_1]; exact box_new _ _ _ 3 _ rfl
  have kb_1_4 : w_b_1.cell? ⟨w_a_0.heap.size, 4, none⟩ = some (.int .i64 b_cents) := by rw [← hw_b_1]; exact box_new _ _ _ 4 _ rfl
  replace H := let_hid H
  obtain ⟨t_7, ht_7, H⟩ := H
  cases t_7 with
  | false =>
    replace H := ite_f H
    replace H := let_hid H
    obtain ⟨t_13, ht_13, H⟩ := H
    cases t_13 with
    | false =>
      replace H := ite_f H
      replace H := let_hid H
      obtain ⟨t_19, ht_19, H⟩ := H
      cases t_19 with
      | false =>
        replace H := ite_f H
        replace H := let_hid H
        obtain ⟨t_25, ht_25, H⟩ := H
        cases t_25 with
        | false =>
          replace H := ite_f H
          replace H := let_hid H
          obtain ⟨t_31, ht_31, H⟩ := H
          cases t_31 with
          | false =>
            replace H := ite_f H
            obtain rfl := ret_hid H
            go_wp2_with fail
            go_ret
            exact ⟨rfl, HBw_b_1.out⟩
          | true =>
            replace H := ite_t H
            obtain rfl := ret_hid H
            go_wp2_with fail
            go_ret
            exact ⟨rfl, HBw_b_1.out⟩
        | true =>
          replace H := ite_t H
          obtain rfl := ret_hid H
          go_wp2_with fail
          go_ret
          exact ⟨rfl, HBw_b_1.out⟩
      | true =>
        replace H := ite_t H
        obtain rfl := ret_hid H
        go_wp2_with fail
        go_ret
        exact ⟨rfl, HBw_b_1.out⟩
    | true =>
      replace H := ite_t H
      obtain rfl := ret_hid H
      go_wp2_with fail
      go_ret
      exact ⟨rfl, HBw_b_1.out⟩
  | true =>
    replace H := ite_t H
    obtain rfl := ret_hid H
    go_wp2_with fail
    go_ret
    exact ⟨rfl, HBw_b_1.out⟩
end Go.Proofs.Ytlljmgphgmklcaa.GlEqRate

/- loop.example/g01062/laws.eqRateS as a plain function, and the contract of the program's: where the plain one has an answer, the program has it. Conditions: slices read as lists. -/
namespace Go.Proofs.Ytlljmgphgmklcaa.GlEqRateS
set_option linter.unusedVariables false
set_option linter.unusedSimpArgs false
open Go.RowKit
open Go.Proofs.Ytlljmgphgmklcaa.Rowed Go.Proofs.Ytlljmgphgmklcaa.Turn Go.Proofs.Ytlljmgphgmklcaa.Aid Go.Proofs.Ytlljmgphgmklcaa.GoP Go.Proofs.Ytlljmgphgmklcaa.GoM

def l0 (a : (List Go.Proofs.Ytlljmgphgmklcaa.PRate.Rate)) (b : (List Go.Proofs.Ytlljmgphgmklcaa.PRate.Rate)) (k0 : Nat) (s : Unit) (nx0 bk0 : Unit → Option (Bool)) : Option (Bool) :=
  
  Option.bind (idx a (k0 : Int)) fun (yt_14 : Go.Proofs.Ytlljmgphgmklcaa.PRate.Rate) =>
  unRate yt_14 fun (t_14_zone : Int) (t_14_grams : Int) (t_14_from_ : Int) (t_14_until_ : Int) (t_14_cents : Int) =>
  Option.bind (idx b (k0 : Int)) fun (yt_18 : Go.Proofs.Ytlljmgphgmklcaa.PRate.Rate) =>
  unRate yt_18 fun (t_18_zone : Int) (t_18_grams : Int) (t_18_from_ : Int) (t_18_until_ : Int) (t_18_cents : Int) =>
  Option.bind (Go.Proofs.Ytlljmgphgmklcaa.GlEqRate.P (Go.Proofs.Ytlljmgphgmklcaa.PRate.Rate.mk t_14_zone t_14_grams t_14_from_ t_14_until_ t_14_cents) (Go.Proofs.Ytlljmgphgmklcaa.PRate.Rate.mk t_18_zone t_18_grams t_18_from_ t_18_until_ t_18_cents)) fun (t_20 : Bool) =>
  letK (!t_20) fun (t_21 : Bool) =>
  iteK t_21
  (some false)
  (appK nx0 ())

def e0  (s : Unit) : Option (Bool) :=
  
  some true

def P (a : (List Go.Proofs.Ytlljmgphgmklcaa.PRate.Rate)) (b : (List Go.Proofs.Ytlljmgphgmklcaa.PRate.Rate)) : Option (Bool) :=
  letK ((a.length : Int) != (b.length : Int)) fun (t_5 : Bool) =>
  iteK t_5
  (some false)
  (cntK (l0 a b) (a.length) 0 () (e0 ))

set_option maxRecDepth 100000 in
set_option maxHeartbeats 2000000 in
theorem C (a : (List Go.Proofs.Ytlljmgphgmklcaa.PRate.Rate)) (b : (List Go.Proofs.Ytlljmgphgmklcaa.PRate.Rate)) (A0 : Option Addr) (c0 : Nat) (A1 : Option Addr) (c1 : Nat)  (w : World) (M0 : Hid (Cells w 5 A0 a.length (Go.Proofs.Ytlljmgphgmklcaa.PRate.flat a))) (N0 : Hid (a.length ≤ 9223372036854775807)) (M1 : Hid (Cells w 5 A1 b.length (Go.Proofs.Ytlljmgphgmklcaa.PRate.flat b))) (N1 : Hid (b.length ≤ 9223372036854775807))  {r : Bool} (H : Hid (P a b = some r)) :
    Calls Try.prog 30 #[.slice A0 a.length c0, .slice A1 b.length c1] w (Gives (.bool r) w) := by
  have HB := Lib.hid (Below.refl w.heap.size w)
  unfold P at H
  have N0o := N0.out
  have N1o := N1.out
  go_enter Try.func30, Try.ntmps30
  replace H := let_hid H
  obtain ⟨t_5, ht_5, H⟩ := H
  cases t_5 with
  | false =>
    have Hht_5 : Hid (a.length = b.length) := Lib.hid (by have := bne_eq_false_iff_eq.1 ht_5; omega)
    have nht_5 : (a.length == b.length) = true := beq_iff_eq.2 Hht_5.out
    replace H := ite_f H
    go_wp2_with fail
    go_loopg [5] (a.length) (fun m_ v5_ wr => ∃ (k0 : Nat) , k0 + m_ = a.length ∧ v5_ = .int .i64 (k0 : Int) ∧ Hid (cntK (l0 a b) m_ k0 () (e0 ) = some r) ∧ Hid (Below w.heap.size w wr))
    case atStart => exact ⟨0, by omega, rfl, H, HB⟩
    case round =>
      obtain ⟨k0, hkm0, rfl, H, HBwr0⟩ := hrel
      rename World => wr0
      cases gk with
      | zero =>
        obtain rfl : k0 = a.length := by omega
        have hc0 : decide (((a.length : Nat) : Int) < ((a.length : Nat) : Int)) = false := by simp
        replace H := cnt_zero H
        unfold e0 at H
        obtain rfl := ret_hid H
        go_wp2_with fail
        go_ret
        exact ⟨rfl, HBwr0.out⟩
      | succ m0 =>
        have hlt0 : k0 < a.length := by omega
        have hc0 : decide ((k0 : Int) < ((a.length : Nat) : Int)) = true := by simp; omega
        replace H := cnt_succ H
        unfold l0 at H
        go_wp2_with fail
        replace H := idx_hid H
        obtain ⟨nt_14, yt_14, et_14, lt_14, gt_14, H⟩ := H
        obtain rfl : k0 = nt_14 := by omega
        clear et_14
        obtain ⟨t_14_zone, t_14_grams, t_14_from_, t_14_until_, t_14_cents⟩ := yt_14
        replace H := unRate_hid H
        obtain ⟨ab_t_14, ao_t_14, zt_14, At_14, z_t_14, ct_14_0, ct_14_1, ct_14_2, ct_14_3, ct_14_4⟩ := Go.Proofs.Ytlljmgphgmklcaa.ORate.at_ M0.out lt_14
        obtain rfl := Option.some.inj (gt_14.out.symm.trans z_t_14)
        subst At_14
        have ltt_14 := cell_lt ct_14_0
        replace ct_14_0 := cell_below HBwr0.out ct_14_0
        replace ct_14_1 := cell_below HBwr0.out ct_14_1
        replace ct_14_2 := cell_below HBwr0.out ct_14_2
        replace ct_14_3 := cell_below HBwr0.out ct_14_3
        replace ct_14_4 := cell_below HBwr0.out ct_14_4
        clear z_t_14
        have b0t_14 : (0 : Int) ≤ (k0 : Int) := by omega
        have b1t_14 : (k0 : Int) < ((a.length : Nat) : Int) := by omega
        have b2t_14 : ((k0 : Int)).toNat = k0 := by omega
        have Hct_14_0 := Lib.hid ct_14_0
        replace ct_14_0 := cell_regrown ct_14_0
        have Hct_14_1 := Lib.hid ct_14_1
        replace ct_14_1 := cell_regrown ct_14_1
        have Hct_14_2 := Lib.hid ct_14_2
        replace ct_14_2 := cell_regrown ct_14_2
        have Hct_14_3 := Lib.hid ct_14_3
        replace ct_14_3 := cell_regrown ct_14_3
        have Hct_14_4 := Lib.hid ct_14_4
        replace ct_14_4 := cell_regrown ct_14_4
        replace H := idx_hid H
        obtain ⟨nt_18, yt_18, et_18, lt_18, gt_18, H⟩ := H
        obtain rfl : k0 = nt_18 := by omega
        clear et_18
        obtain ⟨t_18_zone, t_18_grams, t_18_from_, t_18_until_, t_18_cents⟩ := yt_18
        replace H := unRate_hid H
        obtain ⟨ab_t_18, ao_t_18, zt_18, At_18, z_t_18, ct_18_0, ct_18_1, ct_18_2, ct_18_3, ct_18_4⟩ := Go.Proofs.Ytlljmgphgmklcaa.ORate.at_ M1.out lt_18
        obtain rfl := Option.some.inj (gt_18.out.symm.trans z_t_18)
        subst At_18
        have ltt_18 := cell_lt ct_18_0
        replace ct_18_0 := cell_below HBwr0.out ct_18_0
        replace ct_18_1 := cell_below HBwr0.out ct_18_1
        replace ct_18_2 := cell_below HBwr0.out ct_18_2
        replace ct_18_3 := cell_below HBwr0.out ct_18_3
        replace ct_18_4 := cell_below HBwr0.out ct_18_4
        clear z_t_18
        have b0t_18 : (0 : Int) ≤ (k0 : Int) := by omega
        have b1t_18 : (k0 : Int) < ((b.length : Nat) : Int) := by omega
        have b2t_18 : ((k0 : Int)).toNat = k0 := by omega
        have Hct_18_0 := Lib.hid ct_18_0
        replace ct_18_0 := cell_regrown ct_18_0
        have Hct_18_1 := Lib.hid ct_18_1
        replace ct_18_1 := cell_regrown ct_18_1
        have Hct_18_2 := Lib.hid ct_18_2
        replace ct_18_2 := cell_regrown ct_18_2
        have Hct_18_3 := Lib.hid ct_18_3
        replace ct_18_3 := cell_regrown ct_18_3
        have Hct_18_4 := Lib.hid ct_18_4
        replace ct_18_4 := cell_regrown ct_18_4
        replace H := bind_hid H
        obtain ⟨t_20, qt_20, H⟩ := H
        have nt_20 : ∀ d os, Calls Try.prog 96 #[.agg #[.int .i64 t_14_zone, .int .i64 t_14_grams, .int .i64 t_14_from_, .int .i64 t_14_until_, .int .i64 t_14_cents], .agg #[.int .i64 t_18_zone, .int .i64 t_18_grams, .int .i64 t_18_from_, .int .i64 t_18_until_, .int .i64 t_18_cents]] (Go.Sort.grow (redrawn wr0 d) os) fun e w'' => e = .returned (.bool t_20) ∧ ∃ p : Regrown, w'' = Go.Sort.grow (redrawn wr0 p.d) p.os := fun d os => Calls.regrown_of (Go.Proofs.Ytlljmgphgmklcaa.GlEqRate.C ((Go.Proofs.Ytlljmgphgmklcaa.PRate.Rate.mk t_14_zone t_14_grams t_14_from_ t_14_until_ t_14_cents)) ((Go.Proofs.Ytlljmgphgmklcaa.PRate.Rate.mk t_18_zone t_18_grams t_18_from_ t_18_until_ t_18_cents))  _    qt_20)
        cases t_20 with
        | false =>
          replace H := let_hid H
          obtain ⟨t_21, ht_21, H⟩ := H
          obtain rfl : t_21 = true := ht_21.symm
          refine wp_region_quiet_below (by kernel_rfl) (by kernel_rfl) ?_
          repeat (go_big_quiet_step (first | (go_at_call 96; exact nt_20 _ _)))
          refine wpQuiet_nil ?_
          intro Y6 hY6
          replace hY6 := below_class hY6
          clear nt_20
          replace ct_14_0 := Hct_14_0.out
          clear Hct_14_0
          replace ct_14_1 := Hct_14_1.out
          clear Hct_14_1
          replace ct_14_2 := Hct_14_2.out
          clear Hct_14_2
          replace ct_14_3 := Hct_14_3.out
          clear Hct_14_3
          replace ct_14_4 := Hct_14_4.out
          clear Hct_14_4
          replace ct_18_0 := Hct_18_0.out
          clear Hct_18_0
          replace ct_18_1 := Hct_18_1.out
          clear Hct_18_1
          replace ct_18_2 := Hct_18_2.out
          clear Hct_18_2
          replace ct_18_3 := Hct_18_3.out
          clear Hct_18_3
          replace ct_18_4 := Hct_18_4.out
          clear Hct_18_4
          have HBY6 := Lib.hid (Below.step HBwr0.out hY6)
          replace ct_14_0 := cell_below hY6 ct_14_0
          replace ct_14_1 := cell_below hY6 ct_14_1
          replace ct_14_2 := cell_below hY6 ct_14_2
          replace ct_14_3 := cell_below hY6 ct_14_3
          replace ct_14_4 := cell_below hY6 ct_14_4
          replace ct_18_0 := cell_below hY6 ct_18_0
          replace ct_18_1 := cell_below hY6 ct_18_1
          replace ct_18_2 := cell_below hY6 ct_18_2
          replace ct_18_3 := cell_below hY6 ct_18_3
          replace ct_18_4 := cell_below hY6 ct_18_4
          clear hY6
          replace H := ite_t H
          obtain rfl := ret_hid H
          go_wp2_with fail
          go_ret
          exact ⟨rfl, HBY6.out⟩
        | true =>
          replace H := let_hid H
          obtain ⟨t_21, ht_21, H⟩ := H
          obtain rfl : t_21 = false := ht_21.symm
          refine wp_region_quiet_below (by kernel_rfl) (by kernel_rfl) ?_
          repeat (go_big_quiet_step (first | (go_at_call 96; exact nt_20 _ _)))
          refine wpQuiet_nil ?_
          intro Y6 hY6
          replace hY6 := below_class hY6
          clear nt_20
          replace ct_14_0 := Hct_14_0.out
          clear Hct_14_0
          replace ct_14_1 := Hct_14_1.out
          clear Hct_14_1
          replace ct_14_2 := Hct_14_2.out
          clear Hct_14_2
          replace ct_14_3 := Hct_14_3.out
          clear Hct_14_3
          replace ct_14_4 := Hct_14_4.out
          clear Hct_14_4
          replace ct_18_0 := Hct_18_0.out
          clear Hct_18_0
          replace ct_18_1 := Hct_18_1.out
          clear Hct_18_1
          replace ct_18_2 := Hct_18_2.out
          clear Hct_18_2
          replace ct_18_3 := Hct_18_3.out
          clear Hct_18_3
          replace ct_18_4 := Hct_18_4.out
          clear Hct_18_4
          have HBY6 := Lib.hid (Below.step HBwr0.out hY6)
          replace ct_14_0 := cell_below hY6 ct_14_0
          replace ct_14_1 := cell_below hY6 ct_14_1
          replace ct_14_2 := cell_below hY6 ct_14_2
          replace ct_14_3 := cell_below hY6 ct_14_3
          replace ct_14_4 := cell_below hY6 ct_14_4
          replace ct_18_0 := cell_below hY6 ct_18_0
          replace ct_18_1 := cell_below hY6 ct_18_1
          replace ct_18_2 := cell_below hY6 ct_18_2
          replace ct_18_3 := cell_below hY6 ct_18_3
          replace ct_18_4 := cell_below hY6 ct_18_4
          clear hY6
          replace H := ite_f H
          replace H := app_hid H
          go_wp2_with fail
          go_roundg m0
          case measure => omega
          case rel => exact ⟨k0 + 1, by omega, by go_num, H, HBY6⟩
  | true =>
    have nht_5 : ¬ (a.length = b.length) := by have := bne_iff_ne.1 ht_5; omega
    replace H := ite_t H
    obtain rfl := ret_hid H
    go_wp2_with fail
    go_ret
    exact ⟨rfl, HB.out⟩
end Go.Proofs.Ytlljmgphgmklcaa.GlEqRateS

