/- JoinPositions, UndoPosition, SeenFromBack, PositionName: the program's and the reference's plain functions agree; their contracts. No condition. -/
import Derived.Test.YtbpjhmhnicfdfaaQBase
import Derived.Test.YtbpjhmhnicfdfaaGiJoinPositions
import Derived.Test.YtbpjhmhnicfdfaaGsJoinPositions
import Derived.Test.YtbpjhmhnicfdfaaGiUndoPosition
import Derived.Test.YtbpjhmhnicfdfaaGsUndoPosition
import Derived.Test.YtbpjhmhnicfdfaaGiSeenFromBack
import Derived.Test.YtbpjhmhnicfdfaaGsSeenFromBack
import Derived.Test.YtbpjhmhnicfdfaaGiPositionName
import Derived.Test.YtbpjhmhnicfdfaaGsPositionName
namespace Go.Proofs.Ytbpjhmhnicfdfaa.QPos
set_option linter.unusedVariables false
set_option linter.unusedSimpArgs false
open Go.RowKit
open Go.Proofs.Ytbpjhmhnicfdfaa.Turn Go.Proofs.Ytbpjhmhnicfdfaa.GoP Go.Proofs.Ytbpjhmhnicfdfaa.PlainStamp Go.Proofs.Ytbpjhmhnicfdfaa.QBase

theorem isPos_eq (a : Int) : GiIsPosition.P a = some (inB a 0 7) := by simp only [GiIsPosition.P, within_eq, Option.bind_some]
theorem l3Pos_eq (a : Int) : GsL3Position.P a = some (inB a 0 7) := by simp only [GsL3Position.P, l1In_eq, Option.bind_some]
def joinRes (a b : Int) : Int × Bool := (GsJoinPositions.P a b).getD (0, false)
def undoRes (a : Int) : Int × Bool := (GsUndoPosition.P a).getD (0, false)
def seenRes (a : Int) : Int × Bool := (GsSeenFromBack.P a).getD (0, false)
def nameRes (a : Int) : ByteArray × Bool := (GsPositionName.P a).getD (ByteArray.empty, false)
theorem eight {a : Int} (h : inB a 0 7 = true) : a = 0 ∨ a = 1 ∨ a = 2 ∨ a = 3 ∨ a = 4 ∨ a = 5 ∨ a = 6 ∨ a = 7 := by
  have := inB_of h
  omega
theorem join_eq (a b : Int) : GsJoinPositions.P a b = some (joinRes a b) ∧ GiJoinPositions.P a b = some (joinRes a b) := by
  cases ha : inB a 0 7 with
  | false =>
    have e : GsJoinPositions.P a b = some (0, false) := by simp only [GsJoinPositions.P, l3Pos_eq, ha, Option.bind_some, letK, joinK, appK, iteK_if]; rfl
    have f : GiJoinPositions.P a b = some (0, false) := by simp only [GiJoinPositions.P, isPos_eq, ha, Option.bind_some, letK, joinK, appK, iteK_if]; rfl
    exact ⟨by unfold joinRes; rw [e]; rfl, by unfold joinRes; rw [e, f]; rfl⟩
  | true =>
    cases hb : inB b 0 7 with
    | false =>
      have e : GsJoinPositions.P a b = some (0, false) := by simp only [GsJoinPositions.P, l3Pos_eq, ha, hb, Option.bind_some, letK, joinK, appK, iteK_if]; rfl
      have f : GiJoinPositions.P a b = some (0, false) := by simp only [GiJoinPositions.P, isPos_eq, ha, hb, Option.bind_some, letK, joinK, appK, iteK_if]; rfl
      exact ⟨by unfold joinRes; rw [e]; rfl, by unfold joinRes; rw [e, f]; rfl⟩
    | true =>
      rcases eight ha with rfl | rfl | rfl | rfl | rfl | rfl | rfl | rfl <;> rcases eight hb with rfl | rfl | rfl | rfl | rfl | rfl | rfl | rfl <;> exact ⟨by kernel_rfl, by kernel_rfl⟩
theorem undo_eq (a : Int) : GsUndoPosition.P a = some (undoRes a) ∧ GiUndoPosition.P a = some (undoRes a) := by
  cases ha : inB a 0 7 with
  | false =>
    have e : GsUndoPosition.P a = some (0, false) := by simp only [GsUndoPosition.P, l3Pos_eq, ha, Option.bind_some, letK, joinK, appK, iteK_if]; rfl
    have f : GiUndoPosition.P a = some (0, false) := by simp only [GiUndoPosition.P, isPos_eq, ha, Option.bind_some, letK, joinK, appK, iteK_if]; rfl
    exact ⟨by unfold undoRes; rw [e]; rfl, by unfold undoRes; rw [e, f]; rfl⟩
  | true => rcases eight ha with rfl | rfl | rfl | rfl | rfl | rfl | rfl | rfl <;> exact ⟨by kernel_rfl, by kernel_rfl⟩
theorem seen_eq (a : Int) : GsSeenFromBack.P a = some (seenRes a) ∧ GiSeenFromBack.P a = some (seenRes a) := by
  cases ha : inB a 0 7 with
  | false =>
    have e : GsSeenFromBack.P a = some (0, false) := by simp only [GsSeenFromBack.P, l3Pos_eq, ha, Option.bind_some, letK, joinK, appK, iteK_if]; rfl
    have f : GiJoinPositions.P a 4 = some (0, false) := by simp only [GiJoinPositions.P, isPos_eq, ha, Option.bind_some, letK, joinK, appK, iteK_if]; rfl
    have f : GiSeenFromBack.P a = some (0, false) := by simp only [GiSeenFromBack.P, f, bind2_some]
    exact ⟨by unfold seenRes; rw [e]; rfl, by unfold seenRes; rw [e, f]; rfl⟩
  | true => rcases eight ha with rfl | rfl | rfl | rfl | rfl | rfl | rfl | rfl <;> exact ⟨by kernel_rfl, by kernel_rfl⟩
theorem name_eq (a : Int) : GsPositionName.P a = some (nameRes a) ∧ GiPositionName.P a = some (nameRes a) := by
  cases ha : inB a 0 7 with
  | false =>
    have e : GsPositionName.P a = some (ByteArray.empty, false) := by simp only [GsPositionName.P, l3Pos_eq, ha, Option.bind_some, letK, joinK, appK, iteK_if]; rfl
    have f : GiPositionName.P a = some (ByteArray.empty, false) := by simp only [GiPositionName.P, isPos_eq, ha, Option.bind_some, letK, joinK, appK, iteK_if]; rfl
    exact ⟨by unfold nameRes; rw [e]; rfl, by unfold nameRes; rw [e, f]; rfl⟩
  | true => rcases eight ha with rfl | rfl | rfl | rfl | rfl | rfl | rfl | rfl <;> exact ⟨by kernel_rfl, by kernel_rfl⟩

theorem join_spec (a b : Int) (W : World) : Calls Try.prog 22 #[.int .i64 a, .int .i64 b] W (Gives (.tuple #[.int .i64 (joinRes a b).1, .bool (joinRes a b).2]) W) := GsJoinPositions.C a b W (Lib.hid (join_eq a b).1)
theorem join_impl (a b : Int) (W : World) : Calls Try.prog 21 #[.int .i64 a, .int .i64 b] W (Gives (.tuple #[.int .i64 (joinRes a b).1, .bool (joinRes a b).2]) W) := GiJoinPositions.C a b W (Lib.hid (join_eq a b).2)
theorem undo_spec (a : Int) (W : World) : Calls Try.prog 25 #[.int .i64 a] W (Gives (.tuple #[.int .i64 (undoRes a).1, .bool (undoRes a).2]) W) := GsUndoPosition.C a W (Lib.hid (undo_eq a).1)
theorem undo_impl (a : Int) (W : World) : Calls Try.prog 24 #[.int .i64 a] W (Gives (.tuple #[.int .i64 (undoRes a).1, .bool (undoRes a).2]) W) := GiUndoPosition.C a W (Lib.hid (undo_eq a).2)
theorem seen_spec (a : Int) (W : World) : Calls Try.prog 27 #[.int .i64 a] W (Gives (.tuple #[.int .i64 (seenRes a).1, .bool (seenRes a).2]) W) := GsSeenFromBack.C a W (Lib.hid (seen_eq a).1)
theorem seen_impl (a : Int) (W : World) : Calls Try.prog 26 #[.int .i64 a] W (Gives (.tuple #[.int .i64 (seenRes a).1, .bool (seenRes a).2]) W) := GiSeenFromBack.C a W (Lib.hid (seen_eq a).2)
theorem name_spec (a : Int) (W : World) : Calls Try.prog 29 #[.int .i64 a] W (Gives (.tuple #[.string (nameRes a).1, .bool (nameRes a).2]) W) := GsPositionName.C a W (Lib.hid (name_eq a).1)
theorem name_impl (a : Int) (W : World) : Calls Try.prog 28 #[.int .i64 a] W (Gives (.tuple #[.string (nameRes a).1, .bool (nameRes a).2]) W) := GiPositionName.C a W (Lib.hid (name_eq a).2)
end Go.Proofs.Ytbpjhmhnicfdfaa.QPos
