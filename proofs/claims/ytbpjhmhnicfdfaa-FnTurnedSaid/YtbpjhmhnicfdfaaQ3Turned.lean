/- FnTurned as a plain function answers true. (Q3Turned) No condition but those of each theorem. -/
import Derived.Test.YtbpjhmhnicfdfaaQLoop
import Derived.Test.YtbpjhmhnicfdfaaQPos
import Derived.Test.YtbpjhmhnicfdfaaQDraw
import Derived.Test.YtbpjhmhnicfdfaaQAll
import Derived.Test.YtbpjhmhnicfdfaaGsL1CurPosition3
import Derived.Test.YtbpjhmhnicfdfaaGlFnTurned
import Derived.KernelRfl
namespace Go.Proofs.Ytbpjhmhnicfdfaa.Q3Turned
set_option linter.unusedVariables false
set_option linter.unusedSimpArgs false
open Go.RowKit
open Go.Proofs.Ytbpjhmhnicfdfaa.GoP Go.Proofs.Ytbpjhmhnicfdfaa.PlainStamp Go.Proofs.Ytbpjhmhnicfdfaa.QBase Go.Proofs.Ytbpjhmhnicfdfaa.QLoop Go.Proofs.Ytbpjhmhnicfdfaa.QPos Go.Proofs.Ytbpjhmhnicfdfaa.QDraw Go.Proofs.Ytbpjhmhnicfdfaa.QAll

theorem pos_ok {t : GoC.Tape} {m : Nat} (h : good t (m + 4)) : ∃ x t', GsL1CurPosition3.P t = some (x, t') ∧ good t' m := by
  simp only [GsL1CurPosition3.P, letK]
  obtain ⟨x, t1, e, hx0, hx, hx2, hg⟩ := pick_ok (n := 24) (m := m + 2) h
  rw [e]
  simp only [bind2_some]
  have hx3 : x < 24 := by omega
  have hd : 0 ≤ x / 11 ∧ x / 11 ≤ 2 := by omega
  rw [Int.tdiv_eq_ediv_of_nonneg hx0, wrap_in (x := x / 11) (by omega) (by omega), wrap_in (x := 8 + x / 11) (by omega) (by omega), guardK_pos (by simp; omega)]
  obtain ⟨y, t2, e2, _, hg2⟩ := among_ok (t := t1) (m := m) (l := List.take (Int.toNat (8 + x / 11)) [0, 1, 2, 3, 4, 5, 6, 7, (-1), 8]) hg (by rw [List.length_take]; simp; omega)
  rw [e2]
  exact ⟨y, t2, rfl, hg2⟩
def chk3 : Bool := (List.range 8).all fun a => (List.range 8).all fun b => (List.range 8).all fun c =>
  (joinRes (b : Int) (c : Int)).2 && (joinRes (joinRes (a : Int) (b : Int)).1 (c : Int)).2 && (joinRes (a : Int) (joinRes (b : Int) (c : Int)).1).2 && ((joinRes (joinRes (a : Int) (b : Int)).1 (c : Int)).1 == (joinRes (a : Int) (joinRes (b : Int) (c : Int)).1).1)
theorem chk3_yes : chk3 = true := by kernel_rfl
def chk1 : Bool := (List.range 8).all fun x =>
  (undoRes (x : Int)).2 && (seenRes (x : Int)).2 && (joinRes (x : Int) (undoRes (x : Int)).1 == (0, true)) && (joinRes (undoRes (x : Int)).1 (x : Int) == (0, true)) && (seenRes (seenRes (x : Int)).1 == ((x : Int), true))
theorem chk1_yes : chk1 = true := by kernel_rfl
theorem join_no {a b : Int} (h : (inB a 0 7 && inB b 0 7) = false) : joinRes a b = (0, false) := by
  have e := (join_eq a b).2
  have f : GiJoinPositions.P a b = some (0, false) := by
    simp only [GiJoinPositions.P, isPos_eq, Option.bind_some, letK, joinK, appK, iteK_if]
    cases ha : inB a 0 7 with
    | false => rfl
    | true => rw [ha] at h; cases hb : inB b 0 7 with
      | false => rfl
      | true => rw [hb] at h; simp at h
  rw [f] at e; exact (Option.some.inj e).symm
theorem nat_of {a : Int} (h : inB a 0 7 = true) : ∃ k : Nat, k < 8 ∧ a = (k : Int) := by have := inB_of h; exact ⟨a.toNat, by omega, by omega⟩
theorem assoc {a b : Int} (ha : inB a 0 7 = true) (hb : inB b 0 7 = true) {c : Nat} (hc : c < 8) : (joinRes b c).2 = true ∧ (joinRes (joinRes a b).1 c).2 = true ∧ (joinRes a (joinRes b c).1).2 = true ∧ (joinRes (joinRes a b).1 c).1 = (joinRes a (joinRes b c).1).1 := by
  obtain ⟨i, hi, rfl⟩ := nat_of ha
  obtain ⟨j, hj, rfl⟩ := nat_of hb
  have h := chk3_yes
  unfold chk3 at h
  have := List.all_eq_true.1 (List.all_eq_true.1 (List.all_eq_true.1 h i (List.mem_range.2 hi)) j (List.mem_range.2 hj)) c (List.mem_range.2 hc)
  simp only [Bool.and_eq_true, beq_iff_eq] at this
  exact ⟨this.1.1.1, this.1.1.2, this.1.2, this.2⟩
theorem back {x : Int} (hx : inB x 0 7 = true) : (undoRes x).2 = true ∧ (seenRes x).2 = true ∧ joinRes x (undoRes x).1 = (0, true) ∧ joinRes (undoRes x).1 x = (0, true) ∧ seenRes (seenRes x).1 = (x, true) := by
  obtain ⟨i, hi, rfl⟩ := nat_of hx
  have h := chk1_yes
  unfold chk1 at h
  have := List.all_eq_true.1 h i (List.mem_range.2 hi)
  simp only [Bool.and_eq_true, beq_iff_eq] at this
  exact ⟨this.1.1.1.1, this.1.1.1.2, this.1.1.2, this.1.2, this.2⟩
theorem undo_no {x : Int} (h : inB x 0 7 = false) : undoRes x = (0, false) ∧ seenRes x = (0, false) := by
  have e := (undo_eq x).2
  have e2 := (seen_eq x).1
  have f : GiUndoPosition.P x = some (0, false) := by simp [GiUndoPosition.P, isPos_eq, h, letK, iteK_if]
  have f2 : GsSeenFromBack.P x = some (0, false) := by simp [GsSeenFromBack.P, l3Pos_eq, h, letK, iteK_if]
  rw [f] at e; rw [f2] at e2
  exact ⟨(Option.some.inj e).symm, (Option.some.inj e2).symm⟩
theorem j1_yes (x : Int) : GlFnTurned.j1 x () = some true := by
  obtain ⟨⟨p, q⟩, hr⟩ : ∃ y, y = nameRes x := ⟨_, rfl⟩
  simp [GlFnTurned.j1, (name_eq x).1, (name_eq x).2, ← hr, bind2, letK, joinK, appK, iteK_if]
theorem j0_yes {tapes : List Int → GoC.Tape} (h : GoC.Tells tapes) (code : List Int) : GlFnTurned.j0 code tapes () = some true := by
  obtain ⟨x, t1, e, hg⟩ := pos_ok (t := tapes code) (m := 0) (good_of h code (by omega))
  have hd : GsDrawUndoPosition.P tapes code = some x := by simp only [GsDrawUndoPosition.P, letK, e, bind2_some]
  simp only [GlFnTurned.j0, hd, Option.bind_some, letK, joinK, appK, iteK_if]
  cases hx : inB x 0 7 with
  | false =>
    obtain ⟨h1, h2⟩ := undo_no hx
    simp [(undo_eq x).1, (undo_eq x).2, (seen_eq x).1, (seen_eq x).2, h1, h2, bind2, j1_yes]
  | true =>
    obtain ⟨b1, b2, b3, b4, b5⟩ := back hx
    obtain ⟨⟨u1, u2⟩, hu⟩ : ∃ y, y = undoRes x := ⟨_, rfl⟩
    obtain ⟨⟨s1, s2⟩, hs⟩ : ∃ y, y = seenRes x := ⟨_, rfl⟩
    rw [← hu] at b1 b3 b4
    rw [← hs] at b2 b5
    dsimp only at b1 b2 b3 b4 b5
    subst b1
    subst b2
    simp [(undo_eq x).1, (undo_eq x).2, (seen_eq x).1, (seen_eq x).2, ← hu, ← hs, bind2, (join_eq x u1).2, (join_eq u1 x).2, b3, b4, (seen_eq s1).2, b5, j1_yes]
theorem law_turned {tapes : List Int → GoC.Tape} (h : GoC.Tells tapes) (code : List Int) : GlFnTurned.P tapes code = some true := by
  obtain ⟨a, t1, e1, hg⟩ := pos_ok (t := tapes code) (m := 4) (good_of h code (by omega))
  obtain ⟨b, t2, e2, hg2⟩ := pos_ok (t := t1) (m := 0) hg
  have hd : GsDrawJoinPositions.P tapes code = some (a, b) := by simp only [GsDrawJoinPositions.P, letK, e1, e2, bind2_some]
  simp only [GlFnTurned.P, GlRBig.P, hd, Option.bind_some, bind2_some, letK, joinK, appK, iteK_if]
  by_cases hbig : (65536 : Int) < (code.length : Int)
  · simp [hbig]
  · have hb0 : decide ((65536 : Int) < (code.length : Int)) = false := decide_eq_false hbig
    simp only [hb0, Bool.false_eq_true, if_false]
    cases hab : (inB a 0 7 && inB b 0 7) with
    | false =>
      have := join_no hab
      simp [(join_eq a b).1, (join_eq a b).2, this, bind2, j0_yes h]
    | true =>
      simp only [Bool.and_eq_true] at hab
      obtain ⟨⟨p, q⟩, hp⟩ : ∃ y, y = joinRes a b := ⟨_, rfl⟩
      simp only [(join_eq a b).1, (join_eq a b).2, ← hp, bind2_some]
      simp only [bne_self_eq_false, Bool.false_eq_true, if_false]
      cases q with
      | false => simp [j0_yes h]
      | true =>
        simp only [if_true]
        refine cnt_is true (fun _ _ => True) ?_ (fun s _ => by unfold GlFnTurned.e0; exact j0_yes h code) () trivial
        intro k s nx hk _ hn
        have has := assoc hab.1 hab.2 hk
        rw [← hp] at has
        dsimp only at has
        obtain ⟨⟨x1, x2⟩, hx⟩ : ∃ y, y = joinRes b k := ⟨_, rfl⟩
        rw [← hx] at has
        dsimp only at has
        obtain ⟨⟨y1, y2⟩, hy⟩ : ∃ y, y = joinRes p k := ⟨_, rfl⟩
        obtain ⟨⟨z1, z2⟩, hz⟩ : ∃ y, y = joinRes a x1 := ⟨_, rfl⟩
        rw [← hy, ← hz] at has
        dsimp only at has
        obtain ⟨rfl, rfl, rfl, rfl⟩ := has
        have hn' := hn () trivial
        simp [GlFnTurned.l0, (join_eq b k).2, (join_eq p k).2, (join_eq a x1).2, ← hx, ← hy, ← hz, bind2, letK, joinK, appK, iteK_if]
        exact hn'
end Go.Proofs.Ytbpjhmhnicfdfaa.Q3Turned
