/- Texts on which the proofs of several laws stand, one behind the other (11 of 11). No condition of their own. -/
import Derived.Test.YthkaeighfjadlaaU10P10
import Derived.Test.YthkaeighfjadlaaU10P9
import Derived.Test.YthkaeighfjadlaaU10P1
import Derived.Test.YthkaeighfjadlaaU10P4
import Derived.Test.YthkaeighfjadlaaU10P7
/- Chapter 9: mails and routes: the plain functions of the program and of the reference agree, and the laws answer true. (Q9Reach) No condition but those of each theorem. -/
namespace Go.Proofs.Ythkaeighfjadlaa.Q9Reach
set_option linter.unusedVariables false
set_option linter.unusedSimpArgs false
open Go.RowKit
open Go.Proofs.Ythkaeighfjadlaa.GoP Go.Proofs.Ythkaeighfjadlaa.PlainStamp Go.Proofs.Ythkaeighfjadlaa.QBase Go.Proofs.Ythkaeighfjadlaa.QFoldS Go.Proofs.Ythkaeighfjadlaa.Q9Early Go.Proofs.Ythkaeighfjadlaa.Q9Dual Go.Proofs.Ythkaeighfjadlaa.Q9Arr Go.Proofs.Ythkaeighfjadlaa.Q9List Go.Proofs.Ythkaeighfjadlaa.Q9Mail Go.Proofs.Ythkaeighfjadlaa.QGath Go.Proofs.Ythkaeighfjadlaa.QLoop Go.Proofs.Ythkaeighfjadlaa.PMail Go.Proofs.Ythkaeighfjadlaa.PIntA10

def reachL (t : List Int) (b : Int) : List Int := ((List.range 10).filter fun (k : Nat) => decide (at_ t (k : Int) ≤ b)).map fun (k : Nat) => (k : Int)
def reachRes (l : List Mail) (o m b : Int) : List Int × Bool := if askM l o m = true ∧ inB b 0 9999 = true ∧ m ≤ b then (reachL (earlyM l o m) b, true) else ([], false)
theorem reach_impl (l : List Mail) (hl : l.length ≤ 9223372036854775807) (o m b : Int) : GiReachedBy.P l o m b = some (reachRes l o m b) := by
  simp only [GiReachedBy.P, canBegin_eq l hl, isMinute_eq, Option.bind_some, letK, joinK, appK, iteK_if, reachRes]
  cases ha : askM l o m with
  | false => simp
  | true =>
    obtain ⟨hg, ho, hm⟩ := ask_of ha
    cases hp : inB b 0 9999 with
    | false => simp
    | true =>
      by_cases hmb : m ≤ b
      · have h2 : ¬ b < m := by omega
        simp only [Bool.not_true, Bool.false_eq_true, if_false, decide_eq_false h2, earliest_eq hg ho, Option.bind_some, un_eq, hmb, and_self, if_true]
        show cntK _ (List.range 10).length 0 _ _ = _
        rw [gather (l := List.range 10) (p := fun (k : Nat) => decide (at_ (earlyM l o m) (k : Int) ≤ b)) (g := fun (k : Nat) => (k : Int)) (by simp)]
        · rfl
        · intro k nx x s hx hs
          obtain ⟨hk, rfl⟩ := range_at hx
          simp only [GiReachedBy.l0, letK, ten (early_len l o m), idx_at (early_len l o m) (show 0 ≤ (k : Int) ∧ (k : Int) ≤ 9 by omega), Option.bind_some, iteK_if]
          rw [guardK_pos hs]
          by_cases h : at_ (earlyM l o m) (k : Int) ≤ b <;> simp [h, appK]
      · have h2 : b < m := by omega
        simp [hmb, h2]
theorem reach_len (l : List Mail) (o m b : Int) : (reachRes l o m b).1.length ≤ 10 := by
  unfold reachRes
  split
  · simp only [reachL, List.length_map]
    exact Nat.le_trans (List.length_filter_le _ _) (by simp)
  · simp
end Go.Proofs.Ythkaeighfjadlaa.Q9Reach

/- The named law of routes: what it draws, and why it answers true. (QL9FnRoutes) No condition but those of each theorem. -/
namespace Go.Proofs.Ythkaeighfjadlaa.QL9FnRoutes
set_option linter.unusedVariables false
set_option linter.unusedSimpArgs false
open Go.RowKit
open Go.Proofs.Ythkaeighfjadlaa.GoP Go.Proofs.Ythkaeighfjadlaa.PlainStamp Go.Proofs.Ythkaeighfjadlaa.QBase Go.Proofs.Ythkaeighfjadlaa.QVInts Go.Proofs.Ythkaeighfjadlaa.Q9DrawsR Go.Proofs.Ythkaeighfjadlaa.Q9Ends Go.Proofs.Ythkaeighfjadlaa.Q9Draws2 Go.Proofs.Ythkaeighfjadlaa.QDraw Go.Proofs.Ythkaeighfjadlaa.Q9Waits Go.Proofs.Ythkaeighfjadlaa.Q9Best Go.Proofs.Ythkaeighfjadlaa.Q9Reach Go.Proofs.Ythkaeighfjadlaa.Q9At Go.Proofs.Ythkaeighfjadlaa.Q9Late Go.Proofs.Ythkaeighfjadlaa.Q9Early Go.Proofs.Ythkaeighfjadlaa.Q9End Go.Proofs.Ythkaeighfjadlaa.QFoldS Go.Proofs.Ythkaeighfjadlaa.Q9Cand Go.Proofs.Ythkaeighfjadlaa.Q9Dual Go.Proofs.Ythkaeighfjadlaa.Q9Arr Go.Proofs.Ythkaeighfjadlaa.Q9List Go.Proofs.Ythkaeighfjadlaa.Q9Mail Go.Proofs.Ythkaeighfjadlaa.QUp Go.Proofs.Ythkaeighfjadlaa.QAll Go.Proofs.Ythkaeighfjadlaa.QLoop Go.Proofs.Ythkaeighfjadlaa.PMail

theorem j0_yes {tapes : List Int → GoC.Tape} (ht : GoC.Tells tapes) (code : List Int) (fuel : Nat) (hf : 1048577 ≤ fuel) : ∀ z1 z2 z3 z4 z5 z6 z7 z8 z9 z10 z11 z12 z13 z14 z15, GlFnRoutes.q2 code fuel tapes z1 z2 z3 z4 z5 z6 z7 z8 z9 z10 z11 z12 z13 z14 z15 () = some true := by
  intro z1 z2 z3 z4 z5 z6 z7 z8 z9 z10 z11 z12 z13 z14 z15
  obtain ⟨l, o, m, r, e, hl⟩ := drawRoute_ok ht code fuel hf
  have hlb : l.length ≤ 9223372036854775807 := by omega
  have i1 := rt_impl l hlb o m r
  have i2 := rt_spec l hlb o m r
  have i3 := end_impl l hlb o m r
  have i4 := end_spec l hlb o m r
  cases ha : askM l o m with
  | false =>
    have r1 : isRt l o m r = (false, false) := by simp [isRt, ha]
    have r2 : endA l o m r = (0, 0, false) := by simp [endA, ha]
    rw [r1] at i1 i2
    rw [r2] at i3 i4
    simp [GlFnRoutes.q2, GlFnRoutes.q5, GlFnRoutes.q6, GlFnRoutes.q8, GlFnRoutes.j7, e, bind4, i1, i2, i3, i4, bind2, bind3, letK, joinK, appK, iteK_if]
  | true =>
    obtain ⟨hg, ho, hm⟩ := ask_of ha
    cases hE : endF l r o m with
    | none =>
      obtain ⟨b, r1⟩ : ∃ b, isRt l o m r = (false, b) := by
        unfold isRt; rw [hE]; split
        · exact ⟨_, rfl⟩
        · exact ⟨_, rfl⟩
      have r2 : endA l o m r = (0, 0, false) := by simp [endA, ha, hE]
      rw [r1] at i1 i2
      rw [r2] at i3 i4
      simp [GlFnRoutes.q2, GlFnRoutes.q5, GlFnRoutes.q6, GlFnRoutes.q8, GlFnRoutes.j7, e, bind4, i1, i2, i3, i4, bind2, bind3, letK, joinK, appK, iteK_if]
    | some z =>
      obtain ⟨a, t⟩ := z
      obtain ⟨y, b, r1⟩ : ∃ y b, isRt l o m r = (y, b) := ⟨_, _, rfl⟩
      have r2 : endA l o m r = (a, t, true) := by simp [endA, ha, hE]
      rw [r1] at i1 i2
      rw [r2] at i3 i4
      obtain ⟨hA, hle, hs0, hs1⟩ := end_early hg ho hm.1 hE
      have h9 := endF_at hg hE
      have hlow := early_low hg (m := m) ho hm.2 hA
      have i5 := at_impl l hlb o m a
      have a1 : atRes l o m a = (at_ (earlyM l o m) a, true) := by
        unfold atRes
        rw [if_pos ⟨ha, by unfold inB; simp; omega, by omega⟩]
      rw [a1] at i5
      have i6 := wait_impl l hlb o m r
      have i7 := wait_spec l hlb o m r
      have w1 : waitRes l o m r = (t - m - sumT l r, true) := by unfold waitRes; rw [if_pos ha, hE]
      rw [w1] at i6 i7
      have hw : IntKind.i64.wrap (t - m) = t - m := wrap_in (by omega) (by omega)
      have b1 : ¬ t < at_ (earlyM l o m) a := by omega
      have b2 : ¬ t - m - sumT l r < 0 := by omega
      have b3 : ¬ t - m < t - m - sumT l r := by omega
      cases y <;> simp [GlFnRoutes.q2, GlFnRoutes.q5, GlFnRoutes.q6, GlFnRoutes.q8, GlFnRoutes.j7, e, bind4, i1, i2, i3, i4, i5, i6, i7, bind2, bind3, hw, b1, b2, b3, letK, joinK, appK, iteK_if]
theorem law_routes {fuel : Nat} {tapes : List Int → GoC.Tape} (ht : GoC.Tells tapes) (code : List Int) (hf : 1048577 ≤ fuel) : GlFnRoutes.P fuel tapes code = some true := by
  simp only [GlFnRoutes.P, GlVBig.P, Option.bind_some, letK, iteK_if]
  by_cases hb : (65536 : Int) < (code.length : Int)
  · rw [if_pos (by simpa using hb)]
  · rw [if_neg (by simpa using hb)]
    obtain ⟨l, o, m, p, e, hl⟩ := drawBest_ok ht code fuel hf
    have hj := j0_yes ht code fuel hf
    have hlb : l.length ≤ 9223372036854775807 := by omega
    obtain ⟨r, ok, i1, i2, hlen, hok, hend⟩ := best_both (fuel := fuel) l hlb o m p (by omega)
    have i3 := at_impl l hlb o m p
    have i4 := at_spec l hlb o m p
    have i5 := isTime_eq l hlb
    have i6 : GsIsTimetable.P l = some (goodM l) := by simp only [GsIsTimetable.P, l9Good_eq l hlb, Option.bind_some]
    by_cases hc : askM l o m = true ∧ inB p 0 9 = true ∧ at_ (earlyM l o m) p ≠ 10000
    · have a1 : atRes l o m p = (at_ (earlyM l o m) p, true) := by unfold atRes; rw [if_pos hc]
      rw [a1] at i3 i4 hok hend
      dsimp only at hok hend
      subst hok
      have hE := hend rfl
      obtain ⟨hg, ho, hm⟩ := ask_of hc.1
      have hp := inB_of hc.2.1
      have htop := early_top hg (m := m) ho hm.2 hp
      have hlow := early_low hg (m := m) ho hm.2 hp
      have hne := hc.2.2
      have i7 := end_impl l hlb o m r
      have r7 : endA l o m r = (p, at_ (earlyM l o m) p, true) := by simp [endA, hc.1, hE]
      rw [r7] at i7
      obtain ⟨v, hv⟩ : ∃ v, v = at_ (earlyM l o m) p := ⟨_, rfl⟩
      rw [← hv] at i3 i4 i7 htop hlow hne
      have i8 := reach_impl l hlb o m v
      have r8 : reachRes l o m v = (reachL (earlyM l o m) v, true) := by unfold reachRes; rw [if_pos ⟨hc.1, by unfold inB; simp; omega, hlow⟩]
      rw [r8] at i8
      have m8 : p ∈ reachL (earlyM l o m) v := by
        unfold reachL
        refine List.mem_map.2 ⟨p.toNat, List.mem_filter.2 ⟨List.mem_range.2 (by omega), ?_⟩, by omega⟩
        rw [decide_eq_true_eq, show ((p.toNat : Nat) : Int) = p by omega]; omega
      have hw : IntKind.i64.wrap (v - 1) = v - 1 := wrap_in (by omega) (by omega)
      by_cases hlt : m < v
      · have i9 := reach_impl l hlb o m (v - 1)
        have r9 : reachRes l o m (v - 1) = (reachL (earlyM l o m) (v - 1), true) := by unfold reachRes; rw [if_pos ⟨hc.1, by unfold inB; simp; omega, by omega⟩]
        rw [r9] at i9
        have m9 : ¬ p ∈ reachL (earlyM l o m) (v - 1) := by
          unfold reachL
          intro h
          obtain ⟨k, hk, hkp⟩ := List.mem_map.1 h
          have hk2 := (List.mem_filter.1 hk).2
          rw [decide_eq_true_eq, hkp] at hk2
          omega
        simp [GlFnRoutes.q0, GlFnRoutes.q1, GlFnRoutes.q3, GlFnRoutes.q4, e, bind4, i1, i2, i3, i4, i5, i6, i7, i8, i9, bind2, bind3, hw, hlt, vInts_self, vHas_yes m8, vHas_no m9, hj, letK, joinK, appK, iteK_if]
      · simp [GlFnRoutes.q0, GlFnRoutes.q1, GlFnRoutes.q3, GlFnRoutes.q4, e, bind4, i1, i2, i3, i4, i5, i6, i7, i8, bind2, bind3, hlt, vInts_self, vHas_yes m8, hj, letK, joinK, appK, iteK_if]
    · have a1 : atRes l o m p = (0, false) := by unfold atRes; rw [if_neg hc]
      rw [a1] at i3 i4 hok
      dsimp only at hok
      subst hok
      simp [GlFnRoutes.q0, GlFnRoutes.q1, GlFnRoutes.q3, GlFnRoutes.q4, e, bind4, i1, i2, i3, i4, i5, i6, bind2, bind3, vInts_self, hj, letK, joinK, appK, iteK_if]
end Go.Proofs.Ythkaeighfjadlaa.QL9FnRoutes

