/- Texts on which the proofs of several laws stand, one behind the other (12 of 18). No condition of their own. -/
import Derived.Test.YtgbcdmlcmnaimaaX10P11
import Derived.Test.YtgbcdmlcmnaimaaX10P1
import Derived.Test.YtgbcdmlcmnaimaaX10P5
import Derived.Test.YtgbcdmlcmnaimaaX10P6
import Derived.Test.YtgbcdmlcmnaimaaX10P2
import Derived.Test.YtgbcdmlcmnaimaaX10P3
import Derived.Test.YtgbcdmlcmnaimaaX10P4
import Derived.Test.YtgbcdmlcmnaimaaX10P7
import Derived.Test.YtgbcdmlcmnaimaaChecked
import Derived.WalkKit
import Derived.WalkSpells
import Derived.WalkLawsBesides
import Derived.BigQuiet
import Derived.OwnWalk
import Derived.Deep.LoopGhost
import Derived.Deep.QuietTactic
import Derived.IntWalk
import Derived.Lib.QuietBelow
import Derived.Test.YtgbcdmlcmnaimaaX10P9
import Derived.Deep.Slices
import Derived.Deep.Fields
import Derived.ChangeSame
import Derived.Lib.LaidU8
import Derived.Test.YtgbcdmlcmnaimaaX10P8
set_option linter.unusedVariables false
set_option linter.unusedSimpArgs false
namespace Go.Proofs.Ytgbcdmlcmnaimaa.Q10Draws
open Go.RowKit
open Go.Proofs.Ytgbcdmlcmnaimaa.GoP Go.Proofs.Ytgbcdmlcmnaimaa.PlainStamp Go.Proofs.Ytgbcdmlcmnaimaa.QBase Go.Proofs.Ytgbcdmlcmnaimaa.QDraw Go.Proofs.Ytgbcdmlcmnaimaa.QUp Go.Proofs.Ytgbcdmlcmnaimaa.QAll Go.Proofs.Ytgbcdmlcmnaimaa.QLoop Go.Proofs.Ytgbcdmlcmnaimaa.PCover

theorem coverTail_ok {m : Nat} {c : GoC.Tape} (s : Int × Int × Int × Int × Int × Int × Int × Int × Int) (h : good c (m + 4)) : ∃ x t', GsL1CurCover.j0 c s = some (x, t') ∧ good t' m := by
  obtain ⟨x0, x1, x2, x3, x4, x5, x6, x7, x8⟩ := s
  obtain ⟨p, t1, e1, _, _, _, h1⟩ := pick_ok (n := 64) (m := m + 2) h
  simp only [GsL1CurCover.j0, unp9, letK, e1, bind2_some, iteK_if]
  by_cases hp : p = 0
  · obtain ⟨u, t2, e2, _, h2⟩ := among_ok (l := [0, 10000]) (m := m) h1 (by simp)
    exact ⟨_, _, by simp only [hp, beq_self_eq_true, if_true, e2, bind2_some]; rfl, h2⟩
  · have hpb : (p == 0) = false := by simpa using hp
    by_cases hp2 : p = 1
    · obtain ⟨u, t2, e2, _, h2⟩ := among_ok (l := [(-1), 9999, 10000]) (m := m) h1 (by simp)
      exact ⟨_, _, by simp only [hp2, show ((1 : Int) == 0) = false from rfl, Bool.false_eq_true, if_false, beq_self_eq_true, if_true, e2, bind2_some]; rfl, h2⟩
    · have hpb2 : (p == 1) = false := by simpa using hp2
      exact ⟨_, _, by simp only [hpb, hpb2, Bool.false_eq_true, if_false]; rfl, good_less h1 (by omega)⟩
theorem cover10_ok {t : GoC.Tape} {m : Nat} (id : Int) (h : good t (m + 22)) : ∃ x t', GsL1CurCover.P t id = some (x, t') ∧ good t' m := by
  obtain ⟨a1, t1, e1, _, h1⟩ := among_ok (l := [0, 0, 5, 10, 11]) (m := m + 20) h (by simp)
  obtain ⟨a2, t2, e2, _, h2⟩ := among_ok (l := [0, 4, 5, 9, 10, 14]) (m := m + 18) h1 (by simp)
  obtain ⟨a3, t3, e3, _, _, _, h3⟩ := pick_ok (n := 3) (m := m + 16) h2
  obtain ⟨a4, t4, e4, _, h4⟩ := among_ok (l := [1, 20, 21, 50, 100, 101]) (m := m + 14) h3 (by simp)
  obtain ⟨a5, t5, e5, _, h5⟩ := among_ok (l := [3, 4, 5, 5, 10, 12, 25, 60]) (m := m + 12) h4 (by simp)
  obtain ⟨a6, t6, e6, _, _, _, h6⟩ := pick_ok (n := 4) (m := m + 10) h5
  obtain ⟨a7, t7, e7, _, _, _, h7⟩ := pick_ok (n := 4) (m := m + 8) h6
  obtain ⟨a8, t8, e8, _, h8⟩ := among_ok (l := [0, 10, 30, 60, 90, 900]) (m := m + 6) h7 (by simp)
  simp only [GsL1CurCover.P, letK, e1, e2, e3, e4, e5, e6, e7, e8, bind2_some, joinK, appK, iteK_if, unp2]
  by_cases hq : a6 = a7
  · obtain ⟨b, t9, e9, h9⟩ := one_ok (n := 16) (m := m + 4) h8
    simp only [hq, beq_self_eq_true, if_true, e9, bind2_some]
    cases b with
    | true => simp only [Bool.not_true, Bool.false_eq_true, if_false]; exact coverTail_ok _ h9
    | false => simp only [Bool.not_false, if_true]; exact coverTail_ok _ h9
  · have hqb : (a6 == a7) = false := by simpa using hq
    simp only [hqb, Bool.false_eq_true, if_false]; exact coverTail_ok _ (good_less h8 (by omega))
abbrev Re10 := List Cover × GoC.Tape
theorem more10 {fuel : Nat} (hf : 1048577 ≤ fuel) {m : Nat} (l : List Cover) (hl : l.length ≤ 11) {c : GoC.Tape} (h : good c (m + 30)) : ∃ r, loopK GsL1CurCovers.l1 fuel (l, c) GsL1CurCovers.e1 = some r ∧ (r.1.length ≤ 40 ∧ good r.2 m) := by
  refine lp_ex (n := 12) (fun k (s : Re10) => s.1.length = l.length + k ∧ good s.2 (m + 30 - 2 * k)) ?_ ?_ fuel 0 _ (by omega) (by omega) ⟨rfl, h⟩
  · rintro k ⟨o, c⟩ nx hk ⟨h1, h4⟩ hn
    dsimp only at h1 h4
    obtain ⟨x, c1, e, hx0, hx, _, hg⟩ := pick_ok (n := 2) (m := m + 28 - 2 * k) (good_less h4 (by omega))
    simp only [GsL1CurCovers.l1, unp2, e, bind2_some, letK, iteK_if]
    rw [wrap_in (x := 10 + x) (by omega) (by omega)]
    by_cases hc : (o.length : Int) < 10 + x
    · rw [if_pos (by simpa using hc), guardK_pos (by omega)]
      exact hn _ ⟨by simp [h1]; omega, good_less hg (by omega)⟩
    · rw [if_neg (by simpa using hc)]
      exact ⟨_, rfl, by dsimp only; omega, good_less hg (by omega)⟩
  · rintro ⟨o, c⟩ nx ⟨h1, h4⟩
    dsimp only at h1 h4
    obtain ⟨x, c1, e, hx0, hx, _, hg⟩ := pick_ok (n := 2) (m := m) (good_less h4 (by omega))
    simp only [GsL1CurCovers.l1, unp2, e, bind2_some, letK, iteK_if]
    rw [wrap_in (x := 10 + x) (by omega) (by omega), if_neg (by simp; omega)]
    exact ⟨_, rfl, by dsimp only; omega, hg⟩
theorem end10 {fuel : Nat} (hf : 1048577 ≤ fuel) {m : Nat} (l : List Cover) (n : Int) (hl : l.length ≤ 10) {c : GoC.Tape} (h : good c (m + 40)) : ∃ r, GsL1CurCovers.e0 fuel (l, n, c) = some r ∧ (r.1.length ≤ 40 ∧ good r.2 m) := by
  obtain ⟨p, t1, e1, hp0, hp, _, h1⟩ := pick_ok (n := 32) (m := m + 38) h
  simp only [GsL1CurCovers.e0, unp3, e1, bind2_some, letK, iteK_if]
  by_cases hp1 : p = 0
  · obtain ⟨i, t2, e2, _, h2⟩ := among_ok (l := [0, 13, 999, 1000]) (m := m + 36) h1 (by simp)
    obtain ⟨x, t3, e3, h3⟩ := cover10_ok (m := m + 14) i h2
    obtain ⟨a, b, c, d, e, f, g, j, k⟩ := x
    simp only [hp1, beq_self_eq_true, if_true, e2, e3, bind2_some, unCover]
    rw [guardK_pos (by omega)]
    exact ⟨_, rfl, by simp; omega, good_less h3 (by omega)⟩
  · have hpb : (p == 0) = false := by simpa using hp1
    by_cases hp2 : p = 1
    · simp only [hp2, show ((1 : Int) == 0) = false from rfl, Bool.false_eq_true, if_false, beq_self_eq_true, if_true]
      exact more10 hf l (by omega) (good_less h1 (by omega))
    · have hpb2 : (p == 1) = false := by simpa using hp2
      simp only [hpb, hpb2, Bool.false_eq_true, if_false]
      exact ⟨_, rfl, by dsimp only; omega, good_less h1 (by omega)⟩
theorem covers10_ok {t : GoC.Tape} {m : Nat} (fuel : Nat) (hf : 1048577 ≤ fuel) (h : good t (m + 200)) : ∃ l t', GsL1CurCovers.P fuel t = some (l, t') ∧ l.length ≤ 40 ∧ good t' m := by
  obtain ⟨⟨l, t'⟩, h1, h2⟩ : ∃ r : Re10, GsL1CurCovers.P fuel t = some r ∧ (r.1.length ≤ 40 ∧ good r.2 m) := by
    simp only [GsL1CurCovers.P]
    refine lp_ex (n := 5) (fun k (s : List Cover × Int × GoC.Tape) => s.2.1 = 1 + (k : Int) ∧ s.1.length ≤ k ∧ good s.2.2 (m + 200 - 24 * k)) ?_ ?_ fuel 0 _ (by omega) (by omega) ⟨by simp, by simp, h⟩
    · rintro k ⟨l, n, c⟩ nx hk ⟨g1, g2, g3⟩ hn
      dsimp only at g1 g2 g3
      subst g1
      have h0 : 1 + (k : Int) < 6 := by omega
      obtain ⟨b, t2, e2, h2⟩ := one_ok (n := 3) (m := m + 200 - 24 * k - 2) (good_less g3 (by omega))
      simp only [GsL1CurCovers.l0, unp3, letK, decide_eq_true h0, iteK_if, if_true, e2, bind2_some]
      cases b with
      | true =>
        simp only [Bool.not_true, Bool.false_eq_true, if_false]
        rw [wrap_in (by omega) (by omega)]
        exact hn _ ⟨by dsimp only; omega, by dsimp only; omega, good_less h2 (by omega)⟩
      | false =>
        simp only [Bool.not_false, if_true]
        rw [wrap_in (x := 13 * (1 + (k : Int))) (by omega) (by omega)]
        obtain ⟨x, t3, e3, h3⟩ := cover10_ok (m := m + 200 - 24 * k - 24) (13 * (1 + (k : Int))) (good_less h2 (by omega))
        obtain ⟨a, b, c, d, e, f, g, j, q⟩ := x
        simp only [e3, bind2_some, unCover]
        rw [guardK_pos (by omega), wrap_in (by omega) (by omega)]
        exact hn _ ⟨by dsimp only; omega, by simp; omega, good_less h3 (by omega)⟩
    · rintro ⟨l, n, c⟩ nx ⟨g1, g2, g3⟩
      dsimp only at g1 g2 g3
      have h0 : ¬ n < 6 := by omega
      simp only [GsL1CurCovers.l0, unp3, letK, decide_eq_false h0, iteK_if, Bool.false_eq_true, if_false, appK]
      exact end10 hf l n (by omega) (good_less g3 (by omega))
  exact ⟨l, t', h1, h2⟩
end Go.Proofs.Ytgbcdmlcmnaimaa.Q10Draws

namespace Go.Proofs.Ytgbcdmlcmnaimaa.Q8Draws
open Go.RowKit
open Go.Proofs.Ytgbcdmlcmnaimaa.GoP Go.Proofs.Ytgbcdmlcmnaimaa.PlainStamp Go.Proofs.Ytgbcdmlcmnaimaa.QBase Go.Proofs.Ytgbcdmlcmnaimaa.QDraw Go.Proofs.Ytgbcdmlcmnaimaa.QUp Go.Proofs.Ytgbcdmlcmnaimaa.QAll Go.Proofs.Ytgbcdmlcmnaimaa.QLoop Go.Proofs.Ytgbcdmlcmnaimaa.PRate

def smR (x : Rate) : Prop := (-10000 ≤ x.zone ∧ x.zone ≤ 10000) ∧ (-10000 ≤ x.grams ∧ x.grams ≤ 10000) ∧ (-10000 ≤ x.from_ ∧ x.from_ ≤ 10000) ∧ (-10000 ≤ x.until_ ∧ x.until_ ≤ 10000) ∧ (-10000 ≤ x.cents ∧ x.cents ≤ 10000)
theorem rate8_ok {t : GoC.Tape} {m : Nat} (z g f : Int) (hz : -10000 ≤ z ∧ z ≤ 10000) (hg : -10000 ≤ g ∧ g ≤ 10000) (hf : -6000 ≤ f ∧ f ≤ 6000) (h : good t (m + 8)) : ∃ x t', GsL1CurRate.P t z g f = some (x, t') ∧ smR x ∧ (f - 1 ≤ x.until_ ∨ 4000 ≤ x.until_) ∧ good t' m := by
  obtain ⟨a, t1, e1, ha, h1⟩ := among_ok (l := [5, 9, 9, 19]) (m := m + 6) h (by simp)
  obtain ⟨c, t2, e2, hc, h2⟩ := among_ok (l := [3, 5, 5, 10, 12, 25, 9999]) (m := m + 4) h1 (by simp)
  obtain ⟨p, t3, e3, hp0, hp, _, h3⟩ := pick_ok (n := 64) (m := m + 2) h2
  have ha2 : 0 ≤ a ∧ a ≤ 19 := by simp only [List.mem_cons, List.not_mem_nil, or_false] at ha; omega
  have hc2 : 0 ≤ c ∧ c ≤ 9999 := by simp only [List.mem_cons, List.not_mem_nil, or_false] at hc; omega
  simp only [GsL1CurRate.P, letK, e1, e2, e3, bind2_some, iteK_if]
  rw [wrap_in (x := f + a) (by omega) (by omega), wrap_in (x := f - 1) (by omega) (by omega)]
  by_cases hp1 : p = 0
  · obtain ⟨u, t4, e4, hu, h4⟩ := among_ok (l := [f - 1, 4000, 4001]) (m := m) h3 (by simp)
    simp only [List.mem_cons, List.not_mem_nil, or_false] at hu
    refine ⟨⟨z, g, f, u, c⟩, t4, by simp only [hp1, beq_self_eq_true, if_true, e4, bind2_some], ⟨hz, hg, ?_, ?_, ?_⟩, ?_, h4⟩ <;> dsimp only <;> omega
  · have hpb : (p == 0) = false := by simpa using hp1
    by_cases hp2 : p = 1
    · obtain ⟨u, t4, e4, hu, h4⟩ := among_ok (l := [0, 10000]) (m := m) h3 (by simp)
      simp only [List.mem_cons, List.not_mem_nil, or_false] at hu
      refine ⟨⟨z, g, f, f + a, u⟩, t4, by simp only [hp2, show ((1 : Int) == 0) = false from rfl, Bool.false_eq_true, if_false, beq_self_eq_true, if_true, e4, bind2_some], ⟨hz, hg, ?_, ?_, ?_⟩, ?_, h4⟩ <;> dsimp only <;> omega
    · have hpb2 : (p == 1) = false := by simpa using hp2
      refine ⟨⟨z, g, f, f + a, c⟩, t3, by simp only [hpb, hpb2, Bool.false_eq_true, if_false], ⟨hz, hg, ?_, ?_, ?_⟩, ?_, good_less h3 (by omega)⟩ <;> dsimp only <;> omega
/-- one round: at most two rates more -/
theorem round8_ok {R : Type} {k0 k1 : Nat} (hk0 : k0 < 3) (hk1 : k1 < 3) {l : List Rate} {t : GoC.Tape} {m : Nat} (hl : l.length ≤ 1000) (hs : ∀ x ∈ l, smR x) (h : good t (m + 24)) (nx bk : List Rate × GoC.Tape → Option (List Rate × GoC.Tape)) :
    ∃ l' t', GsL1CurRates.l1 k0 k1 (l, t) nx bk = nx (l', t') ∧ l'.length ≤ l.length + 2 ∧ (∀ x ∈ l', smR x) ∧ good t' m := by
  obtain ⟨b, t1, e1, h1⟩ := one_ok (n := 2) (m := m + 22) h
  simp only [GsL1CurRates.l1, unp2, e1, bind2_some, iteK_if]
  cases b with
  | false => exact ⟨l, t1, by simp [appK], by omega, hs, good_less h1 (by omega)⟩
  | true =>
    obtain ⟨gr, hgr, hgi⟩ := at_lt (l := [(20 : Int), 50, 100]) (k := k1) hk1
    have hgm := List.mem_of_getElem? hgr
    simp only [List.mem_cons, List.not_mem_nil, or_false] at hgm
    obtain ⟨f, t2, e2, hf, h2⟩ := among_ok (l := [0, 0, 5]) (m := m + 20) h1 (by simp)
    simp only [List.mem_cons, List.not_mem_nil, or_false] at hf
    obtain ⟨x, t3, e3, hx, hxu, h3⟩ := rate8_ok (m := m + 12) (k0 : Int) gr f (by omega) (by omega) (by omega) h2
    obtain ⟨b2, t4, e4, h4⟩ := one_ok (n := 2) (m := m + 10) h3
    have hxe : Rate.mk x.zone x.grams x.from_ x.until_ x.cents = x := rfl
    have hlen : IntKind.i64.wrap (((l ++ [x]).length : Int) - 1) = (l.length : Int) := by rw [List.length_append, List.length_singleton, wrap_in (by omega) (by omega)]; omega
    have hidx : idx (l ++ [x]) (l.length : Int) = some x := by rw [idx_nat]; simp
    have hs2 : ∀ y ∈ l ++ [x], smR y := by
      intro y hy
      rcases List.mem_append.1 hy with hy | hy
      · exact hs y hy
      · obtain rfl := List.mem_singleton.1 hy; exact hx
    simp only [if_true, letK, hgi, Option.bind_some, e2, e3, e4, bind2_some, unRate, hxe, GsL1CurRates.q0, GsL1CurRates.q1, unp2]
    rw [guardK_pos (by omega), hlen, hidx]
    simp only [Option.bind_some, joinK, appK, iteK_if]
    have stop : ∃ l' t', nx (l ++ [x], t4) = nx (l', t') ∧ l'.length ≤ l.length + 2 ∧ (∀ x ∈ l', smR x) ∧ good t' m := ⟨l ++ [x], t4, rfl, by simp, hs2, good_less h4 (by omega)⟩
    cases b2 with
    | false => simpa using stop
    | true =>
      by_cases hu : x.until_ < 30
      · obtain ⟨a, t5, e5, ha, h5⟩ := among_ok (l := [1, 1, 3]) (m := m + 8) h4 (by simp)
        simp only [List.mem_cons, List.not_mem_nil, or_false] at ha
        have hub := hx.2.2.2.1
        have hgb := hx.2.1
        obtain ⟨y, t6, e6, hy, _, h6⟩ := rate8_ok (m := m) (k0 : Int) x.grams (x.until_ + a) (by omega) hgb (by omega) h5
        have hye : Rate.mk y.zone y.grams y.from_ y.until_ y.cents = y := rfl
        have hw : IntKind.i64.wrap (x.until_ + a) = x.until_ + a := wrap_in (by omega) (by omega)
        simp only [decide_eq_true hu, if_true, e5, bind2_some, hw, e6, hye]
        rw [guardK_pos (by rw [List.length_append]; simp; omega)]
        refine ⟨(l ++ [x]) ++ [y], t6, rfl, by simp, ?_, h6⟩
        intro v hv
        rcases List.mem_append.1 hv with hv | hv
        · exact hs2 v hv
        · obtain rfl := List.mem_singleton.1 hv; exact hy
      · simp only [decide_eq_false hu, Bool.false_eq_true, if_false, if_true]
        exact stop
theorem more8_ok {t : GoC.Tape} {m : Nat} (fuel : Nat) (hf : 1048577 ≤ fuel) (l : List Rate) (hl : l.length ≤ 18) (hs : ∀ x ∈ l, smR x) (h : good t (m + 40)) : ∃ r : List Rate × GoC.Tape, loopK GsL1CurRates.l2 fuel (l, t) GsL1CurRates.e2 = some r ∧ (r.1.length ≤ 40 ∧ (∀ x ∈ r.1, smR x) ∧ good r.2 m) := by
  refine lp_ex (n := 18) (fun k (s : List Rate × GoC.Tape) => s.1.length = l.length + k ∧ (∀ x ∈ s.1, smR x) ∧ good s.2 (m + 40 - 2 * k)) ?_ ?_ fuel 0 _ (by omega) (by omega) ⟨rfl, hs, h⟩
  · rintro k ⟨o, c⟩ nx hk ⟨h1, h3, h4⟩ hn
    dsimp only at h1 h3 h4
    obtain ⟨x, c1, e, hx0, hx, _, hg⟩ := pick_ok (n := 2) (m := m + 38 - 2 * k) (good_less h4 (by omega))
    simp only [GsL1CurRates.l2, unp2, e, bind2_some, letK, iteK_if]
    rw [wrap_in (x := 16 + x) (by omega) (by omega)]
    by_cases hc : (o.length : Int) < 16 + x
    · rw [if_pos (by simpa using hc), wrap_in (x := 10 + (o.length : Int)) (by omega) (by omega), guardK_pos (by omega)]
      refine hn _ ⟨by simp [h1]; omega, ?_, good_less hg (by omega)⟩
      intro y hy
      rcases List.mem_append.1 hy with hy | hy
      · exact h3 y hy
      · obtain rfl := List.mem_singleton.1 hy
        refine ⟨?_, ?_, ?_, ?_, ?_⟩ <;> dsimp only <;> omega
    · rw [if_neg (by simpa using hc)]
      exact ⟨_, rfl, by dsimp only; omega, h3, good_less hg (by omega)⟩
  · rintro ⟨o, c⟩ nx ⟨h1, h3, h4⟩
    dsimp only at h1 h3 h4
    obtain ⟨x, c1, e, hx0, hx, _, hg⟩ := pick_ok (n := 2) (m := m) (good_less h4 (by omega))
    simp only [GsL1CurRates.l2, unp2, e, bind2_some, letK, iteK_if]
    rw [wrap_in (x := 16 + x) (by omega) (by omega), if_neg (by simp; omega)]
    exact ⟨_, rfl, by dsimp only; omega, h3, hg⟩
theorem end8_ok {t : GoC.Tape} {m : Nat} (fuel : Nat) (hf : 1048577 ≤ fuel) (l : List Rate) (hl : l.length ≤ 18) (hs : ∀ x ∈ l, smR x) (h : good t (m + 50)) : ∃ r : List Rate × GoC.Tape, GsL1CurRates.e0 fuel (l, t) = some r ∧ (r.1.length ≤ 40 ∧ (∀ x ∈ r.1, smR x) ∧ good r.2 m) := by
  obtain ⟨p, t1, e1, hp0, hp, _, h1⟩ := pick_ok (n := 32) (m := m + 48) h
  simp only [GsL1CurRates.e0, unp2, e1, bind2_some, letK, iteK_if]
  by_cases hp1 : p = 0
  · obtain ⟨z, t2, e2, hz, h2⟩ := among_ok (l := [(-1), 2, 9, 10]) (m := m + 46) h1 (by simp)
    obtain ⟨g, t3, e3, hg, h3⟩ := among_ok (l := [0, 100, 2000, 2001]) (m := m + 44) h2 (by simp)
    simp only [List.mem_cons, List.not_mem_nil, or_false] at hz hg
    obtain ⟨x, t4, e4, hx, _, h4⟩ := rate8_ok (m := m + 36) z g 3 (by omega) (by omega) (by omega) h3
    have hxe : Rate.mk x.zone x.grams x.from_ x.until_ x.cents = x := rfl
    simp only [hp1, beq_self_eq_true, if_true, e2, e3, e4, bind2_some, unRate, hxe]
    rw [guardK_pos (by omega)]
    refine ⟨_, rfl, by simp; omega, ?_, good_less h4 (by omega)⟩
    intro y hy
    rcases List.mem_append.1 hy with hy | hy
    · exact hs y hy
    · obtain rfl := List.mem_singleton.1 hy; exact hx
  · have hpb : (p == 0) = false := by simpa using hp1
    by_cases hp2 : p = 1
    · simp only [hp2, show ((1 : Int) == 0) = false from rfl, Bool.false_eq_true, if_false, beq_self_eq_true, if_true]
      exact more8_ok fuel hf l hl hs (good_less h1 (by omega))
    · have hpb2 : (p == 1) = false := by simpa using hp2
      simp only [hpb, hpb2, Bool.false_eq_true, if_false]
      exact ⟨_, rfl, by dsimp only; omega, hs, good_less h1 (by omega)⟩
theorem rates8_ok {t : GoC.Tape} {m : Nat} (fuel : Nat) (hf : 1048577 ≤ fuel) (h : good t (m + 300)) : ∃ l t', GsL1CurRates.P fuel t = some (l, t') ∧ l.length ≤ 40 ∧ (∀ x ∈ l, smR x) ∧ good t' m := by
  obtain ⟨⟨l, t'⟩, h1, h2⟩ : ∃ r : List Rate × GoC.Tape, GsL1CurRates.P fuel t = some r ∧ (r.1.length ≤ 40 ∧ (∀ x ∈ r.1, smR x) ∧ good r.2 m) := by
    simp only [GsL1CurRates.P]
    refine cnt_ex (n := 3) (fun k (s : List Rate × GoC.Tape) => s.1.length ≤ 6 * k ∧ (∀ x ∈ s.1, smR x) ∧ good s.2 (m + 300 - 72 * k)) ?_ ?_ 3 0 _ (by omega) ⟨by simp, by simp, h⟩
    · rintro k ⟨l, c⟩ nx hk ⟨g1, g2, g3⟩ hn
      dsimp only at g1 g2 g3
      simp only [GsL1CurRates.l0, unp2]
      refine cnt_ex (n := 3) (fun j (s : List Rate × GoC.Tape) => s.1.length ≤ 6 * k + 2 * j ∧ (∀ x ∈ s.1, smR x) ∧ good s.2 (m + 300 - 72 * k - 24 * j)) ?_ ?_ 3 0 _ (by omega) ⟨by simpa using g1, g2, g3⟩
      · rintro j ⟨l2, c2⟩ nx2 hj ⟨k1, k2, k3⟩ hn2
        dsimp only at k1 k2 k3
        obtain ⟨l3, c3, e, q1, q2, q3⟩ := round8_ok (R := Unit) hk hj (m := m + 300 - 72 * k - 24 * j - 24) (by omega) k2 (good_less k3 (by omega)) nx2 (GsL1CurRates.e1 nx)
        rw [e]
        exact hn2 _ ⟨by dsimp only; omega, q2, good_less q3 (by omega)⟩
      · rintro ⟨l2, c2⟩ ⟨k1, k2, k3⟩
        dsimp only at k1 k2 k3
        simp only [GsL1CurRates.e1, unp2, appK]
        exact hn _ ⟨by dsimp only; omega, k2, good_less k3 (by omega)⟩
    · rintro ⟨l, c⟩ ⟨g1, g2, g3⟩
      dsimp only at g1 g2 g3
      exact end8_ok fuel hf l (by omega) g2 (good_less g3 (by omega))
  exact ⟨l, t', h1, h2⟩
end Go.Proofs.Ytgbcdmlcmnaimaa.Q8Draws

namespace Go.Proofs.Ytgbcdmlcmnaimaa.Q9Draws
open Go.RowKit
open Go.Proofs.Ytgbcdmlcmnaimaa.GoP Go.Proofs.Ytgbcdmlcmnaimaa.PlainStamp Go.Proofs.Ytgbcdmlcmnaimaa.QBase Go.Proofs.Ytgbcdmlcmnaimaa.QDraw Go.Proofs.Ytgbcdmlcmnaimaa.QUp Go.Proofs.Ytgbcdmlcmnaimaa.QAll Go.Proofs.Ytgbcdmlcmnaimaa.QLoop Go.Proofs.Ytgbcdmlcmnaimaa.PMail

theorem mail9_ok {t : GoC.Tape} {m : Nat} (h : good t (m + 12)) : ∃ x t', GsL1CurMail.P t = some (x, t') ∧ good t' m := by
  obtain ⟨a, t1, e1, ha, h1⟩ := among_ok (l := [0, 5, 10, 10, 20, 30, 45, 60]) (m := m + 10) h (by simp)
  obtain ⟨b, t2, e2, _, _, _, h2⟩ := pick_ok (n := 4) (m := m + 8) h1
  obtain ⟨c, t3, e3, _, _, _, h3⟩ := pick_ok (n := 4) (m := m + 6) h2
  obtain ⟨d, t4, e4, hd, h4⟩ := among_ok (l := [1, 5, 10, 10, 25]) (m := m + 4) h3 (by simp)
  obtain ⟨p, t5, e5, _, _, _, h5⟩ := pick_ok (n := 48) (m := m + 2) h4
  simp only [GsL1CurMail.P, letK, e1, e2, e3, e4, e5, bind2_some, iteK_if]
  by_cases hp : p = 0
  · obtain ⟨u, t6, e6, _, h6⟩ := among_ok (l := [(-1), 9, 10]) (m := m) h5 (by simp)
    exact ⟨_, _, by simp only [hp, beq_self_eq_true, if_true, e6, bind2_some]; rfl, h6⟩
  · have hpb : (p == 0) = false := by simpa using hp
    by_cases hp2 : p = 1
    · obtain ⟨u, t6, e6, _, h6⟩ := among_ok (l := [a, 9999, 10000]) (m := m) h5 (by simp)
      exact ⟨_, _, by simp only [hp2, show ((1 : Int) == 0) = false from rfl, Bool.false_eq_true, if_false, beq_self_eq_true, if_true, e6, bind2_some]; rfl, h6⟩
    · have hpb2 : (p == 1) = false := by simpa using hp2
      exact ⟨_, _, by simp only [hpb, hpb2, Bool.false_eq_true, if_false]; rfl, good_less h5 (by omega)⟩
end Go.Proofs.Ytgbcdmlcmnaimaa.Q9Draws

namespace Go.Proofs.Ytgbcdmlcmnaimaa.QCmp
open Go.RowKit
open Go.Proofs.Ytgbcdmlcmnaimaa.GoP Go.Proofs.Ytgbcdmlcmnaimaa.PlainStamp Go.Proofs.Ytgbcdmlcmnaimaa.QBase Go.Proofs.Ytgbcdmlcmnaimaa.QLoop

def cmpI (x y : Int) : Int := if x < y then -1 else if y < x then 1 else 0
theorem cmp_eq (x y : Int) : GxCmpCompareInt.P x y = some (cmpI x y) := by
  simp only [GxCmpCompareInt.P, GxCmpIsNaNInt.P, Option.bind_some, letK, iteK_if, cmpI]
  by_cases h1 : x < y
  · simp [h1]
  · by_cases h2 : y < x <;> simp [h1, h2]
theorem or_eq (a b c d : Int) : GxCmpOrInt.P [a, b, c, d] = some (if a != 0 then a else if b != 0 then b else if c != 0 then c else d) := by
  have st : ∀ m k fin, cntK (GxCmpOrInt.l0 [a, b, c, d]) (m + 1) k () fin = GxCmpOrInt.l0 [a, b, c, d] k () (fun s' => cntK (GxCmpOrInt.l0 [a, b, c, d]) m (k + 1) s' fin) fin := fun _ _ _ => rfl
  show cntK (GxCmpOrInt.l0 [a, b, c, d]) (3 + 1) 0 () (GxCmpOrInt.e0) = _
  rw [st]
  simp only [GxCmpOrInt.l0, show idx [a, b, c, d] ((0 : Nat) : Int) = some a from rfl, Option.bind_some, letK, appK, iteK_if]
  by_cases ha : (a != 0) = true
  · rw [if_pos ha, if_pos ha]
  · rw [if_neg ha, if_neg ha]
    show cntK (GxCmpOrInt.l0 [a, b, c, d]) (2 + 1) 1 () (GxCmpOrInt.e0) = _
    rw [st]
    simp only [GxCmpOrInt.l0, show idx [a, b, c, d] ((1 : Nat) : Int) = some b from rfl, Option.bind_some, letK, appK, iteK_if]
    by_cases hb : (b != 0) = true
    · rw [if_pos hb, if_pos hb]
    · rw [if_neg hb, if_neg hb]
      show cntK (GxCmpOrInt.l0 [a, b, c, d]) (1 + 1) 2 () (GxCmpOrInt.e0) = _
      rw [st]
      simp only [GxCmpOrInt.l0, show idx [a, b, c, d] ((2 : Nat) : Int) = some c from rfl, Option.bind_some, letK, appK, iteK_if]
      by_cases hc : (c != 0) = true
      · rw [if_pos hc, if_pos hc]
      · rw [if_neg hc, if_neg hc]
        show cntK (GxCmpOrInt.l0 [a, b, c, d]) (0 + 1) 3 () (GxCmpOrInt.e0) = _
        rw [st]
        simp only [GxCmpOrInt.l0, show idx [a, b, c, d] ((3 : Nat) : Int) = some d from rfl, Option.bind_some, letK, appK, iteK_if]
        by_cases hd : (d != 0) = true
        · rw [if_pos hd]
        · rw [if_neg hd]
          have : d = 0 := by simpa using hd
          rw [this]; rfl
end Go.Proofs.Ytgbcdmlcmnaimaa.QCmp

namespace Go.Proofs.Ytgbcdmlcmnaimaa.Q9Mail
open Go.RowKit
open Go.Proofs.Ytgbcdmlcmnaimaa.GoP Go.Proofs.Ytgbcdmlcmnaimaa.PlainStamp Go.Proofs.Ytgbcdmlcmnaimaa.QBase Go.Proofs.Ytgbcdmlcmnaimaa.QCmp Go.Proofs.Ytgbcdmlcmnaimaa.QLoop Go.Proofs.Ytgbcdmlcmnaimaa.PMail

theorem isMinute_eq (n : Int) : GiIsMinute.P n = some (inB n 0 9999) := by simp only [GiIsMinute.P, within_eq, Option.bind_some]
theorem isOffice_eq (n : Int) : GiIsPostOffice.P n = some (inB n 0 9) := by simp only [GiIsPostOffice.P, within_eq, Option.bind_some]
theorem l9Office_eq (n : Int) : GsL9Office.P n = some (inB n 0 9) := by simp only [GsL9Office.P, l1In_eq, Option.bind_some]
theorem l9Minute_eq (n : Int) : GsL9Minute.P n = some (inB n 0 9999) := by simp only [GsL9Minute.P, l1In_eq, Option.bind_some]
def okM (x : Mail) : Bool := inB x.from_ 0 9 && inB x.to_ 0 9 && (x.from_ != x.to_) && inB x.leave 0 9999 && inB x.arrive 0 9999 && decide (x.leave < x.arrive)
theorem isMail_eq (x : Mail) : GiIsMail.P x = some (okM x) := by
  obtain ⟨a, b, c, d⟩ := x
  simp only [GiIsMail.P, unMail, isMinute_eq, isOffice_eq, Option.bind_some, letK, joinK, appK, iteK_if, okM]
  cases inB b 0 9 <;> cases inB c 0 9 <;> cases (b != c) <;> cases inB a 0 9999 <;> cases inB d 0 9999 <;> simp
theorem l9One_eq (x : Mail) : GsL9One.P x = some (okM x) := by
  obtain ⟨a, b, c, d⟩ := x
  have hx : (inB d 0 9999 && inB a 0 (d - 1)) = (inB a 0 9999 && inB d 0 9999 && decide (a < d)) := by unfold inB; rw [Bool.eq_iff_iff]; simp; omega
  have hy : okM ⟨a, b, c, d⟩ = (inB b 0 9 && inB c 0 9 && (b != c) && (inB d 0 9999 && inB a 0 (d - 1))) := by
    rw [hx]; unfold okM
    cases inB b 0 9 <;> cases inB c 0 9 <;> cases (b != c) <;> simp
  rw [hy]
  simp only [GsL9One.P, unMail, l9Office_eq, l9Minute_eq, l1In_eq, Option.bind_some, letK, joinK, appK, iteK_if]
  cases hd : inB d 0 9999 with
  | false => cases inB b 0 9 <;> cases inB c 0 9 <;> cases (b != c) <;> simp
  | true =>
    have h := inB_of hd
    rw [wrap_in (by omega) (by omega)]
    cases inB b 0 9 <;> cases inB c 0 9 <;> cases (b != c) <;> simp
theorem okM_of {x : Mail} (h : okM x = true) : (0 ≤ x.from_ ∧ x.from_ ≤ 9) ∧ (0 ≤ x.to_ ∧ x.to_ ≤ 9) ∧ x.from_ ≠ x.to_ ∧ (0 ≤ x.leave ∧ x.leave < x.arrive ∧ x.arrive ≤ 9999) := by
  unfold okM at h
  simp only [Bool.and_eq_true, decide_eq_true_eq, bne_iff_ne] at h
  have h1 := inB_of h.1.1.1.1.1
  have h2 := inB_of h.1.1.1.1.2
  have h3 := inB_of h.1.1.2
  have h4 := inB_of h.1.2
  exact ⟨h1, h2, h.1.1.1.2, h3.1, h.2, h4.2⟩
def codeM (x : Mail) : Int := ((x.leave * 10 + x.from_) * 10 + x.to_) * 10000 + x.arrive
def ltM (a b : Mail) : Bool := decide (codeM a < codeM b)
theorem code_eq {x : Mail} (h : okM x = true) : GsL9Code.P x = some (codeM x) := by
  obtain ⟨h1, h2, _, h3⟩ := okM_of h
  obtain ⟨a, b, c, d⟩ := x
  dsimp only at h1 h2 h3
  simp only [GsL9Code.P, unMail, letK, codeM]
  rw [wrap_in (x := a * 10) (by omega) (by omega), wrap_in (x := a * 10 + b) (by omega) (by omega), wrap_in (x := (a * 10 + b) * 10) (by omega) (by omega), wrap_in (x := (a * 10 + b) * 10 + c) (by omega) (by omega), wrap_in (x := ((a * 10 + b) * 10 + c) * 10000) (by omega) (by omega), wrap_in (by omega) (by omega)]
theorem compare_eq {a b : Mail} (ha : okM a = true) (hb : okM b = true) : ∃ c, GiCompareMails.P a b = some c ∧ (0 ≤ c ↔ codeM b ≤ codeM a) := by
  have h1 := okM_of ha
  have h2 := okM_of hb
  obtain ⟨a, x, c, y⟩ := a
  obtain ⟨a', x', c', y'⟩ := b
  dsimp only at h1 h2
  simp only [GiCompareMails.P, unMail, cmp_eq, Option.bind_some, letK, or_eq]
  refine ⟨_, rfl, ?_⟩
  unfold cmpI codeM
  dsimp only
  by_cases p1 : a < a'
  · simp [p1]; omega
  · by_cases p2 : a' < a
    · simp [p1, p2]; omega
    · obtain rfl : a = a' := by omega
      by_cases p3 : x < x'
      · simp [p3]; omega
      · by_cases p4 : x' < x
        · simp [p3, p4]; omega
        · obtain rfl : x = x' := by omega
          by_cases p5 : c < c'
          · simp [p5]; omega
          · by_cases p6 : c' < c
            · simp [p5, p6]; omega
            · obtain rfl : c = c' := by omega
              by_cases p7 : y < y'
              · simp [p7]
              · by_cases p8 : y' < y
                · simp [p7, p8]; omega
                · simp [p7, p8]; omega
end Go.Proofs.Ytgbcdmlcmnaimaa.Q9Mail

namespace Go.Proofs.Ytgbcdmlcmnaimaa.Q9Draws2
open Go.RowKit
open Go.Proofs.Ytgbcdmlcmnaimaa.GoP Go.Proofs.Ytgbcdmlcmnaimaa.PlainStamp Go.Proofs.Ytgbcdmlcmnaimaa.QBase Go.Proofs.Ytgbcdmlcmnaimaa.Q9Draws Go.Proofs.Ytgbcdmlcmnaimaa.Q9Mail Go.Proofs.Ytgbcdmlcmnaimaa.QDraw Go.Proofs.Ytgbcdmlcmnaimaa.QUp Go.Proofs.Ytgbcdmlcmnaimaa.QAll Go.Proofs.Ytgbcdmlcmnaimaa.QLoop Go.Proofs.Ytgbcdmlcmnaimaa.PMail

theorem code_some (x : Mail) : ∃ c, GsL9Code.P x = some c := by obtain ⟨a, b, c, d⟩ := x; exact ⟨_, rfl⟩
abbrev St9 := List Mail × Int × GoC.Tape
abbrev Re9 := List Mail × GoC.Tape
/-- behind the search for the place: the mail is laid in, or not -/
theorem place9 {nx : St9 → Option Re9} {Q : Re9 → Prop} {l : List Mail} {n : Int} {x : Mail} {c : GoC.Tape} (hl : l.length ≤ 1000) (hn0 : 0 < n ∧ n ≤ 1000)
    (hn : ∀ l', l'.length ≤ l.length + 1 → ∃ r, nx (l', n - 1, c) = some r ∧ Q r) {k : Int} (hk : 0 ≤ k ∧ k ≤ (l.length : Int)) :
    ∃ r, GsL1CurTimetable.e1 nx l n x.leave x.from_ x.to_ x.arrive c k = some r ∧ Q r := by
  have hq : ∀ b, ∃ r, GsL1CurTimetable.q2 nx l n x.leave x.from_ x.to_ x.arrive c k b = some r ∧ Q r := by
    intro b
    simp only [GsL1CurTimetable.q2, letK, iteK_if]
    rw [wrap_in (by omega) (by omega)]
    cases b with
    | false =>
      rw [if_neg (by simp)]
      exact hn l (by omega)
    | true =>
      rw [if_pos rfl]
      rw [guardK_pos hk, guardK_pos (by simp; omega), guardK_pos (by simp; omega), guardK_pos hk, guardK_pos (by simp; omega)]
      exact hn _ (by simp; omega)
  simp only [GsL1CurTimetable.e1, letK, joinK, appK, iteK_if]
  by_cases h0 : k = 0
  · rw [if_pos (by simpa using h0)]; exact hq true
  · rw [if_neg (by simpa using h0), wrap_in (by omega) (by omega)]
    obtain ⟨y, _, hy⟩ := at_lt (l := l) (k := (k - 1).toNat) (by omega)
    rw [show (((k - 1).toNat : Nat) : Int) = k - 1 by omega] at hy
    rw [hy]
    exact hq _
theorem search9 {fuel : Nat} (hf : 1048577 ≤ fuel) {nx : St9 → Option Re9} {Q : Re9 → Prop} {l : List Mail} {n : Int} {x : Mail} {c : GoC.Tape} (hl : l.length ≤ 1000) (hn0 : 0 < n ∧ n ≤ 1000)
    (hn : ∀ l', l'.length ≤ l.length + 1 → ∃ r, nx (l', n - 1, c) = some r ∧ Q r) :
    ∃ r, loopK (GsL1CurTimetable.l1 l x.leave x.from_ x.to_ x.arrive) fuel (l.length : Int) (GsL1CurTimetable.e1 nx l n x.leave x.from_ x.to_ x.arrive c) = some r ∧ Q r := by
  refine lp_ex (n := l.length) (fun j (k : Int) => k = (l.length : Int) - (j : Int)) ?_ ?_ fuel 0 _ (by omega) (by omega) (by omega)
  · rintro j k nx1 hj rfl hn1
    have h0 : (0 : Int) < (l.length : Int) - (j : Int) := by omega
    simp only [GsL1CurTimetable.l1, letK, joinK, appK, iteK_if, decide_eq_true h0, if_true]
    rw [wrap_in (by omega) (by omega)]
    obtain ⟨y, _, hy⟩ := at_lt (l := l) (k := l.length - j - 1) (by omega)
    rw [show ((l.length - j - 1 : Nat) : Int) = (l.length : Int) - (j : Int) - 1 by omega] at hy
    obtain ⟨c1, h1⟩ := code_some y
    obtain ⟨c2, h2⟩ := code_some x
    have hye : Mail.mk y.leave y.from_ y.to_ y.arrive = y := rfl
    have hxe : Mail.mk x.leave x.from_ x.to_ x.arrive = x := rfl
    rw [hy]
    simp only [Option.bind_some, unMail, hye, hxe, h1, h2, GsL1CurTimetable.q1, letK, iteK_if, appK]
    rw [wrap_in (by omega) (by omega)]
    by_cases hc : c2 < c1
    · rw [if_pos (by simpa using hc)]; exact hn1 _ (by omega)
    · rw [if_neg (by simpa using hc)]; exact place9 hl hn0 hn (by omega)
  · rintro k nx1 rfl
    have h0 : ¬ (0 : Int) < (l.length : Int) - (l.length : Int) := by omega
    simp only [GsL1CurTimetable.l1, letK, joinK, appK, iteK_if, decide_eq_false h0, GsL1CurTimetable.q1, Bool.false_eq_true, if_false]
    exact place9 hl hn0 hn (by omega)
theorem more9 {fuel : Nat} (hf : 1048577 ≤ fuel) {m : Nat} (l : List Mail) (hl : l.length ≤ 21) {c : GoC.Tape} (h : good c (m + 50)) : ∃ r, loopK GsL1CurTimetable.l2 fuel (l, c) GsL1CurTimetable.e2 = some r ∧ (r.1.length ≤ 60 ∧ good r.2 m) := by
  refine lp_ex (n := 22) (fun k (s : Re9) => s.1.length = l.length + k ∧ good s.2 (m + 50 - 2 * k)) ?_ ?_ fuel 0 _ (by omega) (by omega) ⟨rfl, h⟩
  · rintro k ⟨o, c⟩ nx hk ⟨h1, h4⟩ hn
    dsimp only at h1 h4
    obtain ⟨x, c1, e, hx0, hx, _, hg⟩ := pick_ok (n := 2) (m := m + 48 - 2 * k) (good_less h4 (by omega))
    simp only [GsL1CurTimetable.l2, unp2, e, bind2_some, letK, iteK_if]
    rw [wrap_in (x := 20 + x) (by omega) (by omega)]
    by_cases hc : (o.length : Int) < 20 + x
    · rw [if_pos (by simpa using hc), guardK_pos (by omega)]
      exact hn _ ⟨by simp [h1]; omega, good_less hg (by omega)⟩
    · rw [if_neg (by simpa using hc)]
      exact ⟨_, rfl, by dsimp only; omega, good_less hg (by omega)⟩
  · rintro ⟨o, c⟩ nx ⟨h1, h4⟩
    dsimp only at h1 h4
    obtain ⟨x, c1, e, hx0, hx, _, hg⟩ := pick_ok (n := 2) (m := m) (good_less h4 (by omega))
    simp only [GsL1CurTimetable.l2, unp2, e, bind2_some, letK, iteK_if]
    rw [wrap_in (x := 20 + x) (by omega) (by omega), if_neg (by simp; omega)]
    exact ⟨_, rfl, by dsimp only; omega, hg⟩
theorem end9 {fuel : Nat} (hf : 1048577 ≤ fuel) {m : Nat} (l : List Mail) (n : Int) (hl : l.length ≤ 20) {c : GoC.Tape} (h : good c (m + 60)) : ∃ r, GsL1CurTimetable.e0 fuel (l, n, c) = some r ∧ (r.1.length ≤ 60 ∧ good r.2 m) := by
  obtain ⟨p, t1, e1, hp0, hp, _, h1⟩ := pick_ok (n := 32) (m := m + 58) h
  simp only [GsL1CurTimetable.e0, unp3, e1, bind2_some, letK, iteK_if]
  by_cases hp1 : p = 0
  · obtain ⟨x, t2, e2, h2⟩ := mail9_ok (m := m + 46) h1
    obtain ⟨a, b, c, d⟩ := x
    simp only [hp1, beq_self_eq_true, if_true, e2, bind2_some, unMail]
    rw [guardK_pos (by omega)]
    exact ⟨_, rfl, by simp; omega, good_less h2 (by omega)⟩
  · have hpb : (p == 0) = false := by simpa using hp1
    by_cases hp2 : p = 1
    · simp only [hp2, show ((1 : Int) == 0) = false from rfl, Bool.false_eq_true, if_false, beq_self_eq_true, if_true]
      exact more9 hf l (by omega) (good_less h1 (by omega))
    · have hpb2 : (p == 1) = false := by simpa using hp2
      simp only [hpb, hpb2, Bool.false_eq_true, if_false]
      exact ⟨_, rfl, by dsimp only; omega, good_less h1 (by omega)⟩
theorem time9_ok {t : GoC.Tape} {m : Nat} (fuel : Nat) (hf : 1048577 ≤ fuel) (h : good t (m + 300)) : ∃ l t', GsL1CurTimetable.P fuel t = some (l, t') ∧ l.length ≤ 60 ∧ good t' m := by
  obtain ⟨p, t1, e1, hp0, hp, _, h1⟩ := pick_ok (n := 10) (m := m + 298) h
  obtain ⟨⟨l, t'⟩, h1, h2⟩ : ∃ r : Re9, GsL1CurTimetable.P fuel t = some r ∧ (r.1.length ≤ 60 ∧ good r.2 m) := by
    simp only [GsL1CurTimetable.P, e1, bind2_some]
    refine lp_ex (n := p.toNat) (fun k (s : St9) => s.2.1 = p - (k : Int) ∧ s.1.length ≤ k ∧ good s.2.2 (m + 298 - 14 * k)) ?_ ?_ fuel 0 _ (by omega) (by omega) ⟨by simp, by simp, h1⟩
    · rintro k ⟨l, n, c⟩ nx hk ⟨g1, g2, g3⟩ hn
      dsimp only at g1 g2 g3
      subst g1
      have h0 : (0 : Int) < p - (k : Int) := by omega
      obtain ⟨x, t2, e2, h2⟩ := mail9_ok (m := m + 298 - 14 * k - 12) (good_less g3 (by omega))
      have hxe : Mail.mk x.leave x.from_ x.to_ x.arrive = x := rfl
      simp only [GsL1CurTimetable.l0, unp3, letK, decide_eq_true h0, iteK_if, if_true, e2, bind2_some, unMail, hxe, l9One_eq, Option.bind_some, joinK, appK]
      have hw : IntKind.i64.wrap (p - (k : Int) - 1) = p - (k : Int) - 1 := wrap_in (by omega) (by omega)
      have go : ∀ b c', good c' (m + 298 - 14 * (k + 1)) → ∃ r, GsL1CurTimetable.q0 fuel nx l (p - (k : Int)) x.leave x.from_ x.to_ x.arrive (b, c') = some r ∧ (r.1.length ≤ 60 ∧ good r.2 m) := by
        intro b c' hc'
        simp only [GsL1CurTimetable.q0, unp2, letK, iteK_if, hw]
        cases b with
        | true => rw [if_pos rfl]; exact hn _ ⟨by dsimp only; omega, by dsimp only; omega, hc'⟩
        | false =>
          rw [if_neg (by simp)]
          exact search9 hf (by omega) (by omega) (fun l' hl' => hn _ ⟨by dsimp only; omega, by dsimp only; omega, hc'⟩)
      by_cases hb : okM x = true
      · rw [if_neg (by simp [hb])]
        exact go _ _ (good_less h2 (by omega))
      · rw [if_pos (by simp [hb])]
        obtain ⟨b, t3, e3, h3⟩ := one_ok (n := 30) (m := m + 298 - 14 * k - 14) (good_less h2 (by omega))
        simp only [e3, bind2_some, unp2]
        exact go _ _ (good_less h3 (by omega))
    · rintro ⟨l, n, c⟩ nx ⟨g1, g2, g3⟩
      dsimp only at g1 g2 g3
      have h0 : ¬ (0 : Int) < n := by omega
      simp only [GsL1CurTimetable.l0, unp3, letK, decide_eq_false h0, iteK_if, Bool.false_eq_true, if_false, appK]
      exact end9 hf l n (by omega) (good_less g3 (by omega))
  exact ⟨l, t', h1, h2⟩
end Go.Proofs.Ytgbcdmlcmnaimaa.Q9Draws2

namespace Go.Proofs.Ytgbcdmlcmnaimaa.GsDrawTrueCovers
open Go.RowKit
open Go.Proofs.Ytgbcdmlcmnaimaa.Rowed Go.Proofs.Ytgbcdmlcmnaimaa.Turn Go.Proofs.Ytgbcdmlcmnaimaa.Aid Go.Proofs.Ytgbcdmlcmnaimaa.GoP Go.Proofs.Ytgbcdmlcmnaimaa.GoM

def P (fuel : Nat) (tapes : List Int → GoC.Tape) (code : (List Int)) : Option ((List PRate.Rate) × (List PMail.Mail) × (List PCover.Cover)) :=
 letK (tapes code) fun (t_5 : GoC.Tape) =>
 bind2 (GsL1CurRates.P fuel t_5) fun (t_8 : (List PRate.Rate)) (t_8_tp : GoC.Tape) =>
 bind2 (GsL1CurTimetable.P fuel t_8_tp) fun (t_10 : (List PMail.Mail)) (t_10_tp : GoC.Tape) =>
 bind2 (GsL1CurCovers.P fuel t_10_tp) fun (t_12 : (List PCover.Cover)) (t_12_tp : GoC.Tape) =>
 some (t_8, t_10, t_12)

set_option maxRecDepth 100000 in
set_option maxHeartbeats 2000000 in
theorem C (fuel : Nat) (tapes : List Int → GoC.Tape) (code : (List Int)) (A0 : Option Addr) (c0 : Nat)  (w : World) (HE : Hid (GoC.Tells tapes)) (M0 : Hid (Cells w 1 A0 code.length (GoC.u8s code))) (N0 : Hid (code.length ≤ 9223372036854775807)) (V0 : Hid (∀ z ∈ code, 0 ≤ z ∧ z ≤ 255))  {r0 : (List PRate.Rate)} {r1 : (List PMail.Mail)} {r2 : (List PCover.Cover)} (H : Hid (P fuel tapes code = some (r0, r1, r2))) :
  Calls Try.prog 23 #[.slice A0 code.length c0] w (fun e w' => ∃ A_r0 c_r0 A_r1 c_r1 A_r2 c_r2, e = .returned (.tuple #[.slice A_r0 r0.length c_r0, .slice A_r1 r1.length c_r1, .slice A_r2 r2.length c_r2]) ∧ w'.ownsRow w.heap.size 92 5 (.slice A_r0 r0.length c_r0) r0.length (PRate.flat r0) ∧ w'.ownsRow w.heap.size 77 4 (.slice A_r1 r1.length c_r1) r1.length (PMail.flat r1) ∧ w'.ownsRow w.heap.size 27 9 (.slice A_r2 r2.length c_r2) r2.length (PCover.flat r2) ∧ Apart A_r0 A_r1 ∧ Apart A_r0 A_r2 ∧ Apart A_r1 A_r2 ∧ Below w.heap.size w w') := by
 have HB := Lib.hid (Below.refl w.heap.size w); unfold P at H; have N0o := N0.out
 go_enter Try.func23, Try.ntmps23
 replace H := let_hid H; obtain ⟨t_5, ht_5, H⟩ := H; obtain ⟨f10, m10⟩ : ∃ x, w.alloc (.cells #[.slice A0 code.length c0, .int .i64 0, .int .u64 0] 60) = x := ⟨_, rfl⟩; have q10 : Below w.heap.size w f10 := (by rw [← m10]; exact (Below.refl _ _).alloc (Nat.le_refl _) _); have Kt_5 : Hid (GoC.CurIs f10 w.heap.size w.heap.size A0 c0 t_5) := Lib.hid (by rw [← m10, ← ht_5]; exact GoC.cur_new HB.out.size (Cells.below M0.out HB.out) (fun a_ ha_ h0_ => by subst ha_; exact GoC.cells_lt M0.out (by unfold GoC.u8s; rw [List.length_map]; exact h0_)) (HE.out.2.2 code V0.out N0.out)); have l11 := Lib.hid ht_5; clear ht_5; have i10 := Lib.hid (Below.step HB.out q10); clear q10; replace H := bind2_hid H; obtain ⟨t_8, f11, qt_8, H⟩ := H; go_wp2_with fail; go_at_call 34; refine (GsL1CurRates.C fuel (t_5) (w.heap.size) (A0) (c0) (w.heap.size) _   Kt_5 qt_8).mono ?_; rintro o11 wt_8 ⟨At_8, ct_8, rfl, ot_8, kt_8, gt_8⟩; have o10 := Lib.hid (GoC.apart_callcur ot_8 Kt_5.out); have Ot_8 := Lib.hid (own_lower ot_8 i10.out.size); clear ot_8; have Kt_8 := Lib.hid kt_8; have Gt_8 : Hid (f10.grownBy wt_8 (Value.slice (some ⟨w.heap.size, 0, none⟩) 1 1).ownBlock) := Lib.hid gt_8; clear kt_8 gt_8; have j10 := Lib.hid (GoC.below_cur i10.out Gt_8.out i10.out.size (GoC.cur_lt Kt_5.out).1); clear Kt_5 Gt_8; replace H := bind2_hid H; obtain ⟨t_10, x10, y10, H⟩ := H; go_wp2_with fail; go_at_call 35; refine (GsL1CurTimetable.C fuel (f11) (w.heap.size) (A0) (c0) (w.heap.size) _   Kt_8 y10).mono ?_; rintro m11 r10 ⟨g11, w10, rfl, d10, n10, l10⟩; have e11 := Lib.hid (apart_call d10 Ot_8.out); have s10 := Lib.hid (GoC.apart_callcur d10 Kt_8.out); have e10 := Lib.hid (own_lower d10 j10.out.size); clear d10; have b10 := Lib.hid n10; have g10 : Hid (wt_8.grownBy r10 (Value.slice (some ⟨w.heap.size, 0, none⟩) 1 1).ownBlock) := Lib.hid l10; clear n10 l10; have h10 := Lib.hid (GoC.below_cur j10.out g10.out j10.out.size (GoC.cur_lt Kt_8.out).1); replace Ot_8 := Lib.hid (own_other Ot_8.out g10.out (Apart.symm o10.out)); clear Kt_8 g10; replace H := bind2_hid H; obtain ⟨t_12, k11, c11, H⟩ := H; go_wp2_with fail; go_at_call 65; refine (GsL1CurCovers.C fuel (x10) (w.heap.size) (A0) (c0) (w.heap.size) _   b10 c11).mono ?_; rintro n11 h11 ⟨a11, t10, rfl, a10, k10, p10⟩; have d11 := Lib.hid (apart_call a10 Ot_8.out); have b11 := Lib.hid (apart_call a10 e10.out); have j11 := Lib.hid (GoC.apart_callcur a10 b10.out); have z10 := Lib.hid (own_lower a10 h10.out.size); clear a10; have i11 := Lib.hid k10; have c10 : Hid (r10.grownBy h11 (Value.slice (some ⟨w.heap.size, 0, none⟩) 1 1).ownBlock) := Lib.hid p10; clear k10 p10; have v10 := Lib.hid (GoC.below_cur h10.out c10.out h10.out.size (GoC.cur_lt b10.out).1); replace Ot_8 := Lib.hid (own_other Ot_8.out c10.out (Apart.symm o10.out)); replace e10 := Lib.hid (own_other e10.out c10.out (Apart.symm s10.out)); clear b10 c10; cases ret_hid H; go_wp2_with fail; go_ret3; exact ⟨At_8, ct_8, g11, w10, a11, t10, rfl, Ot_8.out, e10.out, z10.out, (Apart.symm e11.out), (Apart.symm d11.out), (Apart.symm b11.out), v10.out⟩
end Go.Proofs.Ytgbcdmlcmnaimaa.GsDrawTrueCovers

namespace Go.Proofs.Ytgbcdmlcmnaimaa.GsDrawCoversVia
open Go.RowKit
open Go.Proofs.Ytgbcdmlcmnaimaa.Rowed Go.Proofs.Ytgbcdmlcmnaimaa.Turn Go.Proofs.Ytgbcdmlcmnaimaa.Aid Go.Proofs.Ytgbcdmlcmnaimaa.GoP Go.Proofs.Ytgbcdmlcmnaimaa.GoM

def P (fuel : Nat) (tapes : List Int → GoC.Tape) (code : (List Int)) : Option ((List PMail.Mail) × (List PCover.Cover) × Int) :=
 letK (tapes code) fun (t_5 : GoC.Tape) =>
 bind2 (GsL1CurTimetable.P fuel t_5) fun (t_8 : (List PMail.Mail)) (t_8_tp : GoC.Tape) =>
 bind2 (GsL1CurCovers.P fuel t_8_tp) fun (t_10 : (List PCover.Cover)) (t_10_tp : GoC.Tape) =>
 letK ([0, 1, 2, 3, 9, 10, (-1)]) fun (t_12 : (List Int)) =>
 bind2 (GsL1CurAmong.P t_10_tp t_12) fun (t_13 : Int) (t_13_tp : GoC.Tape) =>
 some (t_8, t_10, t_13)

set_option maxRecDepth 100000 in
set_option maxHeartbeats 2000000 in
theorem C (fuel : Nat) (tapes : List Int → GoC.Tape) (code : (List Int)) (A0 : Option Addr) (c0 : Nat)  (w : World) (HE : Hid (GoC.Tells tapes)) (M0 : Hid (Cells w 1 A0 code.length (GoC.u8s code))) (N0 : Hid (code.length ≤ 9223372036854775807)) (V0 : Hid (∀ z ∈ code, 0 ≤ z ∧ z ≤ 255))  {r0 : (List PMail.Mail)} {r1 : (List PCover.Cover)} {r2 : Int} (H : Hid (P fuel tapes code = some (r0, r1, r2))) :
  Calls Try.prog 30 #[.slice A0 code.length c0] w (fun e w' => ∃ A_r0 c_r0 A_r1 c_r1, e = .returned (.tuple #[.slice A_r0 r0.length c_r0, .slice A_r1 r1.length c_r1, .int .i64 r2]) ∧ w'.ownsRow w.heap.size 77 4 (.slice A_r0 r0.length c_r0) r0.length (PMail.flat r0) ∧ w'.ownsRow w.heap.size 27 9 (.slice A_r1 r1.length c_r1) r1.length (PCover.flat r1) ∧ Apart A_r0 A_r1 ∧ Below w.heap.size w w') := by
 have HB := Lib.hid (Below.refl w.heap.size w); unfold P at H; have N0o := N0.out
 go_enter Try.func30, Try.ntmps30
 replace H := let_hid H; obtain ⟨t_5, ht_5, H⟩ := H; obtain ⟨k10, z10⟩ : ∃ x, w.alloc (.cells #[.slice A0 code.length c0, .int .i64 0, .int .u64 0] 60) = x := ⟨_, rfl⟩; have x10 : Below w.heap.size w k10 := (by rw [← z10]; exact (Below.refl _ _).alloc (Nat.le_refl _) _); have Kt_5 : Hid (GoC.CurIs k10 w.heap.size w.heap.size A0 c0 t_5) := Lib.hid (by rw [← z10, ← ht_5]; exact GoC.cur_new HB.out.size (Cells.below M0.out HB.out) (fun a_ ha_ h0_ => by subst ha_; exact GoC.cells_lt M0.out (by unfold GoC.u8s; rw [List.length_map]; exact h0_)) (HE.out.2.2 code V0.out N0.out)); have t11 := Lib.hid ht_5; clear ht_5; have i10 := Lib.hid (Below.step HB.out x10); clear x10; replace H := bind2_hid H; obtain ⟨t_8, e11, qt_8, H⟩ := H; go_wp2_with fail; go_at_call 35; refine (GsL1CurTimetable.C fuel (t_5) (w.heap.size) (A0) (c0) (w.heap.size) _   Kt_5 qt_8).mono ?_; rintro n11 wt_8 ⟨At_8, ct_8, rfl, ot_8, kt_8, gt_8⟩; have q10 := Lib.hid (GoC.apart_callcur ot_8 Kt_5.out); have Ot_8 := Lib.hid (own_lower ot_8 i10.out.size); clear ot_8; have Kt_8 := Lib.hid kt_8; have Gt_8 : Hid (k10.grownBy wt_8 (Value.slice (some ⟨w.heap.size, 0, none⟩) 1 1).ownBlock) := Lib.hid gt_8; clear kt_8 gt_8; have j10 := Lib.hid (GoC.below_cur i10.out Gt_8.out i10.out.size (GoC.cur_lt Kt_5.out).1); clear Kt_5 Gt_8; replace H := bind2_hid H; obtain ⟨t_10, j11, d11, H⟩ := H; go_wp2_with fail; go_at_call 65; refine (GsL1CurCovers.C fuel (e11) (w.heap.size) (A0) (c0) (w.heap.size) _   Kt_8 d11).mono ?_; rintro l11 a10 ⟨f11, g11, rfl, h10, v10, w10⟩; have c11 := Lib.hid (apart_call h10 Ot_8.out); have i11 := Lib.hid (GoC.apart_callcur h10 Kt_8.out); have b10 := Lib.hid (own_lower h10 j10.out.size); clear h10; have d10 := Lib.hid v10; have n10 : Hid (wt_8.grownBy a10 (Value.slice (some ⟨w.heap.size, 0, none⟩) 1 1).ownBlock) := Lib.hid w10; clear v10 w10; have p10 := Lib.hid (GoC.below_cur j10.out n10.out j10.out.size (GoC.cur_lt Kt_8.out).1); replace Ot_8 := Lib.hid (own_other Ot_8.out n10.out (Apart.symm q10.out)); clear Kt_8 n10; replace H := let_hid H; obtain ⟨t_12, g10, H⟩ := H; obtain ⟨l10, t10⟩ : ∃ x, a10.alloc (.cells #[.int .i64 0, .int .i64 1, .int .i64 2, .int .i64 3, .int .i64 9, .int .i64 10, .int .i64 (-1)] 3) = x := ⟨_, rfl⟩; have e10 : Below a10.heap.size a10 l10 := (by rw [← t10]; exact (Below.refl _ _).alloc (Nat.le_refl _) _); have s10 := p10.out.size; have m10 : t_12.length = 7 := (by rw [← g10]; rfl)
 have c10 : Hid (l10.ownsRow w.heap.size 3 1 (.slice (some ⟨a10.heap.size, 0, none⟩) 7 7) 7 (HelpInt.iv t_12)) := by
  rw [← t10, ← g10]; have e_ : ([.int .i64 0, .int .i64 1, .int .i64 2, .int .i64 3, .int .i64 9, .int .i64 10, .int .i64 (-1)] : List Value) = (HelpInt.iv ([0, 1, 2, 3, 9, 10, (-1)] : List Int)) := rfl; exact Lib.hid (own_laid (n := 7) s10 e_ rfl (by unfold maxLen; omega))
 clear s10; have o11 := Lib.hid g10; clear g10; replace m10 := Lib.hid m10; have p11 := Lib.hid (apart_fresh Ot_8.out); have s11 := Lib.hid (apart_fresh b10.out); have a11 := Lib.hid (GoC.apart_cur d10.out); have r10 := Lib.hid (Below.step p10.out e10); replace Ot_8 := Lib.hid (own_below Ot_8.out e10); replace b10 := Lib.hid (own_below b10.out e10); replace d10 := Lib.hid (GoC.cur_below d10.out e10); clear e10; replace H := bind2_hid H; obtain ⟨t_13, q11, h11, H⟩ := H; go_wp2_with fail; have hc_ := m10.out; have hv_ : (Value.slice (some ⟨a10.heap.size, 0, none⟩) 7 7 : Value) = Value.slice (some ⟨a10.heap.size, 0, none⟩) t_12.length 7 := (by rw [hc_])
 try rw [hv_]
 replace c10 := Lib.hid (own_len hc_ c10.out); clear hc_ hv_; go_wp2_with fail; go_at_call 56; refine (GsL1CurAmong.C (j11) (t_12) (some ⟨a10.heap.size, 0, none⟩) 7 (w.heap.size) (A0) (c0) (w.heap.size) _   (Lib.hid (own_cells c10.out)) (Lib.hid (own_max c10.out)) d10 (Lib.hid (fun _ => a11.out)) h11).mono ?_; rintro r11 b11 ⟨rfl, o10, y10⟩; have m11 := Lib.hid o10; have f10 : Hid (l10.grownBy b11 (Value.slice (some ⟨w.heap.size, 0, none⟩) 1 1).ownBlock) := Lib.hid y10; clear o10 y10; have k11 := Lib.hid (GoC.below_cur r10.out f10.out r10.out.size (GoC.cur_lt d10.out).1); replace Ot_8 := Lib.hid (own_other Ot_8.out f10.out (Apart.symm q10.out)); replace b10 := Lib.hid (own_other b10.out f10.out (Apart.symm i11.out)); replace c10 := Lib.hid (own_other c10.out f10.out (Apart.symm a11.out)); clear d10 f10; cases ret_hid H; go_wp2_with fail; go_ret3; exact ⟨At_8, ct_8, f11, g11, rfl, Ot_8.out, b10.out, (Apart.symm c11.out), k11.out⟩
end Go.Proofs.Ytgbcdmlcmnaimaa.GsDrawCoversVia

namespace Go.Proofs.Ytgbcdmlcmnaimaa.Q10DrawsF
open Go.RowKit
open Go.Proofs.Ytgbcdmlcmnaimaa.GoP Go.Proofs.Ytgbcdmlcmnaimaa.PlainStamp Go.Proofs.Ytgbcdmlcmnaimaa.QBase Go.Proofs.Ytgbcdmlcmnaimaa.Q10Draws Go.Proofs.Ytgbcdmlcmnaimaa.Q8Draws Go.Proofs.Ytgbcdmlcmnaimaa.Q9Draws2 Go.Proofs.Ytgbcdmlcmnaimaa.QDraw Go.Proofs.Ytgbcdmlcmnaimaa.QUp Go.Proofs.Ytgbcdmlcmnaimaa.QAll Go.Proofs.Ytgbcdmlcmnaimaa.QLoop Go.Proofs.Ytgbcdmlcmnaimaa.PCover Go.Proofs.Ytgbcdmlcmnaimaa.PRate Go.Proofs.Ytgbcdmlcmnaimaa.PMail

theorem drawFault_ok {tapes : List Int → GoC.Tape} (ht : GoC.Tells tapes) (code : List Int) (fuel : Nat) (hf : 1048577 ≤ fuel) : ∃ rs ms x, GsDrawFaultOf.P fuel tapes code = some (rs, ms, x) ∧ rs.length ≤ 40 ∧ ms.length ≤ 60 := by
  obtain ⟨rs, c0, e0, hr, _, h0⟩ := rates8_ok (m := 400) fuel hf (good_of ht code (by omega))
  obtain ⟨ms, c1, e1, hm, h1⟩ := time9_ok fuel hf (m := 100) (t := c0) (good_less h0 (by omega))
  obtain ⟨x, c2, e2, h2⟩ := cover10_ok (m := 40) 7 (t := c1) (good_less h1 (by omega))
  refine ⟨rs, ms, x, ?_, hr, hm⟩
  obtain ⟨a, b, c, d, e, f, g, h, i⟩ := x
  simp only [GsDrawFaultOf.P, letK, e0, e1, e2, bind2_some, unCover]
theorem drawIs_ok {tapes : List Int → GoC.Tape} (ht : GoC.Tells tapes) (code : List Int) : ∃ x, GsDrawIsCover.P tapes code = some x := by
  obtain ⟨i, c1, e1, _, h1⟩ := among_ok (l := [1, 50, 999, 0, 1000]) (m := 38) (good_of ht code (by omega)) (by simp)
  obtain ⟨x, c2, e2, h2⟩ := cover10_ok (m := 10) i (t := c1) (good_less h1 (by omega))
  refine ⟨x, ?_⟩
  obtain ⟨a, b, c, d, e, f, g, h, i⟩ := x
  simp only [GsDrawIsCover.P, letK, e1, e2, bind2_some, unCover]
theorem drawText_ok {tapes : List Int → GoC.Tape} (ht : GoC.Tells tapes) (code : List Int) : ∃ n, GsDrawFaultText.P tapes code = some n := by
  obtain ⟨a, c1, e1, _, _, _, h1⟩ := pick_ok (n := 7) (m := 38) (t := tapes code) (good_of ht code (by omega))
  obtain ⟨b, c2, e2, _, _, _, h2⟩ := pick_ok (n := 9) (m := 36) h1
  exact ⟨_, by simp only [GsDrawFaultText.P, letK, e1, e2, bind2_some]; rfl⟩
theorem drawTrue_ok {tapes : List Int → GoC.Tape} (ht : GoC.Tells tapes) (code : List Int) (fuel : Nat) (hf : 1048577 ≤ fuel) : ∃ rs ms l, GsDrawTrueCovers.P fuel tapes code = some (rs, ms, l) ∧ rs.length ≤ 40 ∧ ms.length ≤ 60 ∧ l.length ≤ 40 := by
  obtain ⟨rs, c0, e0, hr, _, h0⟩ := rates8_ok (m := 800) fuel hf (good_of ht code (by omega))
  obtain ⟨ms, c1, e1, hm, h1⟩ := time9_ok fuel hf (m := 400) (t := c0) (good_less h0 (by omega))
  obtain ⟨l, c2, e2, hl, h2⟩ := covers10_ok (m := 40) fuel hf (t := c1) (good_less h1 (by omega))
  exact ⟨rs, ms, l, by simp only [GsDrawTrueCovers.P, letK, e0, e1, e2, bind2_some], hr, hm, hl⟩
theorem drawVia_ok {tapes : List Int → GoC.Tape} (ht : GoC.Tells tapes) (code : List Int) (fuel : Nat) (hf : 1048577 ≤ fuel) : ∃ ms l o, GsDrawCoversVia.P fuel tapes code = some (ms, l, o) ∧ ms.length ≤ 60 ∧ l.length ≤ 40 := by
  obtain ⟨ms, c1, e1, hm, h1⟩ := time9_ok fuel hf (m := 400) (good_of ht code (by omega))
  obtain ⟨l, c2, e2, hl, h2⟩ := covers10_ok (m := 40) fuel hf (t := c1) (good_less h1 (by omega))
  obtain ⟨o, c3, e3, _, h3⟩ := among_ok (l := [0, 1, 2, 3, 9, 10, (-1)]) (m := 30) (t := c2) (good_less h2 (by omega)) (by simp)
  exact ⟨ms, l, o, by simp only [GsDrawCoversVia.P, letK, e1, e2, e3, bind2_some], hm, hl⟩
end Go.Proofs.Ytgbcdmlcmnaimaa.Q10DrawsF

namespace Go.Proofs.Ytgbcdmlcmnaimaa.Q8Rate
open Go.RowKit
open Go.Proofs.Ytgbcdmlcmnaimaa.GoP Go.Proofs.Ytgbcdmlcmnaimaa.PlainStamp Go.Proofs.Ytgbcdmlcmnaimaa.QBase Go.Proofs.Ytgbcdmlcmnaimaa.QLoop Go.Proofs.Ytgbcdmlcmnaimaa.PRate Go.Proofs.Ytgbcdmlcmnaimaa.PrateClass

theorem isZone_eq (n : Int) : GiIsZone.P n = some (inB n 0 9) := by simp only [GiIsZone.P, within_eq, Option.bind_some]
theorem isWeight_eq (n : Int) : GiIsWeight.P n = some (inB n 1 2000) := by simp only [GiIsWeight.P, within_eq, Option.bind_some]
theorem isRateCents_eq (n : Int) : GiIsRateCents.P n = some (inB n 1 9999) := by simp only [GiIsRateCents.P, within_eq, Option.bind_some]
theorem isDay_eq (n : Int) : GiIsDay.P n = some (inB n 0 4000) := by simp only [GiIsDay.P, within_eq, Option.bind_some]
theorem l8Zone_eq (n : Int) : GsL8Zone.P n = some (inB n 0 9) := by simp only [GsL8Zone.P, l1In_eq, Option.bind_some]
theorem l8Grams_eq (n : Int) : GsL8Grams.P n = some (inB n 1 2000) := by simp only [GsL8Grams.P, l1In_eq, Option.bind_some]
theorem l8Cents_eq (n : Int) : GsL8Cents.P n = some (inB n 1 9999) := by simp only [GsL8Cents.P, l1In_eq, Option.bind_some]
theorem l2Day_eq (n : Int) : GsL2Day.P n = some (inB n 0 4000) := by simp only [GsL2Day.P, l1In_eq, Option.bind_some]
def okR (x : Rate) : Bool := inB x.zone 0 9 && inB x.grams 1 2000 && inB x.cents 1 9999 && inB x.from_ 0 4000 && inB x.until_ 0 4000 && decide (x.from_ ≤ x.until_)
theorem isRate_eq (x : Rate) : GiIsRate.P x = some (okR x) := by
  obtain ⟨a, b, c, d, e⟩ := x
  simp only [GiIsRate.P, unRate, isZone_eq, isWeight_eq, isRateCents_eq, isDay_eq, Option.bind_some, letK, joinK, appK, iteK_if, okR]
  cases inB a 0 9 <;> cases inB b 1 2000 <;> cases inB e 1 9999 <;> cases inB c 0 4000 <;> cases inB d 0 4000 <;> simp
theorem l8One_eq (x : Rate) : GsL8One.P x = some (okR x) := by
  obtain ⟨a, b, c, d, e⟩ := x
  have hx : (inB d 0 4000 && inB c 0 d) = (inB c 0 4000 && inB d 0 4000 && decide (c ≤ d)) := by unfold inB; rw [Bool.eq_iff_iff]; simp; omega
  have hy : okR ⟨a, b, c, d, e⟩ = (inB a 0 9 && inB b 1 2000 && (inB d 0 4000 && inB c 0 d) && inB e 1 9999) := by
    rw [hx]; unfold okR
    cases inB a 0 9 <;> cases inB b 1 2000 <;> cases inB e 1 9999 <;> simp
  rw [hy]
  simp only [GsL8One.P, unRate, l8Zone_eq, l8Grams_eq, l8Cents_eq, l2Day_eq, l1In_eq, Option.bind_some, letK, joinK, appK, iteK_if]
  cases inB a 0 9 <;> cases inB b 1 2000 <;> cases inB d 0 4000 <;> cases inB c 0 d <;> simp
theorem okR_of {x : Rate} (h : okR x = true) : (0 ≤ x.zone ∧ x.zone ≤ 9) ∧ (1 ≤ x.grams ∧ x.grams ≤ 2000) ∧ (1 ≤ x.cents ∧ x.cents ≤ 9999) ∧ (0 ≤ x.from_ ∧ x.from_ ≤ x.until_ ∧ x.until_ ≤ 4000) := by
  unfold okR at h
  simp only [Bool.and_eq_true, decide_eq_true_eq] at h
  have h1 := inB_of h.1.1.1.1.1
  have h2 := inB_of h.1.1.1.1.2
  have h3 := inB_of h.1.1.1.2
  have h4 := inB_of h.1.1.2
  have h5 := inB_of h.1.2
  omega
def linkR (a b : Rate) : Bool := if a.zone = b.zone ∧ a.grams = b.grams then decide (a.until_ < b.from_) else decide (a.zone < b.zone ∨ a.zone = b.zone ∧ a.grams < b.grams)
theorem compare_eq (x y : Int) : GxCmpCompareInt.P x y = some (if x < y then -1 else if y < x then 1 else 0) := by
  simp only [GxCmpCompareInt.P, GxCmpIsNaNInt.P, Option.bind_some, letK, iteK_if]
  by_cases h : x < y <;> by_cases h2 : y < x <;> simp [h, h2]
theorem or_eq (a b : Int) : GxCmpOrInt.P [a, b] = some (if a = 0 then b else a) := by
  have h0 : idx [a, b] ((0 : Nat) : Int) = some a := rfl
  have h1 : idx [a, b] ((1 : Nat) : Int) = some b := rfl
  show cntK (GxCmpOrInt.l0 [a, b]) 2 0 () GxCmpOrInt.e0 = _
  simp only [cntK, GxCmpOrInt.l0, h0, h1, Option.bind_some, letK, iteK_if, appK, GxCmpOrInt.e0, Nat.zero_add]
  by_cases ha : a = 0 <;> by_cases hb : b = 0 <;> simp [ha, hb]
theorem canFollow_eq (b a : Rate) : GiCanFollow.P b a = some (linkR a b) := by
  obtain ⟨z, g, f, u, c⟩ := b
  obtain ⟨z2, g2, f2, u2, c2⟩ := a
  simp only [GiCanFollow.P, unRate, unrateClass, GiClassOf.P, Option.bind_some, letK, iteK_if, compare_eq, or_eq, linkR]
  by_cases h1 : z = z2
  · subst h1
    by_cases h2 : g = g2
    · subst h2; simp
    · have h3 : ¬ g2 = g := fun h => h2 h.symm
      by_cases h4 : g2 < g
      · simp [h2, h3, h4]
      · by_cases h5 : g < g2
        · simp [h2, h3, h4, h5]
        · omega
  · have h3 : ¬ z2 = z := fun h => h1 h.symm
    by_cases h4 : z2 < z
    · simp [h1, h3, h4]
    · by_cases h5 : z < z2
      · simp [h1, h3, h4, h5]
      · omega
def codeR (x : Rate) : Int := (10000 * x.zone + x.grams) * 10000 + x.from_
theorem l8Code_eq {x : Rate} (h : okR x = true) : GsL8Code.P x = some (codeR x) := by
  have h1 := okR_of h
  obtain ⟨a, b, c, d, e⟩ := x
  dsimp only at h1
  simp only [GsL8Code.P, unRate, letK, codeR]
  rw [wrap_in (x := 10000 * a) (by omega) (by omega), wrap_in (x := 10000 * a + b) (by omega) (by omega), wrap_in (x := (10000 * a + b) * 10000) (by omega) (by omega), wrap_in (by omega) (by omega)]
theorem link_code {a b : Rate} (ha : okR a = true) (hb : okR b = true) : linkR a b = (decide (codeR a < codeR b) && !(decide (a.zone = b.zone) && decide (a.grams = b.grams) && decide (b.from_ ≤ a.until_))) := by
  have h1 := okR_of ha
  have h2 := okR_of hb
  unfold linkR codeR
  rw [Bool.eq_iff_iff]
  split
  · simp; omega
  · simp; omega
end Go.Proofs.Ytgbcdmlcmnaimaa.Q8Rate

namespace Go.Proofs.Ytgbcdmlcmnaimaa.OCover
set_option maxRecDepth 100000
open Go.Joins Go.ChangeShapes Go.WideShapes Go.RowKit Go.Deep
open Go.Proofs.Ytgbcdmlcmnaimaa.Rowed Go.Proofs.Ytgbcdmlcmnaimaa.OpenAny Go.Proofs.Ytgbcdmlcmnaimaa.PCover

/-- the slice 'A, n' reads as the records l -/
abbrev Covers (w : World) (A : Option Addr) (n : Nat) (l : List Cover) : Prop := Cells w 9 A n (flat l)
theorem at_ {w : World} {A : Option Addr} {n k : Nat} {l : List Cover} (h : Covers w A n l) (hk : k < n) :
    ∃ (b o : Nat) (s : Cover), A = some ⟨b, o, none⟩ ∧ l[k]? = some s ∧ w.cell? ⟨b, o + k * 9, none⟩ = some (.int .i64 s.id) ∧ w.cell? ⟨b, o + k * 9 + 1, none⟩ = some (.int .i64 s.day) ∧ w.cell? ⟨b, o + k * 9 + 2, none⟩ = some (.int .i64 s.zone) ∧ w.cell? ⟨b, o + k * 9 + 3, none⟩ = some (.int .i64 s.grams) ∧ w.cell? ⟨b, o + k * 9 + 4, none⟩ = some (.int .i64 s.paid) ∧ w.cell? ⟨b, o + k * 9 + 5, none⟩ = some (.int .i64 s.from_) ∧ w.cell? ⟨b, o + k * 9 + 6, none⟩ = some (.int .i64 s.to_) ∧ w.cell? ⟨b, o + k * 9 + 7, none⟩ = some (.int .i64 s.leave) ∧ w.cell? ⟨b, o + k * 9 + 8, none⟩ = some (.int .i64 s.arrive) := by
  have hl : k < l.length := by have := h.1; rw [flat_len] at this; omega
  obtain ⟨⟨b, o, sp⟩, e, hc⟩ := h.2 (by rw [flat_len]; omega)
  have h0 := hc 0 _ (flat_at l 0 l[0] (List.getElem?_eq_getElem (by omega)) 0 (by omega))
  obtain rfl : sp = none := cell_spot (b := b) (o := o) h0
  have hs := List.getElem?_eq_getElem hl
  have f := flat_at l k _ hs
  have g := fun j u hu => add_none b o j ▸ hc j u hu
  exact ⟨b, o, l[k], e, hs, g _ _ (f 0 (by omega)), g _ _ (f 1 (by omega)), g _ _ (f 2 (by omega)), g _ _ (f 3 (by omega)), g _ _ (f 4 (by omega)), g _ _ (f 5 (by omega)), g _ _ (f 6 (by omega)), g _ _ (f 7 (by omega)), g _ _ (f 8 (by omega))⟩
theorem len_of {w : World} {A : Option Addr} {n : Nat} {l : List Cover} (h : Covers w A n l) : l.length = n := by
  have := h.1
  rw [flat_len] at this; omega

/-- a slice of records that came in: the list that it reads as -/
structure Came (w : World) (A : Option Addr) (len cap : Nat) (l : List Cover) : Prop where
  cells : Covers w A len l
  small : len ≤ maxLen
  fits : ∀ s ∈ l, s.fits
theorem Came.len {w : World} {A : Option Addr} {len cap : Nat} {l : List Cover} (h : Came w A len cap l) : l.length = len := len_of h.cells

section
variable {H : Type} {enc : TypeId × Value → H} {w : World} {base : Nat} {spare : Nat → Bool} {held : Bool}
theorem read_one {n : Nat} {cs : List Value} {x : DataW H × List MemPlace} (h : DataW.trod enc Try.prog w base spare held n 27 cs = some x) : ∃ s : Cover, cs = s.cells ∧ s.fits := by
  have hc : Try.prog.cellsOf 27 = 9 := by kernel_rfl
  obtain ⟨hl, hf⟩ := read_fields Try.underlying27 (by kernel_rfl) hc h
  rw [hc] at hl
  match cs, hl with
  | [v0, v1, v2, v3, v4, v5, v6, v7, v8], _ =>
    obtain ⟨u0, n0, y0, eu0, t0⟩ := hf 0 _ rfl
    obtain ⟨x0, e0, _, f0⟩ := DataW.trod_int Try.underlying3 t0
    obtain rfl : v0 = u0 := by simpa using eu0
    obtain rfl : v0 = .int .i64 x0 := by simpa using e0
    obtain ⟨u1, n1, y1, eu1, t1⟩ := hf 1 _ rfl
    obtain ⟨x1, e1, _, f1⟩ := DataW.trod_int Try.underlying3 t1
    obtain rfl : v1 = u1 := by simpa using eu1
    obtain rfl : v1 = .int .i64 x1 := by simpa using e1
    obtain ⟨u2, n2, y2, eu2, t2⟩ := hf 2 _ rfl
    obtain ⟨x2, e2, _, f2⟩ := DataW.trod_int Try.underlying3 t2
    obtain rfl : v2 = u2 := by simpa using eu2
    obtain rfl : v2 = .int .i64 x2 := by simpa using e2
    obtain ⟨u3, n3, y3, eu3, t3⟩ := hf 3 _ rfl
    obtain ⟨x3, e3, _, f3⟩ := DataW.trod_int Try.underlying3 t3
    obtain rfl : v3 = u3 := by simpa using eu3
    obtain rfl : v3 = .int .i64 x3 := by simpa using e3
    obtain ⟨u4, n4, y4, eu4, t4⟩ := hf 4 _ rfl
    obtain ⟨x4, e4, _, f4⟩ := DataW.trod_int Try.underlying3 t4
    obtain rfl : v4 = u4 := by simpa using eu4
    obtain rfl : v4 = .int .i64 x4 := by simpa using e4
    obtain ⟨u5, n5, y5, eu5, t5⟩ := hf 5 _ rfl
    obtain ⟨x5, e5, _, f5⟩ := DataW.trod_int Try.underlying3 t5
    obtain rfl : v5 = u5 := by simpa using eu5
    obtain rfl : v5 = .int .i64 x5 := by simpa using e5
    obtain ⟨u6, n6, y6, eu6, t6⟩ := hf 6 _ rfl
    obtain ⟨x6, e6, _, f6⟩ := DataW.trod_int Try.underlying3 t6
    obtain rfl : v6 = u6 := by simpa using eu6
    obtain rfl : v6 = .int .i64 x6 := by simpa using e6
    obtain ⟨u7, n7, y7, eu7, t7⟩ := hf 7 _ rfl
    obtain ⟨x7, e7, _, f7⟩ := DataW.trod_int Try.underlying3 t7
    obtain rfl : v7 = u7 := by simpa using eu7
    obtain rfl : v7 = .int .i64 x7 := by simpa using e7
    obtain ⟨u8, n8, y8, eu8, t8⟩ := hf 8 _ rfl
    obtain ⟨x8, e8, _, f8⟩ := DataW.trod_int Try.underlying3 t8
    obtain rfl : v8 = u8 := by simpa using eu8
    obtain rfl : v8 = .int .i64 x8 := by simpa using e8
    exact ⟨⟨x0, x1, x2, x3, x4, x5, x6, x7, x8⟩, rfl, f0, f1, f2, f3, f4, f5, f6, f7, f8⟩
theorem open_one {r : Reach} {b0 : Nat} {v : Value} {d : DataW H} {p : List MemPlace} (hv : Value.okWide Try.prog w r b0 27 v) (h : DataW.Trod enc Try.prog w base spare held 27 v d p) :
    ∃ s : Cover, v = s.val ∧ s.fits := by
  obtain ⟨cs, n, x, rfl, ht⟩ := agg_any Try.underlying27 hv h
  obtain ⟨s, e, hs⟩ := read_one ht
  refine ⟨s, ?_, hs⟩
  obtain ⟨l⟩ := cs
  obtain rfl : l = s.cells := by simpa using e
  rfl
end

/-- a record that was boxed -/
theorem box_ {w : World} {s : Cover} {g : Nat} (h : Cells w 9 (some ⟨g, 0, none⟩) 1 s.cells) : w.cell? ⟨g, 0, none⟩ = some (.int .i64 s.id) ∧ w.cell? ⟨g, 1, none⟩ = some (.int .i64 s.day) ∧ w.cell? ⟨g, 2, none⟩ = some (.int .i64 s.zone) ∧ w.cell? ⟨g, 3, none⟩ = some (.int .i64 s.grams) ∧ w.cell? ⟨g, 4, none⟩ = some (.int .i64 s.paid) ∧ w.cell? ⟨g, 5, none⟩ = some (.int .i64 s.from_) ∧ w.cell? ⟨g, 6, none⟩ = some (.int .i64 s.to_) ∧ w.cell? ⟨g, 7, none⟩ = some (.int .i64 s.leave) ∧ w.cell? ⟨g, 8, none⟩ = some (.int .i64 s.arrive) := by
  obtain ⟨ad, e, hc⟩ := h.2 (by simp [Cover.cells])
  obtain rfl := Option.some.inj e
  have gg := fun j u hu => add_none g 0 j ▸ hc j u hu
  exact ⟨by simpa using gg 0 _ rfl, by simpa using gg 1 _ rfl, by simpa using gg 2 _ rfl, by simpa using gg 3 _ rfl, by simpa using gg 4 _ rfl, by simpa using gg 5 _ rfl, by simpa using gg 6 _ rfl, by simpa using gg 7 _ rfl, by simpa using gg 8 _ rfl⟩
theorem box_new (w : World) (s : Cover) (T : TypeId) : Cells (w.alloc (.cells #[.int .i64 s.id, .int .i64 s.day, .int .i64 s.zone, .int .i64 s.grams, .int .i64 s.paid, .int .i64 s.from_, .int .i64 s.to_, .int .i64 s.leave, .int .i64 s.arrive] T)) 9 (some ⟨w.heap.size, 0, none⟩) 1 s.cells :=
  ⟨by simp [Cover.cells], fun _ => ⟨_, rfl, fun j u hu => by
    have hj : j < 9 := by have := (List.getElem?_eq_some_iff.1 hu).1; simpa [Cover.cells] using this
    rw [add_none, World.cell?_alloc_new]
    match j, hj with
    | 0, _ => simpa [Cover.cells] using hu
    | 1, _ => simpa [Cover.cells] using hu
    | 2, _ => simpa [Cover.cells] using hu
    | 3, _ => simpa [Cover.cells] using hu
    | 4, _ => simpa [Cover.cells] using hu
    | 5, _ => simpa [Cover.cells] using hu
    | 6, _ => simpa [Cover.cells] using hu
    | 7, _ => simpa [Cover.cells] using hu
    | 8, _ => simpa [Cover.cells] using hu
⟩⟩
end Go.Proofs.Ytgbcdmlcmnaimaa.OCover

namespace Go.Proofs.Ytgbcdmlcmnaimaa.GiIdOfCover
open Go.RowKit
open Go.Proofs.Ytgbcdmlcmnaimaa.Rowed Go.Proofs.Ytgbcdmlcmnaimaa.Turn Go.Proofs.Ytgbcdmlcmnaimaa.Aid Go.Proofs.Ytgbcdmlcmnaimaa.GoP Go.Proofs.Ytgbcdmlcmnaimaa.GoM

def P (x : PCover.Cover) : Option (Int) :=
 unCover x fun (x_id : Int) (x_day : Int) (x_zone : Int) (x_grams : Int) (x_paid : Int) (x_from_ : Int) (x_to_ : Int) (x_leave : Int) (x_arrive : Int) =>
 some x_id

set_option maxRecDepth 100000 in
set_option maxHeartbeats 2000000 in
theorem C (x : PCover.Cover)   (w : World)   {r : Int} (H : Hid (P x = some r)) :
  Calls Try.prog 68 #[x.val] w (Gives (.int .i64 r) w) := by
 have HB := Lib.hid (Below.refl w.heap.size w); unfold P at H; obtain ⟨x_id, x_day, x_zone, x_grams, x_paid, x_from_, x_to_, x_leave, x_arrive⟩ := x; replace H := unCover_hid H; unfold PCover.Cover.val
 go_enter Try.func68, Try.ntmps68
 obtain ⟨a10, b10⟩ : ∃ x, w.alloc (.cells #[.int .i64 x_id, .int .i64 x_day, .int .i64 x_zone, .int .i64 x_grams, .int .i64 x_paid, .int .i64 x_from_, .int .i64 x_to_, .int .i64 x_leave, .int .i64 x_arrive] 27) = x := ⟨_, rfl⟩; have c10 : Below w.heap.size w a10 := (by rw [← b10]; exact (Below.refl _ _).alloc (Nat.le_refl _) _); have d10 := Lib.hid (Below.step HB.out c10); clear c10; have f10 : a10.cell? ⟨w.heap.size, 0, none⟩ = some (.int .i64 x_id) := (by rw [← b10]; exact box_new _ _ _ 0 _ rfl); have e10 : a10.cell? ⟨w.heap.size, 1, none⟩ = some (.int .i64 x_day) := (by rw [← b10]; exact box_new _ _ _ 1 _ rfl); have l10 : a10.cell? ⟨w.heap.size, 2, none⟩ = some (.int .i64 x_zone) := (by rw [← b10]; exact box_new _ _ _ 2 _ rfl); have g10 : a10.cell? ⟨w.heap.size, 3, none⟩ = some (.int .i64 x_grams) := (by rw [← b10]; exact box_new _ _ _ 3 _ rfl); have i10 : a10.cell? ⟨w.heap.size, 4, none⟩ = some (.int .i64 x_paid) := (by rw [← b10]; exact box_new _ _ _ 4 _ rfl); have j10 : a10.cell? ⟨w.heap.size, 5, none⟩ = some (.int .i64 x_from_) := (by rw [← b10]; exact box_new _ _ _ 5 _ rfl); have k10 : a10.cell? ⟨w.heap.size, 6, none⟩ = some (.int .i64 x_to_) := (by rw [← b10]; exact box_new _ _ _ 6 _ rfl); have m10 : a10.cell? ⟨w.heap.size, 7, none⟩ = some (.int .i64 x_leave) := (by rw [← b10]; exact box_new _ _ _ 7 _ rfl); have h10 : a10.cell? ⟨w.heap.size, 8, none⟩ = some (.int .i64 x_arrive) := (by rw [← b10]; exact box_new _ _ _ 8 _ rfl); obtain rfl := ret_hid H; go_wp2_with fail; go_ret; exact ⟨rfl, d10.out⟩
end Go.Proofs.Ytgbcdmlcmnaimaa.GiIdOfCover

namespace Go.Proofs.Ytgbcdmlcmnaimaa.GiAreByKeyCoverIntiIsCoveriIdOfCover
open Go.RowKit
open Go.Proofs.Ytgbcdmlcmnaimaa.Rowed Go.Proofs.Ytgbcdmlcmnaimaa.Turn Go.Proofs.Ytgbcdmlcmnaimaa.Aid Go.Proofs.Ytgbcdmlcmnaimaa.GoP Go.Proofs.Ytgbcdmlcmnaimaa.GoM

def l0 (list : (List PCover.Cover)) (k0 : Nat) (s : Unit) (nx0 bk0 : Unit → Option (Bool)) : Option (Bool) :=
 
 Option.bind (idx list (k0 : Int)) fun (yt_11 : PCover.Cover) =>
 unCover yt_11 fun (t_11_id : Int) (t_11_day : Int) (t_11_zone : Int) (t_11_grams : Int) (t_11_paid : Int) (t_11_from_ : Int) (t_11_to_ : Int) (t_11_leave : Int) (t_11_arrive : Int) =>
 Option.bind (GiIsCover.P (PCover.Cover.mk t_11_id t_11_day t_11_zone t_11_grams t_11_paid t_11_from_ t_11_to_ t_11_leave t_11_arrive)) fun (t_18 : Bool) =>
 letK (!t_18) fun (t_19 : Bool) =>
 joinK (fun (t_36 : Bool) =>
 iteK t_36
 (some false)
 (appK nx0 ())) fun jt_36 => iteK t_19 (appK jt_36 true) (letK (decide (0 < (k0 : Int))) fun (t_22 : Bool) =>
 joinK (fun (t_35 : Bool) =>
 appK jt_36 t_35) fun jt_35 => iteK t_22 (Option.bind (GiIdOfCover.P (PCover.Cover.mk t_11_id t_11_day t_11_zone t_11_grams t_11_paid t_11_from_ t_11_to_ t_11_leave t_11_arrive)) fun (t_26 : Int) =>
 letK (IntKind.i64.wrap ((k0 : Int) - 1)) fun (t_30 : Int) =>
 Option.bind (idx list t_30) fun (yt_31 : PCover.Cover) =>
 unCover yt_31 fun (t_31_id : Int) (t_31_day : Int) (t_31_zone : Int) (t_31_grams : Int) (t_31_paid : Int) (t_31_from_ : Int) (t_31_to_ : Int) (t_31_leave : Int) (t_31_arrive : Int) =>
 Option.bind (GiIdOfCover.P (PCover.Cover.mk t_31_id t_31_day t_31_zone t_31_grams t_31_paid t_31_from_ t_31_to_ t_31_leave t_31_arrive)) fun (t_33 : Int) =>
 letK (decide (t_26 ≤ t_33)) fun (t_34 : Bool) =>
 appK jt_35 t_34) (appK jt_35 false))

def e0  (s : Unit) : Option (Bool) :=
 
 some true

def P (list : (List PCover.Cover)) (most : Int) : Option (Bool) :=
 letK (decide (most < (list.length : Int))) fun (t_4 : Bool) =>
 iteK t_4
 (some false)
 (cntK (l0 list) (list.length) 0 () (e0 ))

set_option maxRecDepth 100000 in
set_option maxHeartbeats 2000000 in
theorem C (list : (List PCover.Cover)) (most : Int) (A0 : Option Addr) (c0 : Nat)  (w : World) (M0 : Hid (Cells w 9 A0 list.length (PCover.flat list))) (N0 : Hid (list.length ≤ 9223372036854775807))  {r : Bool} (H : Hid (P list most = some r)) :
  Calls Try.prog 70 #[.slice A0 list.length c0, .int .i64 most, .func (.func 18) #[] #[], .func (.func 68) #[] #[]] w (Gives (.bool r) w) := by
 have HB := Lib.hid (Below.refl w.heap.size w); unfold P at H; have N0o := N0.out
 go_enter Try.func70, Try.ntmps70
 replace H := let_hid H; obtain ⟨t_4, ht_4, H⟩ := H
 cases t_4 with
 | false =>
  replace H := ite_f H; go_wp2_with fail; go_loopg [17] (list.length) (fun m_ v17_ wr => ∃ (k0 : Nat) , k0 + m_ = list.length ∧ v17_ = .int .i64 (k0 : Int) ∧ Hid (cntK (l0 list) m_ k0 () (e0 ) = some r) ∧ Hid (Below w.heap.size w wr))
  case atStart => exact ⟨0, by omega, rfl, H, HB⟩
  case round =>
   obtain ⟨k0, hkm0, rfl, H, w10⟩ := hrel; rename World => wr0
   cases gk with
   | zero =>
    obtain rfl : k0 = list.length := (by omega); have hc0 : decide (((list.length : Nat) : Int) < ((list.length : Nat) : Int)) = false := (by simp); replace H := cnt_zero H; unfold e0 at H; obtain rfl := ret_hid H; go_wp2_with fail; go_ret; exact ⟨rfl, w10.out⟩
   | succ m0 =>
    have hlt0 : k0 < list.length := (by omega); have hc0 : decide ((k0 : Int) < ((list.length : Nat) : Int)) = true := (by simp; omega); replace H := cnt_succ H; unfold l0 at H; replace H := idx_hid H; obtain ⟨b14, x13, d14, c14, i14, H⟩ := H; obtain rfl : k0 = b14 := (by omega); clear d14; obtain ⟨z11, b12, j12, p11, l11, i11, x11, g12, e12⟩ := x13; replace H := unCover_hid H; obtain ⟨v14, x14, y14, z13, p13, k12, n12, p12, q12, o12, m12, l12, r12, t12⟩ := OCover.at_ M0.out c14; obtain rfl := Option.some.inj (i14.out.symm.trans p13); subst z13; have w14 := cell_lt k12; replace k12 := cell_below w10.out k12; replace n12 := cell_below w10.out n12; replace p12 := cell_below w10.out p12; replace q12 := cell_below w10.out q12; replace o12 := cell_below w10.out o12; replace m12 := cell_below w10.out m12; replace l12 := cell_below w10.out l12; replace r12 := cell_below w10.out r12; replace t12 := cell_below w10.out t12; clear p13; have j14 : (0 : Int) ≤ (k0 : Int) := (by omega); have p14 : (k0 : Int) < ((list.length : Nat) : Int) := (by omega); have s14 : ((k0 : Int)).toNat = k0 := (by omega); obtain ⟨a10, x10⟩ : ∃ x, wr0.alloc (.cells #[.int .i64 z11, .int .i64 b12, .int .i64 j12, .int .i64 p11, .int .i64 l11, .int .i64 i11, .int .i64 x11, .int .i64 g12, .int .i64 e12] 27) = x := ⟨_, rfl⟩; have v10 : Below wr0.heap.size wr0 a10 := (by rw [← x10]; exact (Below.refl _ _).alloc (Nat.le_refl _) _); have t10 := Lib.hid (Below.step w10.out v10); have k10 := cell_below v10 k12; have l10 := cell_below v10 n12; have q10 := cell_below v10 p12; have m10 := cell_below v10 q12; have j10 := cell_below v10 o12; have b10 := cell_below v10 m12; have c10 := cell_below v10 l12; have o10 := cell_below v10 r12; have e10 := cell_below v10 t12; clear v10; have h10 : a10.cell? ⟨wr0.heap.size, 0, none⟩ = some (.int .i64 z11) := (by rw [← x10]; exact box_new _ _ _ 0 _ rfl); have g10 : a10.cell? ⟨wr0.heap.size, 1, none⟩ = some (.int .i64 b12) := (by rw [← x10]; exact box_new _ _ _ 1 _ rfl); have n10 : a10.cell? ⟨wr0.heap.size, 2, none⟩ = some (.int .i64 j12) := (by rw [← x10]; exact box_new _ _ _ 2 _ rfl); have d10 : a10.cell? ⟨wr0.heap.size, 3, none⟩ = some (.int .i64 p11) := (by rw [← x10]; exact box_new _ _ _ 3 _ rfl); have i10 : a10.cell? ⟨wr0.heap.size, 4, none⟩ = some (.int .i64 l11) := (by rw [← x10]; exact box_new _ _ _ 4 _ rfl); have r10 : a10.cell? ⟨wr0.heap.size, 5, none⟩ = some (.int .i64 i11) := (by rw [← x10]; exact box_new _ _ _ 5 _ rfl); have f10 : a10.cell? ⟨wr0.heap.size, 6, none⟩ = some (.int .i64 x11) := (by rw [← x10]; exact box_new _ _ _ 6 _ rfl); have p10 : a10.cell? ⟨wr0.heap.size, 7, none⟩ = some (.int .i64 g12) := (by rw [← x10]; exact box_new _ _ _ 7 _ rfl); have s10 : a10.cell? ⟨wr0.heap.size, 8, none⟩ = some (.int .i64 e12) := (by rw [← x10]; exact box_new _ _ _ 8 _ rfl); go_wp2_with fail; clear k12 n12 p12 q12 o12 m12 l12 r12 t12; have h11 := Lib.hid k10; replace k10 := cell_regrown k10; have f12 := Lib.hid l10; replace l10 := cell_regrown l10; have i12 := Lib.hid q10; replace q10 := cell_regrown q10; have r11 := Lib.hid m10; replace m10 := cell_regrown m10; have o11 := Lib.hid j10; replace j10 := cell_regrown j10; have n11 := Lib.hid b10; replace b10 := cell_regrown b10; have y11 := Lib.hid c10; replace c10 := cell_regrown c10; have v11 := Lib.hid o10; replace o10 := cell_regrown o10; have m11 := Lib.hid e10; replace e10 := cell_regrown e10; have w11 := Lib.hid h10; replace h10 := cell_regrown h10; have k11 := Lib.hid g10; replace g10 := cell_regrown g10; have d12 := Lib.hid n10; replace n10 := cell_regrown n10; have h12 := Lib.hid d10; replace d10 := cell_regrown d10; have j11 := Lib.hid i10; replace i10 := cell_regrown i10; have t11 := Lib.hid r10; replace r10 := cell_regrown r10; have s11 := Lib.hid f10; replace f10 := cell_regrown f10; have c12 := Lib.hid p10; replace p10 := cell_regrown p10; have q11 := Lib.hid s10; replace s10 := cell_regrown s10; replace H := bind_hid H
    obtain ⟨t_18, h14, H⟩ := H; have a12 : ∀ d os, Calls Try.prog 18 #[.agg #[.int .i64 z11, .int .i64 b12, .int .i64 j12, .int .i64 p11, .int .i64 l11, .int .i64 i11, .int .i64 x11, .int .i64 g12, .int .i64 e12]] (Go.Sort.grow (redrawn a10 d) os) fun e w'' => e = .returned (.bool t_18) ∧ ∃ p : Regrown, w'' = Go.Sort.grow (redrawn a10 p.d) p.os := fun d os => Calls.regrown_of (GiIsCover.C ((PCover.Cover.mk z11 b12 j12 p11 l11 i11 x11 g12 e12))  _    h14)
    cases t_18 with
    | false =>
     replace H := let_hid H; obtain ⟨t_19, x12, H⟩ := H; obtain rfl : t_19 = true := x12.symm; replace H := join_hid H; replace H := ite_t H; replace H := app_hid H; refine wp_region_quiet_below (by kernel_rfl) (by kernel_rfl) ?_
     repeat (go_big_quiet_step (first | (go_at_call 18; exact a12 _ _)))
     refine wpQuiet_nil ?_; intro Y6 hY6; replace hY6 := below_class hY6; clear a12; replace k10 := h11.out; clear h11; replace l10 := f12.out; clear f12; replace q10 := i12.out; clear i12; replace m10 := r11.out; clear r11; replace j10 := o11.out; clear o11; replace b10 := n11.out; clear n11; replace c10 := y11.out; clear y11; replace o10 := v11.out; clear v11; replace e10 := m11.out; clear m11; replace h10 := w11.out; clear w11; replace g10 := k11.out; clear k11; replace n10 := d12.out; clear d12; replace d10 := h12.out; clear h12; replace i10 := j11.out; clear j11; replace r10 := t11.out; clear t11; replace f10 := s11.out; clear s11; replace p10 := c12.out; clear c12; replace s10 := q11.out; clear q11; have HBY6 := Lib.hid (Below.step t10.out hY6); replace k10 := cell_below hY6 k10; replace l10 := cell_below hY6 l10; replace q10 := cell_below hY6 q10; replace m10 := cell_below hY6 m10; replace j10 := cell_below hY6 j10; replace b10 := cell_below hY6 b10; replace c10 := cell_below hY6 c10; replace o10 := cell_below hY6 o10; replace e10 := cell_below hY6 e10; replace h10 := cell_below hY6 h10; replace g10 := cell_below hY6 g10; replace n10 := cell_below hY6 n10; replace d10 := cell_below hY6 d10; replace i10 := cell_below hY6 i10; replace r10 := cell_below hY6 r10; replace f10 := cell_below hY6 f10; replace p10 := cell_below hY6 p10; replace s10 := cell_below hY6 s10; clear hY6; replace H := ite_t H; obtain rfl := ret_hid H; go_wp2_with fail; go_ret; exact ⟨rfl, HBY6.out⟩
    | true =>
     replace H := let_hid H; obtain ⟨t_19, x12, H⟩ := H; obtain rfl : t_19 = false := x12.symm; replace H := join_hid H; replace H := ite_f H; replace H := let_hid H; obtain ⟨t_22, q13, H⟩ := H; replace H := join_hid H
     cases t_22 with
     | false =>
      have e14 : ¬ (0 < k0) := (by have := of_decide_eq_false q13; omega); replace H := ite_f H; replace H := app_hid H; replace H := app_hid H; refine wp_region_quiet_below (by kernel_rfl) (by kernel_rfl) ?_
      repeat (go_big_quiet_step (first | (go_at_call 18; exact a12 _ _)))
      refine wpQuiet_nil ?_; intro Y6 hY6; replace hY6 := below_class hY6; clear a12; replace k10 := h11.out; clear h11; replace l10 := f12.out; clear f12; replace q10 := i12.out; clear i12; replace m10 := r11.out; clear r11; replace j10 := o11.out; clear o11; replace b10 := n11.out; clear n11; replace c10 := y11.out; clear y11; replace o10 := v11.out; clear v11; replace e10 := m11.out; clear m11; replace h10 := w11.out; clear w11; replace g10 := k11.out; clear k11; replace n10 := d12.out; clear d12; replace d10 := h12.out; clear h12; replace i10 := j11.out; clear j11; replace r10 := t11.out; clear t11; replace f10 := s11.out; clear s11; replace p10 := c12.out; clear c12; replace s10 := q11.out; clear q11; have HBY6 := Lib.hid (Below.step t10.out hY6); replace k10 := cell_below hY6 k10; replace l10 := cell_below hY6 l10; replace q10 := cell_below hY6 q10; replace m10 := cell_below hY6 m10; replace j10 := cell_below hY6 j10; replace b10 := cell_below hY6 b10; replace c10 := cell_below hY6 c10; replace o10 := cell_below hY6 o10; replace e10 := cell_below hY6 e10; replace h10 := cell_below hY6 h10; replace g10 := cell_below hY6 g10; replace n10 := cell_below hY6 n10; replace d10 := cell_below hY6 d10; replace i10 := cell_below hY6 i10; replace r10 := cell_below hY6 r10; replace f10 := cell_below hY6 f10; replace p10 := cell_below hY6 p10; replace s10 := cell_below hY6 s10; clear hY6; replace H := ite_f H; replace H := app_hid H; go_wp2_with fail
      go_roundg m0
      case measure => omega
      case rel => exact ⟨k0 + 1, by omega, by go_num, H, HBY6⟩
     | true =>
      have e14 : 0 < k0 := (by have := of_decide_eq_true q13; omega); replace H := ite_t H; replace H := bind_hid H; obtain ⟨t_26, v13, H⟩ := H; have v12 : ∀ d os, Calls Try.prog 68 #[.agg #[.int .i64 z11, .int .i64 b12, .int .i64 j12, .int .i64 p11, .int .i64 l11, .int .i64 i11, .int .i64 x11, .int .i64 g12, .int .i64 e12]] (Go.Sort.grow (redrawn a10 d) os) fun e w'' => e = .returned (.int .i64 t_26) ∧ ∃ p : Regrown, w'' = Go.Sort.grow (redrawn a10 p.d) p.os := fun d os => Calls.regrown_of (GiIdOfCover.C ((PCover.Cover.mk z11 b12 j12 p11 l11 i11 x11 g12 e12))  _    v13); replace H := let_hid H; obtain ⟨t_30, t14, H⟩ := H; replace H := idx_hid H; obtain ⟨s12, f14, a14, g14, w13, H⟩ := H; subst a14; obtain ⟨b13, i13, o13, z12, k13, e13, c13, r13, h13⟩ := f14; replace H := unCover_hid H; obtain ⟨r14, o14, k14, l13, y12, y10, d11, g11, a11, e11, b11, f11, c11, z10⟩ := OCover.at_ M0.out g14; obtain rfl := Option.some.inj (w13.out.symm.trans y12); simp only [Option.some.injEq, Addr.mk.injEq] at l13; obtain ⟨rfl, rfl, _⟩ := l13; have q14 := cell_lt y10; replace y10 := cell_below t10.out y10; replace d11 := cell_below t10.out d11; replace g11 := cell_below t10.out g11; replace a11 := cell_below t10.out a11; replace e11 := cell_below t10.out e11; replace b11 := cell_below t10.out b11; replace f11 := cell_below t10.out f11; replace c11 := cell_below t10.out c11; replace z10 := cell_below t10.out z10; clear y12; have m14 : (0 : Int) ≤ (s12 : Int) := (by omega); have n14 : (s12 : Int) < ((list.length : Nat) : Int) := (by omega); have z14 : ((s12 : Int)).toNat = s12 := (by omega); have f13 := Lib.hid y10; replace y10 := cell_regrown y10; have t13 := Lib.hid d11; replace d11 := cell_regrown d11; have a13 := Lib.hid g11; replace g11 := cell_regrown g11; have j13 := Lib.hid a11; replace a11 := cell_regrown a11; have n13 := Lib.hid e11; replace e11 := cell_regrown e11; have m13 := Lib.hid b11; replace b11 := cell_regrown b11; have g13 := Lib.hid f11; replace f11 := cell_regrown f11; have d13 := Lib.hid c11; replace c11 := cell_regrown c11; have s13 := Lib.hid z10; replace z10 := cell_regrown z10; replace H := bind_hid H; obtain ⟨t_33, y13, H⟩ := H; have w12 : ∀ d os, Calls Try.prog 68 #[.agg #[.int .i64 b13, .int .i64 i13, .int .i64 o13, .int .i64 z12, .int .i64 k13, .int .i64 e13, .int .i64 c13, .int .i64 r13, .int .i64 h13]] (Go.Sort.grow (redrawn a10 d) os) fun e w'' => e = .returned (.int .i64 t_33) ∧ ∃ p : Regrown, w'' = Go.Sort.grow (redrawn a10 p.d) p.os := fun d os => Calls.regrown_of (GiIdOfCover.C ((PCover.Cover.mk b13 i13 o13 z12 k13 e13 c13 r13 h13))  _    y13); replace H := let_hid H; obtain ⟨t_34, l14, H⟩ := H; replace H := app_hid H; replace H := app_hid H; refine wp_region_quiet_below (by kernel_rfl) (by kernel_rfl) ?_
      repeat (go_big_quiet_step (first | (go_at_call 68; with_reducible exact v12 _ _) | (go_at_call 68; with_reducible exact w12 _ _) | (go_at_call 18; exact a12 _ _) | (go_at_call 68; exact v12 _ _) | (go_at_call 68; exact w12 _ _)))
      refine wpQuiet_nil ?_; intro Y6 hY6; replace hY6 := below_class hY6; clear a12 v12 w12; replace k10 := h11.out; clear h11; replace l10 := f12.out; clear f12; replace q10 := i12.out; clear i12; replace m10 := r11.out; clear r11; replace j10 := o11.out; clear o11; replace b10 := n11.out; clear n11; replace c10 := y11.out; clear y11; replace o10 := v11.out; clear v11; replace e10 := m11.out; clear m11; replace h10 := w11.out; clear w11; replace g10 := k11.out; clear k11; replace n10 := d12.out; clear d12; replace d10 := h12.out; clear h12; replace i10 := j11.out; clear j11; replace r10 := t11.out; clear t11; replace f10 := s11.out; clear s11; replace p10 := c12.out; clear c12; replace s10 := q11.out; clear q11; replace y10 := f13.out; clear f13; replace d11 := t13.out; clear t13; replace g11 := a13.out; clear a13; replace a11 := j13.out; clear j13; replace e11 := n13.out; clear n13; replace b11 := m13.out; clear m13; replace f11 := g13.out; clear g13; replace c11 := d13.out; clear d13; replace z10 := s13.out; clear s13; have HBY6 := Lib.hid (Below.step t10.out hY6); replace k10 := cell_below hY6 k10; replace l10 := cell_below hY6 l10; replace q10 := cell_below hY6 q10; replace m10 := cell_below hY6 m10; replace j10 := cell_below hY6 j10; replace b10 := cell_below hY6 b10; replace c10 := cell_below hY6 c10; replace o10 := cell_below hY6 o10; replace e10 := cell_below hY6 e10; replace h10 := cell_below hY6 h10; replace g10 := cell_below hY6 g10; replace n10 := cell_below hY6 n10; replace d10 := cell_below hY6 d10; replace i10 := cell_below hY6 i10; replace r10 := cell_below hY6 r10; replace f10 := cell_below hY6 f10; replace p10 := cell_below hY6 p10; replace s10 := cell_below hY6 s10; replace y10 := cell_below hY6 y10; replace d11 := cell_below hY6 d11; replace g11 := cell_below hY6 g11; replace a11 := cell_below hY6 a11; replace e11 := cell_below hY6 e11; replace b11 := cell_below hY6 b11; replace f11 := cell_below hY6 f11; replace c11 := cell_below hY6 c11; replace z10 := cell_below hY6 z10; clear hY6
      cases t_34 with
      | false =>
       replace H := ite_f H; replace H := app_hid H; go_wp2_with fail
       go_roundg m0
       case measure => omega
       case rel => exact ⟨k0 + 1, by omega, by go_num, H, HBY6⟩
      | true =>
       replace H := ite_t H; obtain rfl := ret_hid H; go_wp2_with fail; go_ret; exact ⟨rfl, HBY6.out⟩
 | true =>
  replace H := ite_t H; obtain rfl := ret_hid H; go_wp2_with fail; go_ret; exact ⟨rfl, HB.out⟩
end Go.Proofs.Ytgbcdmlcmnaimaa.GiAreByKeyCoverIntiIsCoveriIdOfCover

namespace Go.Proofs.Ytgbcdmlcmnaimaa.GiAreCovers
open Go.RowKit
open Go.Proofs.Ytgbcdmlcmnaimaa.Rowed Go.Proofs.Ytgbcdmlcmnaimaa.Turn Go.Proofs.Ytgbcdmlcmnaimaa.Aid Go.Proofs.Ytgbcdmlcmnaimaa.GoP Go.Proofs.Ytgbcdmlcmnaimaa.GoM

def P (list : (List Go.Proofs.Ytgbcdmlcmnaimaa.PCover.Cover)) : Option (Bool) :=
  Option.bind (Go.Proofs.Ytgbcdmlcmnaimaa.GiAreByKeyCoverIntiIsCoveriIdOfCover.P list 10) fun (t_2 : Bool) =>
  some t_2

set_option maxRecDepth 100000 in
set_option maxHeartbeats 2000000 in
theorem C (list : (List Go.Proofs.Ytgbcdmlcmnaimaa.PCover.Cover)) (A0 : Option Addr) (c0 : Nat)  (w : World) (M0 : Hid (Cells w 9 A0 list.length (Go.Proofs.Ytgbcdmlcmnaimaa.PCover.flat list))) (N0 : Hid (list.length ≤ 9223372036854775807))  {r : Bool} (H : Hid (P list = some r)) :
    Calls Try.prog 26 #[.slice A0 list.length c0] w (Gives (.bool r) w) := by
  have HB := Lib.hid (Below.refl w.heap.size w)
  unfold P at H
  have N0o := N0.out
  go_enter Try.func26, Try.ntmps26
  replace H := bind_hid H
  obtain ⟨t_2, qt_2, H⟩ := H
  go_wp2_with fail
  go_at_call 70
  refine (Go.Proofs.Ytgbcdmlcmnaimaa.GiAreByKeyCoverIntiIsCoveriIdOfCover.C (list) (10) A0 c0 _   (Lib.hid (Cells.below M0.out HB.out)) N0 qt_2).mono ?_
  rintro e_t_2 wt_2 ⟨rfl, bt_2⟩
  have HBwt_2 := Lib.hid (Below.step HB.out bt_2)
  clear bt_2
  obtain rfl := ret_hid H
  go_wp2_with fail
  go_ret
  exact ⟨rfl, HBwt_2.out⟩
end Go.Proofs.Ytgbcdmlcmnaimaa.GiAreCovers

namespace Go.Proofs.Ytgbcdmlcmnaimaa.GsL10Good
open Go.RowKit
open Go.Proofs.Ytgbcdmlcmnaimaa.Rowed Go.Proofs.Ytgbcdmlcmnaimaa.Turn Go.Proofs.Ytgbcdmlcmnaimaa.Aid Go.Proofs.Ytgbcdmlcmnaimaa.GoP Go.Proofs.Ytgbcdmlcmnaimaa.GoM

def l0 (list : (List PCover.Cover)) (k0 : Nat) (s : Unit) (nx0 bk0 : Unit → Option (Bool)) : Option (Bool) :=
 
 Option.bind (idx list (k0 : Int)) fun (yt_8 : PCover.Cover) =>
 unCover yt_8 fun (t_8_id : Int) (t_8_day : Int) (t_8_zone : Int) (t_8_grams : Int) (t_8_paid : Int) (t_8_from_ : Int) (t_8_to_ : Int) (t_8_leave : Int) (t_8_arrive : Int) =>
 Option.bind (GsL10One.P (PCover.Cover.mk t_8_id t_8_day t_8_zone t_8_grams t_8_paid t_8_from_ t_8_to_ t_8_leave t_8_arrive)) fun (t_10 : Bool) =>
 letK (!t_10) fun (t_11 : Bool) =>
 joinK (fun (t_29 : Bool) =>
 iteK t_29
 (some false)
 (appK nx0 ())) fun jt_29 => iteK t_11 (appK jt_29 true) (letK (decide (0 < (k0 : Int))) fun (t_14 : Bool) =>
 joinK (fun (t_28 : Bool) =>
 appK jt_29 t_28) fun jt_28 => iteK t_14 (letK (IntKind.i64.wrap ((k0 : Int) - 1)) fun (t_18 : Int) =>
 Option.bind (idx list t_18) fun (yt_19 : PCover.Cover) =>
 unCover yt_19 fun (t_19_id : Int) (t_19_day : Int) (t_19_zone : Int) (t_19_grams : Int) (t_19_paid : Int) (t_19_from_ : Int) (t_19_to_ : Int) (t_19_leave : Int) (t_19_arrive : Int) =>
 Option.bind (idx list (k0 : Int)) fun (yt_24 : PCover.Cover) =>
 unCover yt_24 fun (t_24_id : Int) (t_24_day : Int) (t_24_zone : Int) (t_24_grams : Int) (t_24_paid : Int) (t_24_from_ : Int) (t_24_to_ : Int) (t_24_leave : Int) (t_24_arrive : Int) =>
 letK (decide (t_24_id ≤ t_19_id)) fun (t_27 : Bool) =>
 appK jt_28 t_27) (appK jt_28 false))

def e0 (list : (List PCover.Cover)) (s : Unit) : Option (Bool) :=
 
 letK (decide ((list.length : Int) ≤ 10)) fun (t_36 : Bool) =>
 some t_36

def P (list : (List PCover.Cover)) : Option (Bool) :=
 cntK (l0 list) (list.length) 0 () (e0 list)

set_option maxRecDepth 100000 in
set_option maxHeartbeats 2000000 in
theorem C (list : (List PCover.Cover)) (A0 : Option Addr) (c0 : Nat)  (w : World) (M0 : Hid (Cells w 9 A0 list.length (PCover.flat list))) (N0 : Hid (list.length ≤ 9223372036854775807))  {r : Bool} (H : Hid (P list = some r)) :
  Calls Try.prog 69 #[.slice A0 list.length c0] w (Gives (.bool r) w) := by
 have HB := Lib.hid (Below.refl w.heap.size w); unfold P at H; have N0o := N0.out
 go_enter Try.func69, Try.ntmps69
 go_wp2_with fail; go_loopg [3] (list.length) (fun m_ v3_ wr => ∃ (k0 : Nat) , k0 + m_ = list.length ∧ v3_ = .int .i64 (k0 : Int) ∧ Hid (cntK (l0 list) m_ k0 () (e0 list) = some r) ∧ Hid (Below w.heap.size w wr))
 case atStart => exact ⟨0, by omega, rfl, H, HB⟩
 case round =>
  obtain ⟨k0, hkm0, rfl, H, a10⟩ := hrel; rename World => wr0
  cases gk with
  | zero =>
   obtain rfl : k0 = list.length := (by omega); have hc0 : decide (((list.length : Nat) : Int) < ((list.length : Nat) : Int)) = false := (by simp); replace H := cnt_zero H; unfold e0 at H; replace H := let_hid H; obtain ⟨t_36, p12, H⟩ := H; obtain rfl := ret_hid H; go_wp2_with fail; go_ret; exact ⟨rfl, a10.out⟩
  | succ m0 =>
   have hlt0 : k0 < list.length := (by omega); have hc0 : decide ((k0 : Int) < ((list.length : Nat) : Int)) = true := (by simp; omega); replace H := cnt_succ H; unfold l0 at H; go_wp2_with fail; replace H := idx_hid H; obtain ⟨nt_8, yt_8, et_8, lt_8, gt_8, H⟩ := H; obtain rfl : k0 = nt_8 := (by omega); clear et_8; obtain ⟨o11, w11, j11, y11, l11, v11, x11, b12, n11⟩ := yt_8; replace H := unCover_hid H; obtain ⟨m13, x12, zt_8, At_8, m11, b10, g10, d10, e10, c10, h10, i10, f10, j10⟩ := OCover.at_ M0.out lt_8; obtain rfl := Option.some.inj (gt_8.out.symm.trans m11); subst At_8; have q12 := cell_lt b10; replace b10 := cell_below a10.out b10; replace g10 := cell_below a10.out g10; replace d10 := cell_below a10.out d10; replace e10 := cell_below a10.out e10; replace c10 := cell_below a10.out c10; replace h10 := cell_below a10.out h10; replace i10 := cell_below a10.out i10; replace f10 := cell_below a10.out f10; replace j10 := cell_below a10.out j10; clear m11; have i13 : (0 : Int) ≤ (k0 : Int) := (by omega); have t12 : (k0 : Int) < ((list.length : Nat) : Int) := (by omega); have o12 : ((k0 : Int)).toNat = k0 := (by omega); have d11 := Lib.hid b10; replace b10 := cell_regrown b10; have v10 := Lib.hid g10; replace g10 := cell_regrown g10; have c11 := Lib.hid d10; replace d10 := cell_regrown d10; have t10 := Lib.hid e10; replace e10 := cell_regrown e10; have y10 := Lib.hid c10; replace c10 := cell_regrown c10; have z10 := Lib.hid h10; replace h10 := cell_regrown h10; have x10 := Lib.hid i10; replace i10 := cell_regrown i10; have b11 := Lib.hid f10; replace f10 := cell_regrown f10; have a11 := Lib.hid j10; replace j10 := cell_regrown j10; replace H := bind_hid H; obtain ⟨t_10, i12, H⟩ := H; have w10 : ∀ d os, Calls Try.prog 41 #[.agg #[.int .i64 o11, .int .i64 w11, .int .i64 j11, .int .i64 y11, .int .i64 l11, .int .i64 v11, .int .i64 x11, .int .i64 b12, .int .i64 n11]] (Go.Sort.grow (redrawn wr0 d) os) fun e w'' => e = .returned (.bool t_10) ∧ ∃ p : Regrown, w'' = Go.Sort.grow (redrawn wr0 p.d) p.os := fun d os => Calls.regrown_of (GsL10One.C ((PCover.Cover.mk o11 w11 j11 y11 l11 v11 x11 b12 n11))  _    i12)
   cases t_10 with
   | false =>
    replace H := let_hid H; obtain ⟨t_11, f11, H⟩ := H; obtain rfl : t_11 = true := f11.symm; replace H := join_hid H; replace H := ite_t H; replace H := app_hid H; refine wp_region_quiet_below (by kernel_rfl) (by kernel_rfl) ?_
    repeat (go_big_quiet_step (first | (go_at_call 41; exact w10 _ _)))
    refine wpQuiet_nil ?_; intro Y4 hY4; replace hY4 := below_class hY4; clear w10; replace b10 := d11.out; clear d11; replace g10 := v10.out; clear v10; replace d10 := c11.out; clear c11; replace e10 := t10.out; clear t10; replace c10 := y10.out; clear y10; replace h10 := z10.out; clear z10; replace i10 := x10.out; clear x10; replace f10 := b11.out; clear b11; replace j10 := a11.out; clear a11; have HBY4 := Lib.hid (Below.step a10.out hY4); replace b10 := cell_below hY4 b10; replace g10 := cell_below hY4 g10; replace d10 := cell_below hY4 d10; replace e10 := cell_below hY4 e10; replace c10 := cell_below hY4 c10; replace h10 := cell_below hY4 h10; replace i10 := cell_below hY4 i10; replace f10 := cell_below hY4 f10; replace j10 := cell_below hY4 j10; clear hY4; replace H := ite_t H; obtain rfl := ret_hid H; go_wp2_with fail; go_ret; exact ⟨rfl, HBY4.out⟩
   | true =>
    replace H := let_hid H; obtain ⟨t_11, f11, H⟩ := H; obtain rfl : t_11 = false := f11.symm; replace H := join_hid H; replace H := ite_f H; replace H := let_hid H; obtain ⟨t_14, z11, H⟩ := H; replace H := join_hid H
    cases t_14 with
    | false =>
     have e12 : ¬ (0 < k0) := (by have := of_decide_eq_false z11; omega); replace H := ite_f H; replace H := app_hid H; replace H := app_hid H; refine wp_region_quiet_below (by kernel_rfl) (by kernel_rfl) ?_
     repeat (go_big_quiet_step (first | (go_at_call 41; exact w10 _ _)))
     refine wpQuiet_nil ?_; intro Y4 hY4; replace hY4 := below_class hY4; clear w10; replace b10 := d11.out; clear d11; replace g10 := v10.out; clear v10; replace d10 := c11.out; clear c11; replace e10 := t10.out; clear t10; replace c10 := y10.out; clear y10; replace h10 := z10.out; clear z10; replace i10 := x10.out; clear x10; replace f10 := b11.out; clear b11; replace j10 := a11.out; clear a11; have HBY4 := Lib.hid (Below.step a10.out hY4); replace b10 := cell_below hY4 b10; replace g10 := cell_below hY4 g10; replace d10 := cell_below hY4 d10; replace e10 := cell_below hY4 e10; replace c10 := cell_below hY4 c10; replace h10 := cell_below hY4 h10; replace i10 := cell_below hY4 i10; replace f10 := cell_below hY4 f10; replace j10 := cell_below hY4 j10; clear hY4; replace H := ite_f H; replace H := app_hid H; go_wp2_with fail
     go_roundg m0
     case measure => omega
     case rel => exact ⟨k0 + 1, by omega, by go_num, H, HBY4⟩
    | true =>
     have e12 : 0 < k0 := (by have := of_decide_eq_true z11; omega); replace H := ite_t H; replace H := let_hid H; obtain ⟨t_18, w12, H⟩ := H; replace H := idx_hid H; obtain ⟨e11, h12, l12, f12, m12, H⟩ := H; subst l12; obtain ⟨b13, c13, v12, r12, f13, d13, j13, a13, h13⟩ := h12; replace H := unCover_hid H; obtain ⟨e13, z12, g13, c12, k11, k10, o10, l10, m10, r10, p10, q10, s10, n10⟩ := OCover.at_ M0.out f12; obtain rfl := Option.some.inj (m12.out.symm.trans k11); simp only [Option.some.injEq, Addr.mk.injEq] at c12; obtain ⟨rfl, rfl, _⟩ := c12; have s12 := cell_lt k10; replace k10 := cell_below a10.out k10; replace o10 := cell_below a10.out o10; replace l10 := cell_below a10.out l10; replace m10 := cell_below a10.out m10; replace r10 := cell_below a10.out r10; replace p10 := cell_below a10.out p10; replace q10 := cell_below a10.out q10; replace s10 := cell_below a10.out s10; replace n10 := cell_below a10.out n10; clear k11; have l13 : (0 : Int) ≤ (e11 : Int) := (by omega); have n12 : (e11 : Int) < ((list.length : Nat) : Int) := (by omega); have k13 : ((e11 : Int)).toNat = e11 := (by omega); have s11 := Lib.hid k10; replace k10 := cell_regrown k10; have r11 := Lib.hid o10; replace o10 := cell_regrown o10; have i11 := Lib.hid l10; replace l10 := cell_regrown l10; have h11 := Lib.hid m10; replace m10 := cell_regrown m10; have q11 := Lib.hid r10; replace r10 := cell_regrown r10; have t11 := Lib.hid p10; replace p10 := cell_regrown p10; have p11 := Lib.hid q10; replace q10 := cell_regrown q10; have g11 := Lib.hid s10; replace s10 := cell_regrown s10; have a12 := Lib.hid n10; replace n10 := cell_regrown n10; replace H := idx_hid H; obtain ⟨k12, y12, g12, j12, d12, H⟩ := H; obtain rfl : k0 = k12 := (by omega); clear g12; obtain rfl := Option.some.inj (gt_8.out.symm.trans d12.out); clear d12 j12; replace H := unCover_hid H; replace H := let_hid H; obtain ⟨t_27, n13, H⟩ := H; replace H := app_hid H; replace H := app_hid H; refine wp_region_quiet_below (by kernel_rfl) (by kernel_rfl) ?_
     repeat (go_big_quiet_step (first | (go_at_call 41; exact w10 _ _)))
     refine wpQuiet_nil ?_; intro Y4 hY4; replace hY4 := below_class hY4; clear w10; replace b10 := d11.out; clear d11; replace g10 := v10.out; clear v10; replace d10 := c11.out; clear c11; replace e10 := t10.out; clear t10; replace c10 := y10.out; clear y10; replace h10 := z10.out; clear z10; replace i10 := x10.out; clear x10; replace f10 := b11.out; clear b11; replace j10 := a11.out; clear a11; replace k10 := s11.out; clear s11; replace o10 := r11.out; clear r11; replace l10 := i11.out; clear i11; replace m10 := h11.out; clear h11; replace r10 := q11.out; clear q11; replace p10 := t11.out; clear t11; replace q10 := p11.out; clear p11; replace s10 := g11.out; clear g11; replace n10 := a12.out; clear a12; have HBY4 := Lib.hid (Below.step a10.out hY4); replace b10 := cell_below hY4 b10; replace g10 := cell_below hY4 g10; replace d10 := cell_below hY4 d10; replace e10 := cell_below hY4 e10; replace c10 := cell_below hY4 c10; replace h10 := cell_below hY4 h10; replace i10 := cell_below hY4 i10; replace f10 := cell_below hY4 f10; replace j10 := cell_below hY4 j10; replace k10 := cell_below hY4 k10; replace o10 := cell_below hY4 o10; replace l10 := cell_below hY4 l10; replace m10 := cell_below hY4 m10; replace r10 := cell_below hY4 r10; replace p10 := cell_below hY4 p10; replace q10 := cell_below hY4 q10; replace s10 := cell_below hY4 s10; replace n10 := cell_below hY4 n10; clear hY4
     cases t_27 with
     | false =>
      replace H := ite_f H; replace H := app_hid H; go_wp2_with fail
      go_roundg m0
      case measure => omega
      case rel => exact ⟨k0 + 1, by omega, by go_num, H, HBY4⟩
     | true =>
      replace H := ite_t H; obtain rfl := ret_hid H; go_wp2_with fail; go_ret; exact ⟨rfl, HBY4.out⟩
end Go.Proofs.Ytgbcdmlcmnaimaa.GsL10Good

namespace Go.Proofs.Ytgbcdmlcmnaimaa.Q10Cover
open Go.RowKit
open Go.Proofs.Ytgbcdmlcmnaimaa.GoP Go.Proofs.Ytgbcdmlcmnaimaa.PlainStamp Go.Proofs.Ytgbcdmlcmnaimaa.QBase Go.Proofs.Ytgbcdmlcmnaimaa.Q8Rate Go.Proofs.Ytgbcdmlcmnaimaa.Q9Mail Go.Proofs.Ytgbcdmlcmnaimaa.QLoop Go.Proofs.Ytgbcdmlcmnaimaa.PCover

def okC (x : Cover) : Bool := inB x.id 1 999 && inB x.day 0 4000 && inB x.zone 0 9 && inB x.grams 1 2000 && inB x.paid 1 9999 && inB x.from_ 0 9 && inB x.to_ 0 9 && (x.from_ != x.to_) && inB x.leave 0 9999 && inB x.arrive 0 9999 && decide (x.leave ≤ x.arrive)
theorem isCover_eq (x : Cover) : GiIsCover.P x = some (okC x) := by
  obtain ⟨a, b, c, d, e, f, g, h, i⟩ := x
  simp only [GiIsCover.P, unCover, within_eq, isDay_eq, isZone_eq, isWeight_eq, isRateCents_eq, isOffice_eq, isMinute_eq, Option.bind_some, letK, joinK, appK, iteK_if, okC]
  cases inB a 1 999 <;> cases inB b 0 4000 <;> cases inB c 0 9 <;> cases inB d 1 2000 <;> cases inB e 1 9999 <;> cases inB f 0 9 <;> cases inB g 0 9 <;> simp
  all_goals by_cases hfg : f = g <;> cases inB h 0 9999 <;> cases inB i 0 9999 <;> simp [hfg]
theorem l10One_eq (x : Cover) : GsL10One.P x = some (okC x) := by
  obtain ⟨a, b, c, d, e, f, g, h, i⟩ := x
  have hh : inB h 0 i = (inB h 0 9999 && inB i 0 9999 && decide (h ≤ i)) ∨ inB i 0 9999 = false := by
    unfold inB
    by_cases hi : 0 ≤ i ∧ i ≤ 9999
    · left; rw [Bool.eq_iff_iff]; simp; omega
    · right; simp; omega
  simp only [GsL10One.P, unCover, l1In_eq, l2Day_eq, l8Zone_eq, l8Grams_eq, l8Cents_eq, l9Office_eq, l9Minute_eq, Option.bind_some, letK, joinK, appK, iteK_if, okC]
  cases inB a 1 999 <;> cases inB b 0 4000 <;> cases inB c 0 9 <;> cases inB d 1 2000 <;> cases inB e 1 9999 <;> cases inB f 0 9 <;> cases inB g 0 9 <;> simp
  all_goals
    by_cases hfg : f = g
    · simp [hfg]
    · rcases hh with hh | hh
      · rw [hh]; cases inB h 0 9999 <;> cases inB i 0 9999 <;> simp [hfg]
      · simp [hh]
theorem okC_of {x : Cover} (h : okC x = true) : (1 ≤ x.id ∧ x.id ≤ 999) ∧ (0 ≤ x.day ∧ x.day ≤ 4000) ∧ (1 ≤ x.paid ∧ x.paid ≤ 9999) ∧ (0 ≤ x.from_ ∧ x.from_ ≤ 9) ∧ (0 ≤ x.to_ ∧ x.to_ ≤ 9) ∧ x.from_ ≠ x.to_ ∧ (0 ≤ x.leave ∧ x.leave ≤ x.arrive ∧ x.arrive ≤ 9999) := by
  simp only [okC, Bool.and_eq_true, decide_eq_true_eq, bne_iff_ne] at h
  obtain ⟨⟨⟨⟨⟨⟨⟨⟨⟨⟨h1, h2⟩, h3⟩, h4⟩, h5⟩, h6⟩, h7⟩, h8⟩, h9⟩, h10⟩, h11⟩ := h
  have := inB_of h1; have := inB_of h2; have := inB_of h5; have := inB_of h6; have := inB_of h7; have := inB_of h9; have := inB_of h10
  refine ⟨by omega, by omega, by omega, by omega, by omega, h8, by omega⟩
def okCs (l : List Cover) : Bool := upL 10 okC Cover.id l
theorem areCovers_eq (l : List Cover) : GiAreCovers.P l = some (okCs l) := by
  simp only [GiAreCovers.P, GiAreByKeyCoverIntiIsCoveriIdOfCover.P, letK, iteK_if]
  by_cases hl : l.length ≤ 10
  · rw [if_neg (by simp; omega), up_loop (ok := okC) (id := Cover.id) (no := false)]
    · unfold okCs upL; cases upTo okC Cover.id l l.length <;> simp [hl, GiAreByKeyCoverIntiIsCoveriIdOfCover.e0]
    · intro k nx s hs
      have hi : idx l (k : Int) = some s := by rw [idx_nat, hs]
      have hk : k < l.length := (List.getElem?_eq_some_iff.1 hs).1
      simp only [GiAreByKeyCoverIntiIsCoveriIdOfCover.l0, hi, Option.bind_some, unCover, isCover_eq, GiIdOfCover.P, letK, joinK, appK, iteK_if]
      refine ⟨fun h => by simp [h], fun h => ⟨fun h0 => by subst h0; simp [h], fun h0 r hr => ?_⟩⟩
      rw [idx_pred h0 (by omega) hr]
      have hk0 : (0 : Int) < (k : Int) := by omega
      have hk1 : ¬ k = 0 := by omega
      exact ⟨fun hlt => by (have hc : ¬ s.id ≤ r.id := by omega); simp [h, hk0, hk1, hc], fun hge => by simp [h, hk0, hk1, hge]⟩
  · rw [if_pos (by simp; omega)]; unfold okCs upL; simp [hl]
theorem l10Good_eq (l : List Cover) (hl : l.length ≤ 9223372036854775807) : GsL10Good.P l = some (okCs l) := by
  simp only [GsL10Good.P]
  rw [up_loop (ok := okC) (id := Cover.id) (no := false)]
  · unfold okCs upL; cases upTo okC Cover.id l l.length <;> simp [GsL10Good.e0, letK]; omega
  · intro k nx s hs
    have hi : idx l (k : Int) = some s := by rw [idx_nat, hs]
    have hk : k < l.length := (List.getElem?_eq_some_iff.1 hs).1
    simp only [GsL10Good.l0, hi, Option.bind_some, unCover, l10One_eq, letK, joinK, appK, iteK_if]
    refine ⟨fun h => by simp [h], fun h => ⟨fun h0 => by subst h0; simp [h], fun h0 r hr => ?_⟩⟩
    rw [idx_pred h0 (by omega) hr]
    have hk0 : (0 : Int) < (k : Int) := by omega
    have hk1 : ¬ k = 0 := by omega
    exact ⟨fun hlt => by (have hc : ¬ s.id ≤ r.id := by omega); simp [h, hk0, hk1, hc], fun hge => by simp [h, hk0, hk1, hge]⟩
theorem cs_mem {l : List Cover} (h : okCs l = true) {x : Cover} (hx : x ∈ l) : okC x = true := upL_mem h hx
theorem cs_len {l : List Cover} (h : okCs l = true) : l.length ≤ 10 := upL_len h
end Go.Proofs.Ytgbcdmlcmnaimaa.Q10Cover

