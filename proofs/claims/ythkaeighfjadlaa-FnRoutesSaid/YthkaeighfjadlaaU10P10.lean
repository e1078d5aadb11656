/- Texts on which the proofs of several laws stand, one behind the other (10 of 11). No condition of their own. -/
import Derived.Test.YthkaeighfjadlaaU10P9
import Derived.Test.YthkaeighfjadlaaU10P1
import Derived.Test.YthkaeighfjadlaaU10P4
import Derived.Test.YthkaeighfjadlaaU10P2
import Derived.Test.YthkaeighfjadlaaU10P3
import Derived.Test.YthkaeighfjadlaaU10P6
import Derived.Test.YthkaeighfjadlaaU10P7
import Derived.Test.YthkaeighfjadlaaU10P8
import Derived.Test.YthkaeighfjadlaaU10P5
/- Chapter 9: mails and routes: the plain functions of the program and of the reference agree, and the laws answer true. (Q9Mail) No condition but those of each theorem. -/
namespace Go.Proofs.Ythkaeighfjadlaa.Q9Mail
set_option linter.unusedVariables false
set_option linter.unusedSimpArgs false
open Go.RowKit
open Go.Proofs.Ythkaeighfjadlaa.GoP Go.Proofs.Ythkaeighfjadlaa.PlainStamp Go.Proofs.Ythkaeighfjadlaa.QBase Go.Proofs.Ythkaeighfjadlaa.QCmp Go.Proofs.Ythkaeighfjadlaa.QLoop Go.Proofs.Ythkaeighfjadlaa.PMail

theorem isMinute_eq (n : Int) : GiIsMinute.P n = some (inB n 0 9999) := by simp only [GiIsMinute.P, within_eq, Option.bind_some]
theorem isOffice_eq (n : Int) : GiIsPostOffice.P n = some (inB n 0 9) := by simp only [GiIsPostOffice.P, within_eq, Option.bind_some]
theorem l9Office_eq (n : Int) : GsL9Office.P n = some (inB n 0 9) := by simp only [GsL9Office.P, l1In_eq, Option.bind_some]
theorem l9Minute_eq (n : Int) : GsL9Minute.P n = some (inB n 0 9999) := by simp only [GsL9Minute.P, l1In_eq, Option.bind_some]
def okM (x : Mail) : Bool := inB x.from_ 0 9 && inB x.to_ 0 9 && (x.from_ != x.to_) && inB x.leave 0 9999 && inB x.arrive 0 9999 && decide (x.leave < x.arrive)
theorem isMail_eq (x : Mail) : GiIsMail.P x = some (okM x) := by
  obtain ⟨a, b, c, d⟩ := x
  simp only [GiIsMail.P, unMail, isMinute_eq, isOffice_eq, Option.bind_some, letK, joinK, appK, iteK_if, okM]
  cases inB b 0 9 <;> cases inB c 0 9 <;> cases (b != c) <;> cases inB a 0 9999 <;> cases inB d 0 9999 <;> simp
theorem l9One_eq (x : Mail) : GsL9One.P x = some (okM x) := by
  obtain ⟨a, b, c, d⟩ := x
  have hx : (inB d 0 9999 && inB a 0 (d - 1)) = (inB a 0 9999 && inB d 0 9999 && decide (a < d)) := by unfold inB; rw [Bool.eq_iff_iff]; simp; omega
  have hy : okM ⟨a, b, c, d⟩ = (inB b 0 9 && inB c 0 9 && (b != c) && (inB d 0 9999 && inB a 0 (d - 1))) := by
    rw [hx]; unfold okM
    cases inB b 0 9 <;> cases inB c 0 9 <;> cases (b != c) <;> simp
  rw [hy]
  simp only [GsL9One.P, unMail, l9Office_eq, l9Minute_eq, l1In_eq, Option.bind_some, letK, joinK, appK, iteK_if]
  cases hd : inB d 0 9999 with
  | false => cases inB b 0 9 <;> cases inB c 0 9 <;> cases (b != c) <;> simp
  | true =>
    have h := inB_of hd
    rw [wrap_in (by omega) (by omega)]
    cases inB b 0 9 <;> cases inB c 0 9 <;> cases (b != c) <;> simp
theorem okM_of {x : Mail} (h : okM x = true) : (0 ≤ x.from_ ∧ x.from_ ≤ 9) ∧ (0 ≤ x.to_ ∧ x.to_ ≤ 9) ∧ x.from_ ≠ x.to_ ∧ (0 ≤ x.leave ∧ x.leave < x.arrive ∧ x.arrive ≤ 9999) := by
  unfold okM at h
  simp only [Bool.and_eq_true, decide_eq_true_eq, bne_iff_ne] at h
  have h1 := inB_of h.1.1.1.1.1
  have h2 := inB_of h.1.1.1.1.2
  have h3 := inB_of h.1.1.2
  have h4 := inB_of h.1.2
  exact ⟨h1, h2, h.1.1.1.2, h3.1, h.2, h4.2⟩
def codeM (x : Mail) : Int := ((x.leave * 10 + x.from_) * 10 + x.to_) * 10000 + x.arrive
def ltM (a b : Mail) : Bool := decide (codeM a < codeM b)
theorem code_eq {x : Mail} (h : okM x = true) : GsL9Code.P x = some (codeM x) := by
  obtain ⟨h1, h2, _, h3⟩ := okM_of h
  obtain ⟨a, b, c, d⟩ := x
  dsimp only at h1 h2 h3
  simp only [GsL9Code.P, unMail, letK, codeM]
  rw [wrap_in (x := a * 10) (by omega) (by omega), wrap_in (x := a * 10 + b) (by omega) (by omega), wrap_in (x := (a * 10 + b) * 10) (by omega) (by omega), wrap_in (x := (a * 10 + b) * 10 + c) (by omega) (by omega), wrap_in (x := ((a * 10 + b) * 10 + c) * 10000) (by omega) (by omega), wrap_in (by omega) (by omega)]
theorem compare_eq {a b : Mail} (ha : okM a = true) (hb : okM b = true) : ∃ c, GiCompareMails.P a b = some c ∧ (0 ≤ c ↔ codeM b ≤ codeM a) := by
  have h1 := okM_of ha
  have h2 := okM_of hb
  obtain ⟨a, x, c, y⟩ := a
  obtain ⟨a', x', c', y'⟩ := b
  dsimp only at h1 h2
  simp only [GiCompareMails.P, unMail, cmp_eq, Option.bind_some, letK, or_eq]
  refine ⟨_, rfl, ?_⟩
  unfold cmpI codeM
  dsimp only
  by_cases p1 : a < a'
  · simp [p1]; omega
  · by_cases p2 : a' < a
    · simp [p1, p2]; omega
    · obtain rfl : a = a' := by omega
      by_cases p3 : x < x'
      · simp [p3]; omega
      · by_cases p4 : x' < x
        · simp [p3, p4]; omega
        · obtain rfl : x = x' := by omega
          by_cases p5 : c < c'
          · simp [p5]; omega
          · by_cases p6 : c' < c
            · simp [p5, p6]; omega
            · obtain rfl : c = c' := by omega
              by_cases p7 : y < y'
              · simp [p7]
              · by_cases p8 : y' < y
                · simp [p7, p8]; omega
                · simp [p7, p8]; omega
end Go.Proofs.Ythkaeighfjadlaa.Q9Mail

/- What the named laws of mails draw: mails and timetables: the draws answer, within bounds. (Q9Draws2) No condition but those of each theorem. -/
namespace Go.Proofs.Ythkaeighfjadlaa.Q9Draws2
set_option linter.unusedVariables false
set_option linter.unusedSimpArgs false
open Go.RowKit
open Go.Proofs.Ythkaeighfjadlaa.GoP Go.Proofs.Ythkaeighfjadlaa.PlainStamp Go.Proofs.Ythkaeighfjadlaa.QBase Go.Proofs.Ythkaeighfjadlaa.Q9Draws Go.Proofs.Ythkaeighfjadlaa.Q9Mail Go.Proofs.Ythkaeighfjadlaa.QDraw Go.Proofs.Ythkaeighfjadlaa.QUp Go.Proofs.Ythkaeighfjadlaa.QAll Go.Proofs.Ythkaeighfjadlaa.QLoop Go.Proofs.Ythkaeighfjadlaa.PMail

theorem code_some (x : Mail) : ∃ c, GsL9Code.P x = some c := by obtain ⟨a, b, c, d⟩ := x; exact ⟨_, rfl⟩
abbrev St9 := List Mail × Int × GoC.Tape
abbrev Re9 := List Mail × GoC.Tape
/-- behind the search for the place: the mail is laid in, or not -/
theorem place9 {nx : St9 → Option Re9} {Q : Re9 → Prop} {l : List Mail} {n : Int} {x : Mail} {c : GoC.Tape} (hl : l.length ≤ 1000) (hn0 : 0 < n ∧ n ≤ 1000)
    (hn : ∀ l', l'.length ≤ l.length + 1 → ∃ r, nx (l', n - 1, c) = some r ∧ Q r) {k : Int} (hk : 0 ≤ k ∧ k ≤ (l.length : Int)) :
    ∃ r, GsL1CurTimetable.e1 nx l n x.leave x.from_ x.to_ x.arrive c k = some r ∧ Q r := by
  have hq : ∀ b, ∃ r, GsL1CurTimetable.q2 nx l n x.leave x.from_ x.to_ x.arrive c k b = some r ∧ Q r := by
    intro b
    simp only [GsL1CurTimetable.q2, letK, iteK_if]
    rw [wrap_in (by omega) (by omega)]
    cases b with
    | false =>
      rw [if_neg (by simp)]
      exact hn l (by omega)
    | true =>
      rw [if_pos rfl]
      rw [guardK_pos hk, guardK_pos (by simp; omega), guardK_pos (by simp; omega), guardK_pos hk, guardK_pos (by simp; omega)]
      exact hn _ (by simp; omega)
  simp only [GsL1CurTimetable.e1, letK, joinK, appK, iteK_if]
  by_cases h0 : k = 0
  · rw [if_pos (by simpa using h0)]; exact hq true
  · rw [if_neg (by simpa using h0), wrap_in (by omega) (by omega)]
    obtain ⟨y, _, hy⟩ := at_lt (l := l) (k := (k - 1).toNat) (by omega)
    rw [show (((k - 1).toNat : Nat) : Int) = k - 1 by omega] at hy
    rw [hy]
    exact hq _
theorem search9 {fuel : Nat} (hf : 1048577 ≤ fuel) {nx : St9 → Option Re9} {Q : Re9 → Prop} {l : List Mail} {n : Int} {x : Mail} {c : GoC.Tape} (hl : l.length ≤ 1000) (hn0 : 0 < n ∧ n ≤ 1000)
    (hn : ∀ l', l'.length ≤ l.length + 1 → ∃ r, nx (l', n - 1, c) = some r ∧ Q r) :
    ∃ r, loopK (GsL1CurTimetable.l1 l x.leave x.from_ x.to_ x.arrive) fuel (l.length : Int) (GsL1CurTimetable.e1 nx l n x.leave x.from_ x.to_ x.arrive c) = some r ∧ Q r := by
  refine lp_ex (n := l.length) (fun j (k : Int) => k = (l.length : Int) - (j : Int)) ?_ ?_ fuel 0 _ (by omega) (by omega) (by omega)
  · rintro j k nx1 hj rfl hn1
    have h0 : (0 : Int) < (l.length : Int) - (j : Int) := by omega
    simp only [GsL1CurTimetable.l1, letK, joinK, appK, iteK_if, decide_eq_true h0, if_true]
    rw [wrap_in (by omega) (by omega)]
    obtain ⟨y, _, hy⟩ := at_lt (l := l) (k := l.length - j - 1) (by omega)
    rw [show ((l.length - j - 1 : Nat) : Int) = (l.length : Int) - (j : Int) - 1 by omega] at hy
    obtain ⟨c1, h1⟩ := code_some y
    obtain ⟨c2, h2⟩ := code_some x
    have hye : Mail.mk y.leave y.from_ y.to_ y.arrive = y := rfl
    have hxe : Mail.mk x.leave x.from_ x.to_ x.arrive = x := rfl
    rw [hy]
    simp only [Option.bind_some, unMail, hye, hxe, h1, h2, GsL1CurTimetable.q1, letK, iteK_if, appK]
    rw [wrap_in (by omega) (by omega)]
    by_cases hc : c2 < c1
    · rw [if_pos (by simpa using hc)]; exact hn1 _ (by omega)
    · rw [if_neg (by simpa using hc)]; exact place9 hl hn0 hn (by omega)
  · rintro k nx1 rfl
    have h0 : ¬ (0 : Int) < (l.length : Int) - (l.length : Int) := by omega
    simp only [GsL1CurTimetable.l1, letK, joinK, appK, iteK_if, decide_eq_false h0, GsL1CurTimetable.q1, Bool.false_eq_true, if_false]
    exact place9 hl hn0 hn (by omega)
theorem more9 {fuel : Nat} (hf : 1048577 ≤ fuel) {m : Nat} (l : List Mail) (hl : l.length ≤ 21) {c : GoC.Tape} (h : good c (m + 50)) : ∃ r, loopK GsL1CurTimetable.l2 fuel (l, c) GsL1CurTimetable.e2 = some r ∧ (r.1.length ≤ 60 ∧ good r.2 m) := by
  refine lp_ex (n := 22) (fun k (s : Re9) => s.1.length = l.length + k ∧ good s.2 (m + 50 - 2 * k)) ?_ ?_ fuel 0 _ (by omega) (by omega) ⟨rfl, h⟩
  · rintro k ⟨o, c⟩ nx hk ⟨h1, h4⟩ hn
    dsimp only at h1 h4
    obtain ⟨x, c1, e, hx0, hx, _, hg⟩ := pick_ok (n := 2) (m := m + 48 - 2 * k) (good_less h4 (by omega))
    simp only [GsL1CurTimetable.l2, unp2, e, bind2_some, letK, iteK_if]
    rw [wrap_in (x := 20 + x) (by omega) (by omega)]
    by_cases hc : (o.length : Int) < 20 + x
    · rw [if_pos (by simpa using hc), guardK_pos (by omega)]
      exact hn _ ⟨by simp [h1]; omega, good_less hg (by omega)⟩
    · rw [if_neg (by simpa using hc)]
      exact ⟨_, rfl, by dsimp only; omega, good_less hg (by omega)⟩
  · rintro ⟨o, c⟩ nx ⟨h1, h4⟩
    dsimp only at h1 h4
    obtain ⟨x, c1, e, hx0, hx, _, hg⟩ := pick_ok (n := 2) (m := m) (good_less h4 (by omega))
    simp only [GsL1CurTimetable.l2, unp2, e, bind2_some, letK, iteK_if]
    rw [wrap_in (x := 20 + x) (by omega) (by omega), if_neg (by simp; omega)]
    exact ⟨_, rfl, by dsimp only; omega, hg⟩
theorem end9 {fuel : Nat} (hf : 1048577 ≤ fuel) {m : Nat} (l : List Mail) (n : Int) (hl : l.length ≤ 20) {c : GoC.Tape} (h : good c (m + 60)) : ∃ r, GsL1CurTimetable.e0 fuel (l, n, c) = some r ∧ (r.1.length ≤ 60 ∧ good r.2 m) := by
  obtain ⟨p, t1, e1, hp0, hp, _, h1⟩ := pick_ok (n := 32) (m := m + 58) h
  simp only [GsL1CurTimetable.e0, unp3, e1, bind2_some, letK, iteK_if]
  by_cases hp1 : p = 0
  · obtain ⟨x, t2, e2, h2⟩ := mail9_ok (m := m + 46) h1
    obtain ⟨a, b, c, d⟩ := x
    simp only [hp1, beq_self_eq_true, if_true, e2, bind2_some, unMail]
    rw [guardK_pos (by omega)]
    exact ⟨_, rfl, by simp; omega, good_less h2 (by omega)⟩
  · have hpb : (p == 0) = false := by simpa using hp1
    by_cases hp2 : p = 1
    · simp only [hp2, show ((1 : Int) == 0) = false from rfl, Bool.false_eq_true, if_false, beq_self_eq_true, if_true]
      exact more9 hf l (by omega) (good_less h1 (by omega))
    · have hpb2 : (p == 1) = false := by simpa using hp2
      simp only [hpb, hpb2, Bool.false_eq_true, if_false]
      exact ⟨_, rfl, by dsimp only; omega, good_less h1 (by omega)⟩
theorem time9_ok {t : GoC.Tape} {m : Nat} (fuel : Nat) (hf : 1048577 ≤ fuel) (h : good t (m + 300)) : ∃ l t', GsL1CurTimetable.P fuel t = some (l, t') ∧ l.length ≤ 60 ∧ good t' m := by
  obtain ⟨p, t1, e1, hp0, hp, _, h1⟩ := pick_ok (n := 10) (m := m + 298) h
  obtain ⟨⟨l, t'⟩, h1, h2⟩ : ∃ r : Re9, GsL1CurTimetable.P fuel t = some r ∧ (r.1.length ≤ 60 ∧ good r.2 m) := by
    simp only [GsL1CurTimetable.P, e1, bind2_some]
    refine lp_ex (n := p.toNat) (fun k (s : St9) => s.2.1 = p - (k : Int) ∧ s.1.length ≤ k ∧ good s.2.2 (m + 298 - 14 * k)) ?_ ?_ fuel 0 _ (by omega) (by omega) ⟨by simp, by simp, h1⟩
    · rintro k ⟨l, n, c⟩ nx hk ⟨g1, g2, g3⟩ hn
      dsimp only at g1 g2 g3
      subst g1
      have h0 : (0 : Int) < p - (k : Int) := by omega
      obtain ⟨x, t2, e2, h2⟩ := mail9_ok (m := m + 298 - 14 * k - 12) (good_less g3 (by omega))
      have hxe : Mail.mk x.leave x.from_ x.to_ x.arrive = x := rfl
      simp only [GsL1CurTimetable.l0, unp3, letK, decide_eq_true h0, iteK_if, if_true, e2, bind2_some, unMail, hxe, l9One_eq, Option.bind_some, joinK, appK]
      have hw : IntKind.i64.wrap (p - (k : Int) - 1) = p - (k : Int) - 1 := wrap_in (by omega) (by omega)
      have go : ∀ b c', good c' (m + 298 - 14 * (k + 1)) → ∃ r, GsL1CurTimetable.q0 fuel nx l (p - (k : Int)) x.leave x.from_ x.to_ x.arrive (b, c') = some r ∧ (r.1.length ≤ 60 ∧ good r.2 m) := by
        intro b c' hc'
        simp only [GsL1CurTimetable.q0, unp2, letK, iteK_if, hw]
        cases b with
        | true => rw [if_pos rfl]; exact hn _ ⟨by dsimp only; omega, by dsimp only; omega, hc'⟩
        | false =>
          rw [if_neg (by simp)]
          exact search9 hf (by omega) (by omega) (fun l' hl' => hn _ ⟨by dsimp only; omega, by dsimp only; omega, hc'⟩)
      by_cases hb : okM x = true
      · rw [if_neg (by simp [hb])]
        exact go _ _ (good_less h2 (by omega))
      · rw [if_pos (by simp [hb])]
        obtain ⟨b, t3, e3, h3⟩ := one_ok (n := 30) (m := m + 298 - 14 * k - 14) (good_less h2 (by omega))
        simp only [e3, bind2_some, unp2]
        exact go _ _ (good_less h3 (by omega))
    · rintro ⟨l, n, c⟩ nx ⟨g1, g2, g3⟩
      dsimp only at g1 g2 g3
      have h0 : ¬ (0 : Int) < n := by omega
      simp only [GsL1CurTimetable.l0, unp3, letK, decide_eq_false h0, iteK_if, Bool.false_eq_true, if_false, appK]
      exact end9 hf l n (by omega) (good_less g3 (by omega))
  exact ⟨l, t', h1, h2⟩
end Go.Proofs.Ythkaeighfjadlaa.Q9Draws2

/- Lists of valid records in strictly rising order of any kind; texts in the order of their bytes. (QOrd) No condition but those of each theorem. -/
namespace Go.Proofs.Ythkaeighfjadlaa.QOrd
set_option linter.unusedVariables false
set_option linter.unusedSimpArgs false
open Go.RowKit
open Go.Proofs.Ythkaeighfjadlaa.GoP Go.Proofs.Ythkaeighfjadlaa.PlainStamp Go.Proofs.Ythkaeighfjadlaa.QBase Go.Proofs.Ythkaeighfjadlaa.QLoop

/-- texts in the order of their bytes -/
def bl (a b : ByteArray) : Bool := Op.bytesLess a.toList b.toList
theorem bl_self' : ∀ x, Op.bytesLess x x = false
  | [] => rfl
  | a :: x => by
    have h1 : ¬ a < a := fun k => by rw [UInt8.lt_iff_toNat_lt] at k; omega
    simp [Op.bytesLess, h1, bl_self' x]
theorem bl_total' : ∀ x y, x ≠ y → Op.bytesLess x y = !(Op.bytesLess y x)
  | [], [], h => absurd rfl h
  | [], b :: y, _ => by simp [Op.bytesLess]
  | a :: x, [], _ => by simp [Op.bytesLess]
  | a :: x, b :: y, h => by
    by_cases hab : a = b
    · subst hab
      have h1 : ¬ a < a := fun k => by rw [UInt8.lt_iff_toNat_lt] at k; omega
      have := bl_total' x y (fun e => h (by rw [e]))
      simp [Op.bytesLess, h1, this]
    · have hne : a.toNat ≠ b.toNat := fun e => hab (UInt8.toNat_inj.1 e)
      by_cases hlt : a < b
      · have h2 : ¬ b < a := fun k => by rw [UInt8.lt_iff_toNat_lt] at k hlt; omega
        simp [Op.bytesLess, hlt, h2, Ne.symm hab]
      · have h2 : b < a := by rw [UInt8.lt_iff_toNat_lt] at hlt ⊢; omega
        simp [Op.bytesLess, hlt, h2, hab]
theorem bl_trans' : ∀ x y z, Op.bytesLess x y = true → Op.bytesLess y z = true → Op.bytesLess x z = true
  | [], _, [], h1, h2 => by rename_i y; cases y <;> simp [Op.bytesLess] at h1 h2
  | [], _, c :: z, _, _ => by simp [Op.bytesLess]
  | a :: x, [], _, h1, _ => by simp [Op.bytesLess] at h1
  | a :: x, b :: y, [], _, h2 => by simp [Op.bytesLess] at h2
  | a :: x, b :: y, c :: z, h1, h2 => by
    simp only [Op.bytesLess, Bool.or_eq_true, decide_eq_true_eq, Bool.and_eq_true, beq_iff_eq] at h1 h2 ⊢
    rcases h1 with h1 | ⟨rfl, h1⟩
    · rcases h2 with h2 | ⟨rfl, h2⟩
      · left; rw [UInt8.lt_iff_toNat_lt] at h1 h2 ⊢; omega
      · left; exact h1
    · rcases h2 with h2 | ⟨rfl, h2⟩
      · left; exact h2
      · right; exact ⟨rfl, bl_trans' x y z h1 h2⟩
theorem list_inj {a b : ByteArray} (h : a.toList = b.toList) : a = b := by
  rw [Lib.toList_data, Lib.toList_data] at h
  cases a; cases b; congr 1; exact Array.toList_inj.1 h
theorem bl_self (a : ByteArray) : bl a a = false := bl_self' _
theorem bl_total {a b : ByteArray} (h : a ≠ b) : bl a b = !(bl b a) := bl_total' _ _ (fun e => h (list_inj e))
theorem bl_trans {a b c : ByteArray} (h1 : bl a b = true) (h2 : bl b c = true) : bl a c = true := bl_trans' _ _ _ h1 h2
theorem bl_asymm {a b : ByteArray} (h : bl a b = true) : bl b a = false := by
  by_cases e : a = b
  · rw [e]; exact bl_self b
  · rw [bl_total e] at h; simpa using h
theorem bl_ne {a b : ByteArray} (h : bl a b = true) : a ≠ b := fun e => by rw [e, bl_self] at h; exact absurd h (by simp)
/-- 'not above', as the program asks it -/
theorem bl_le (a b : ByteArray) : (Op.bytesLess a.toList b.toList || a.toList == b.toList) = !(bl b a) := by
  by_cases e : a = b
  · subst e; rw [bl_self]; simp
  · have h1 : (a.toList == b.toList) = false := by rw [beq_eq_false_iff_ne]; exact fun h => e (list_inj h)
    rw [h1, Bool.or_false]; exact bl_total e
theorem bl_lt (a b : ByteArray) : Op.bytesLess a.toList b.toList = bl a b := rfl
theorem eq_list (a b : ByteArray) : (a.toList == b.toList) = decide (a = b) := by
  by_cases e : a = b
  · subst e; simp
  · rw [decide_eq_false e, beq_eq_false_iff_ne]; exact fun h => e (list_inj h)

/-- valid, and behind the one ahead of it -/
def riseAt {α : Type} (ok : α → Bool) (lt : α → α → Bool) (l : List α) (k : Nat) : Bool :=
  match l[k]? with
  | none => true
  | some s => ok s && (decide (k = 0) || (match l[k-1]? with | none => true | some r => lt r s))
def riseTo {α : Type} (ok : α → Bool) (lt : α → α → Bool) (l : List α) (k : Nat) : Bool := (List.range k).all (riseAt ok lt l)
theorem riseTo_zero {α : Type} (ok : α → Bool) (lt : α → α → Bool) (l : List α) : riseTo ok lt l 0 = true := rfl
theorem riseTo_succ {α : Type} (ok : α → Bool) (lt : α → α → Bool) (l : List α) (k : Nat) : riseTo ok lt l (k + 1) = (riseTo ok lt l k && riseAt ok lt l k) := by simp [riseTo, List.range_succ, List.all_append]
theorem riseTo_not {α : Type} {ok : α → Bool} {lt : α → α → Bool} {l : List α} {k n : Nat} (h : riseAt ok lt l k = false) (hk : k < n) : riseTo ok lt l n = false := by
  unfold riseTo
  rw [Bool.eq_false_iff]
  intro ha
  have := List.all_eq_true.1 ha k (List.mem_range.2 hk)
  rw [h] at this; exact absurd this (by simp)
def riseL {α : Type} (m : Nat) (ok : α → Bool) (lt : α → α → Bool) (l : List α) : Bool := decide (l.length ≤ m) && riseTo ok lt l l.length
theorem riseAt_bad {α : Type} {ok : α → Bool} {lt : α → α → Bool} {l : List α} {k : Nat} {s : α} (hs : l[k]? = some s) (h : ok s = false) : riseAt ok lt l k = false := by unfold riseAt; rw [hs]; simp [h]
theorem riseAt_first {α : Type} {ok : α → Bool} {lt : α → α → Bool} {l : List α} {s : α} (hs : l[0]? = some s) (h : ok s = true) : riseAt ok lt l 0 = true := by unfold riseAt; rw [hs]; simp [h]
theorem riseAt_next {α : Type} {ok : α → Bool} {lt : α → α → Bool} {l : List α} {k : Nat} {s r : α} (hs : l[k]? = some s) (hr : l[k-1]? = some r) (hk : 0 < k) (h : ok s = true) : riseAt ok lt l k = lt r s := by
  unfold riseAt; rw [hs]; simp only [hr, h, Bool.true_and, decide_eq_false (show ¬ k = 0 by omega), Bool.false_or]
theorem riseL_len {α : Type} {m : Nat} {ok : α → Bool} {lt : α → α → Bool} {l : List α} (h : riseL m ok lt l = true) : l.length ≤ m := by unfold riseL at h; simp only [Bool.and_eq_true, decide_eq_true_eq] at h; exact h.1
theorem riseTo_at {α : Type} {ok : α → Bool} {lt : α → α → Bool} {l : List α} {n : Nat} (h : riseTo ok lt l n = true) {k : Nat} (hk : k < n) : riseAt ok lt l k = true := List.all_eq_true.1 h k (List.mem_range.2 hk)
theorem riseL_ok {α : Type} {m : Nat} {ok : α → Bool} {lt : α → α → Bool} {l : List α} (h : riseL m ok lt l = true) {k : Nat} {s : α} (hs : l[k]? = some s) : ok s = true := by
  unfold riseL at h
  simp only [Bool.and_eq_true, decide_eq_true_eq] at h
  have := riseTo_at h.2 (List.getElem?_eq_some_iff.1 hs).1
  unfold riseAt at this
  rw [hs] at this
  simp only [Bool.and_eq_true] at this
  exact this.1
theorem riseL_mem {α : Type} {m : Nat} {ok : α → Bool} {lt : α → α → Bool} {l : List α} (h : riseL m ok lt l = true) {s : α} (hs : s ∈ l) : ok s = true := by
  obtain ⟨k, hk⟩ := List.getElem?_of_mem hs
  exact riseL_ok h hk
theorem riseL_step {α : Type} {m : Nat} {ok : α → Bool} {lt : α → α → Bool} {l : List α} (h : riseL m ok lt l = true) {k : Nat} {x y : α} (hx : l[k]? = some x) (hy : l[k + 1]? = some y) : lt x y = true := by
  unfold riseL at h
  simp only [Bool.and_eq_true, decide_eq_true_eq] at h
  have := riseTo_at h.2 (List.getElem?_eq_some_iff.1 hy).1
  unfold riseAt at this
  rw [hy] at this
  simp only [Nat.add_sub_cancel, hx, Bool.and_eq_true, Bool.or_eq_true, decide_eq_true_eq] at this
  rcases this.2 with h0 | h0
  · omega
  · exact h0
theorem riseL_lt {α : Type} {m : Nat} {ok : α → Bool} {lt : α → α → Bool} (tr : ∀ a b c, lt a b = true → lt b c = true → lt a c = true) {l : List α} (h : riseL m ok lt l = true) {i j : Nat} {x y : α} (hij : i < j) (hx : l[i]? = some x) (hy : l[j]? = some y) : lt x y = true := by
  obtain ⟨d, rfl⟩ : ∃ d, j = i + d + 1 := ⟨j - i - 1, by omega⟩
  clear hij
  induction d generalizing y with
  | zero => exact riseL_step h hx hy
  | succ d ih =>
    obtain ⟨z, hz, _⟩ := at_lt (l := l) (k := i + d + 1) (by have := (List.getElem?_eq_some_iff.1 hy).1; omega)
    exact tr _ _ _ (ih hz) (riseL_step (k := i + d + 1) h hz (by rw [← hy]; rfl))
/-- a loop that goes through a list of records and stops with 'no' at the first that is bad -/
theorem rise_loop {α : Type} {ok : α → Bool} {lt : α → α → Bool} {l : List α} {R : Type} {no : R} {f : Nat → Unit → (Unit → Option R) → (Unit → Option R) → Option R} {fin : Unit → Option R}
    (step : ∀ k nx s, l[k]? = some s → (ok s = false → f k () nx fin = some no) ∧ (ok s = true → (k = 0 → f k () nx fin = nx ()) ∧ (0 < k → ∀ r, l[k-1]? = some r → (lt r s = true → f k () nx fin = nx ()) ∧ (lt r s = false → f k () nx fin = some no)))) :
    cntK f l.length 0 () fin = if riseTo ok lt l l.length then fin () else some no := by
  have key : ∀ m k, k + m = l.length → riseTo ok lt l k = true → cntK f m k () fin = if riseTo ok lt l l.length then fin () else some no := by
    intro m
    induction m with
    | zero => intro k hk hu; obtain rfl : k = l.length := by omega
              rw [hu]; rfl
    | succ m ih =>
      intro k hk hu
      have hlt : k < l.length := by omega
      obtain ⟨s, hs, _⟩ := at_lt hlt
      obtain ⟨h1, h2⟩ := step k (fun s' => cntK f m (k + 1) s' fin) s hs
      show f k () _ fin = _
      cases hok : ok s with
      | false => rw [h1 hok, riseTo_not (riseAt_bad hs hok) hlt]; rfl
      | true =>
        obtain ⟨h3, h4⟩ := h2 hok
        by_cases hk0 : k = 0
        · rw [h3 hk0]
          subst hk0
          exact ih 1 (by omega) (by rw [riseTo_succ, hu, riseAt_first hs hok]; rfl)
        · obtain ⟨r, hr, _⟩ := at_lt (l := l) (k := k - 1) (by omega)
          obtain ⟨h5, h6⟩ := h4 (by omega) r hr
          cases hl : lt r s with
          | true =>
            rw [h5 hl]
            exact ih (k + 1) (by omega) (by rw [riseTo_succ, hu, riseAt_next hs hr (by omega) hok, hl]; rfl)
          | false => rw [h6 hl, riseTo_not (by rw [riseAt_next hs hr (by omega) hok, hl]) hlt]; rfl
  exact key l.length 0 (by omega) (riseTo_zero ok lt l)
end Go.Proofs.Ythkaeighfjadlaa.QOrd

/- Chapter 9: mails and routes: the plain functions of the program and of the reference agree, and the laws answer true. (QRiseV) No condition but those of each theorem. -/
namespace Go.Proofs.Ythkaeighfjadlaa.QRiseV
set_option linter.unusedVariables false
set_option linter.unusedSimpArgs false
open Go.RowKit
open Go.Proofs.Ythkaeighfjadlaa.GoP Go.Proofs.Ythkaeighfjadlaa.PlainStamp Go.Proofs.Ythkaeighfjadlaa.QBase Go.Proofs.Ythkaeighfjadlaa.QOrd Go.Proofs.Ythkaeighfjadlaa.QLoop

/-- as rise_loop, with what is known of the one ahead -/
theorem rise_loopV {α : Type} {ok : α → Bool} {lt : α → α → Bool} {l : List α} {R : Type} {no : R} {f : Nat → Unit → (Unit → Option R) → (Unit → Option R) → Option R} {fin : Unit → Option R}
    (step : ∀ k nx s, l[k]? = some s → (ok s = false → f k () nx fin = some no) ∧ (ok s = true → (k = 0 → f k () nx fin = nx ()) ∧ (0 < k → ∀ r, l[k-1]? = some r → ok r = true → (lt r s = true → f k () nx fin = nx ()) ∧ (lt r s = false → f k () nx fin = some no)))) :
    cntK f l.length 0 () fin = if riseTo ok lt l l.length then fin () else some no := by
  have key : ∀ m k, k + m = l.length → riseTo ok lt l k = true → cntK f m k () fin = if riseTo ok lt l l.length then fin () else some no := by
    intro m
    induction m with
    | zero => intro k hk hu; obtain rfl : k = l.length := by omega
              rw [hu]; rfl
    | succ m ih =>
      intro k hk hu
      have hlt : k < l.length := by omega
      obtain ⟨s, hs, _⟩ := at_lt hlt
      obtain ⟨h1, h2⟩ := step k (fun s' => cntK f m (k + 1) s' fin) s hs
      show f k () _ fin = _
      cases hok : ok s with
      | false => rw [h1 hok, riseTo_not (riseAt_bad hs hok) hlt]; rfl
      | true =>
        obtain ⟨h3, h4⟩ := h2 hok
        by_cases hk0 : k = 0
        · rw [h3 hk0]
          subst hk0
          exact ih 1 (by omega) (by rw [riseTo_succ, hu, riseAt_first hs hok]; rfl)
        · obtain ⟨r, hr, _⟩ := at_lt (l := l) (k := k - 1) (by omega)
          have hokr : ok r = true := by
            have := riseTo_at hu (k := k - 1) (by omega)
            unfold riseAt at this; rw [hr] at this
            simp only [Bool.and_eq_true] at this; exact this.1
          obtain ⟨h5, h6⟩ := h4 (by omega) r hr hokr
          cases hl : lt r s with
          | true =>
            rw [h5 hl]
            exact ih (k + 1) (by omega) (by rw [riseTo_succ, hu, riseAt_next hs hr (by omega) hok, hl]; rfl)
          | false => rw [h6 hl, riseTo_not (by rw [riseAt_next hs hr (by omega) hok, hl]) hlt]; rfl
  exact key l.length 0 (by omega) (riseTo_zero ok lt l)
end Go.Proofs.Ythkaeighfjadlaa.QRiseV

/- Chapter 8: rates: the plain functions of the program and of the reference agree, and the laws answer true. (QRiseL) No condition but those of each theorem. -/
namespace Go.Proofs.Ythkaeighfjadlaa.QRiseL
set_option linter.unusedVariables false
set_option linter.unusedSimpArgs false
open Go.RowKit
open Go.Proofs.Ythkaeighfjadlaa.GoP Go.Proofs.Ythkaeighfjadlaa.PlainStamp Go.Proofs.Ythkaeighfjadlaa.QBase Go.Proofs.Ythkaeighfjadlaa.QOrd Go.Proofs.Ythkaeighfjadlaa.QLoop

/-- the same, for a loop that counts by itself and stops behind m: the list may be longer than m -/
theorem rise_lp {α R : Type} {ok : α → Bool} {lt : α → α → Bool} {l : List α} {m : Nat} {no : R} {yes : Option R} {f : Int → (Int → Option R) → (Int → Option R) → Option R} {fin : Int → Option R}
    (stop : ∀ (k : Nat) nx, (l.length ≤ k ∨ m < k) → k ≤ l.length → k ≤ m + 1 → f (k : Int) nx fin = fin (k : Int))
    (end_ : ∀ k : Int, fin k = if l.length ≤ m then yes else some no)
    (step : ∀ (k : Nat) nx s, k ≤ m → l[k]? = some s → (ok s = false → f (k : Int) nx fin = some no) ∧ (ok s = true → (k = 0 → f (k : Int) nx fin = nx ((k + 1 : Nat) : Int)) ∧ (0 < k → ∀ r, l[k-1]? = some r → ok r = true → (lt r s = true → f (k : Int) nx fin = nx ((k + 1 : Nat) : Int)) ∧ (lt r s = false → f (k : Int) nx fin = some no)))) :
    ∀ fuel k, m + 1 - k < fuel → k ≤ l.length → k ≤ m + 1 → riseTo ok lt l k = true → loopK f fuel (k : Int) fin = if riseL m ok lt l = true then yes else some no := by
  intro fuel
  induction fuel with
  | zero => intro k h; omega
  | succ n ih =>
    intro k hf hk hm hu
    show f (k : Int) (fun s' => loopK f n s' fin) fin = _
    by_cases hs : l.length ≤ k ∨ m < k
    · rw [stop k _ hs hk hm, end_]
      by_cases hl : l.length ≤ m
      · obtain rfl : k = l.length := by omega
        rw [if_pos hl, if_pos (by unfold riseL; simp [hl, hu])]
      · rw [if_neg hl, if_neg (by unfold riseL; simp [hl])]
    · have hlt : k < l.length := by omega
      obtain ⟨s, hs', _⟩ := at_lt hlt
      obtain ⟨h1, h2⟩ := step k (fun s' => loopK f n s' fin) s (by omega) hs'
      have bad : riseAt ok lt l k = false → riseL m ok lt l = false := by
        intro h; unfold riseL; rw [riseTo_not h hlt, Bool.and_false]
      cases hok : ok s with
      | false => rw [h1 hok, bad (riseAt_bad hs' hok)]; rfl
      | true =>
        obtain ⟨h3, h4⟩ := h2 hok
        by_cases hk0 : k = 0
        · rw [h3 hk0]
          subst hk0
          exact ih 1 (by omega) (by omega) (by omega) (by rw [riseTo_succ, hu, riseAt_first hs' hok]; rfl)
        · obtain ⟨r, hr, _⟩ := at_lt (l := l) (k := k - 1) (by omega)
          have hokr : ok r = true := by
            have := riseTo_at hu (k := k - 1) (by omega)
            unfold riseAt at this; rw [hr] at this
            simp only [Bool.and_eq_true] at this; exact this.1
          obtain ⟨h5, h6⟩ := h4 (by omega) r hr hokr
          cases hl : lt r s with
          | true =>
            rw [h5 hl]
            exact ih (k + 1) (by omega) (by omega) (by omega) (by rw [riseTo_succ, hu, riseAt_next hs' hr (by omega) hok, hl]; rfl)
          | false => rw [h6 hl, bad (by rw [riseAt_next hs' hr (by omega) hok, hl])]; rfl
/-- what each step gives holds between any two -/
theorem riseL_rel {α : Type} {m : Nat} {ok : α → Bool} {lt : α → α → Bool} (rel : α → α → Prop) (st : ∀ a b, ok a = true → ok b = true → lt a b = true → rel a b) (tr : ∀ a b c, rel a b → rel b c → rel a c) {l : List α} (h : riseL m ok lt l = true) {i j : Nat} {x y : α} (hij : i < j) (hx : l[i]? = some x) (hy : l[j]? = some y) : rel x y := by
  obtain ⟨d, rfl⟩ : ∃ d, j = i + d + 1 := ⟨j - i - 1, by omega⟩
  clear hij
  induction d generalizing y with
  | zero => exact st _ _ (riseL_ok h hx) (riseL_ok h hy) (riseL_step h hx hy)
  | succ d ih =>
    obtain ⟨z, hz, _⟩ := at_lt (l := l) (k := i + d + 1) (by have := (List.getElem?_eq_some_iff.1 hy).1; omega)
    exact tr _ _ _ (ih hz) (st _ _ (riseL_ok h hz) (riseL_ok h hy) (riseL_step (k := i + d + 1) h hz (by rw [← hy]; rfl)))
end Go.Proofs.Ythkaeighfjadlaa.QRiseL

/- Chapter 9: mails and routes: the plain functions of the program and of the reference agree, and the laws answer true. (Q9List) No condition but those of each theorem. -/
namespace Go.Proofs.Ythkaeighfjadlaa.Q9List
set_option linter.unusedVariables false
set_option linter.unusedSimpArgs false
open Go.RowKit
open Go.Proofs.Ythkaeighfjadlaa.GoP Go.Proofs.Ythkaeighfjadlaa.PlainStamp Go.Proofs.Ythkaeighfjadlaa.QBase Go.Proofs.Ythkaeighfjadlaa.QRiseV Go.Proofs.Ythkaeighfjadlaa.QRiseL Go.Proofs.Ythkaeighfjadlaa.QOrd Go.Proofs.Ythkaeighfjadlaa.Q9Mail Go.Proofs.Ythkaeighfjadlaa.QLoop Go.Proofs.Ythkaeighfjadlaa.PMail

def goodM (l : List Mail) : Bool := riseL 20 okM ltM l
theorem isTime_eq (l : List Mail) (hl : l.length ≤ 9223372036854775807) : GiIsTimetable.P l = some (goodM l) := by
  simp only [GiIsTimetable.P, letK, iteK_if]
  by_cases h12 : l.length ≤ 20
  · rw [if_neg (by simp; omega), rise_loopV (ok := okM) (lt := ltM) (no := false)]
    · unfold goodM riseL; cases riseTo okM ltM l l.length <;> simp [h12, GiIsTimetable.e0]
    · intro k nx s hs
      have hi : idx l (k : Int) = some s := by rw [idx_nat, hs]
      have hk : k < l.length := (List.getElem?_eq_some_iff.1 hs).1
      simp only [GiIsTimetable.l0, hi, Option.bind_some, unMail, isMail_eq, letK, joinK, appK, iteK_if]
      refine ⟨fun h => by simp [h], fun h => ⟨fun h0 => by subst h0; simp [h], fun h0 r hr hokr => ?_⟩⟩
      rw [idx_pred h0 (by omega) hr]
      have hk0 : (0 : Int) < (k : Int) := by omega
      have hk1 : ¬ k = 0 := by omega
      obtain ⟨c, hc, hcc⟩ := compare_eq hokr h
      have he : ∀ x : Mail, Mail.mk x.leave x.from_ x.to_ x.arrive = x := fun x => rfl
      simp only [Option.bind_some, he, hc, h, ltM]
      exact ⟨fun hlt => by
        have : ¬ 0 ≤ c := by rw [hcc]; have := of_decide_eq_true hlt; omega
        simp [hk0, hk1, this], fun hge => by
        have : 0 ≤ c := by rw [hcc]; have := of_decide_eq_false hge; omega
        simp [hk0, hk1, this]⟩
  · rw [if_pos (by simp; omega)]; unfold goodM riseL; simp [h12]
theorem l9Good_eq (l : List Mail) (hl : l.length ≤ 9223372036854775807) : GsL9Good.P l = some (goodM l) := by
  simp only [GsL9Good.P]
  rw [rise_loopV (ok := okM) (lt := ltM) (no := false)]
  · unfold goodM riseL; simp only [GsL9Good.e0, letK]
    by_cases h12 : l.length ≤ 20
    · have : (l.length : Int) ≤ 20 := by omega
      cases riseTo okM ltM l l.length <;> simp [h12, this]
    · have : ¬ (l.length : Int) ≤ 20 := by omega
      cases riseTo okM ltM l l.length <;> simp [h12, this]
  · intro k nx s hs
    have hi : idx l (k : Int) = some s := by rw [idx_nat, hs]
    have hk : k < l.length := (List.getElem?_eq_some_iff.1 hs).1
    simp only [GsL9Good.l0, hi, Option.bind_some, unMail, l9One_eq, letK, joinK, appK, iteK_if]
    refine ⟨fun h => by simp [h], fun h => ⟨fun h0 => by subst h0; simp [h], fun h0 r hr hokr => ?_⟩⟩
    rw [idx_pred h0 (by omega) hr]
    have hk0 : (0 : Int) < (k : Int) := by omega
    have hk1 : ¬ k = 0 := by omega
    have he : ∀ x : Mail, Mail.mk x.leave x.from_ x.to_ x.arrive = x := fun x => rfl
    simp only [Option.bind_some, he, code_eq hokr, code_eq h, h, ltM]
    exact ⟨fun hlt => by
      have : ¬ codeM s ≤ codeM r := by have := of_decide_eq_true hlt; omega
      simp [hk0, hk1, this], fun hge => by
      have : codeM s ≤ codeM r := by have := of_decide_eq_false hge; omega
      simp [hk0, hk1, this]⟩
def askM (l : List Mail) (o m : Int) : Bool := goodM l && inB o 0 9 && inB m 0 9999
theorem canBegin_eq (l : List Mail) (hl : l.length ≤ 9223372036854775807) (o m : Int) : GiCanBegin.P l o m = some (askM l o m) := by
  simp only [GiCanBegin.P, isTime_eq l hl, isOffice_eq, isMinute_eq, Option.bind_some, joinK, appK, iteK_if, askM]
  cases goodM l <;> cases inB o 0 9 <;> simp
theorem l9Asked_eq (l : List Mail) (hl : l.length ≤ 9223372036854775807) (o m : Int) : GsL9Asked.P l o m = some (askM l o m) := by
  simp only [GsL9Asked.P, l9Good_eq l hl, l9Office_eq, l9Minute_eq, Option.bind_some, joinK, appK, iteK_if, askM]
  cases goodM l <;> cases inB o 0 9 <;> simp
theorem m_ok {l : List Mail} (h : goodM l = true) {k : Nat} {x : Mail} (hx : l[k]? = some x) : okM x = true := riseL_ok h hx
theorem m_mem {l : List Mail} (h : goodM l = true) {x : Mail} (hx : x ∈ l) : okM x = true := riseL_mem h hx
theorem m_len {l : List Mail} (h : goodM l = true) : l.length ≤ 20 := riseL_len h
theorem m_leave {l : List Mail} (h : goodM l = true) {i j : Nat} {x y : Mail} (hij : i < j) (hx : l[i]? = some x) (hy : l[j]? = some y) : x.leave ≤ y.leave := by
  have := riseL_rel (fun a b => a.leave ≤ b.leave) (fun a b ha hb hlt => by
    have h1 := okM_of ha
    have h2 := okM_of hb
    have h3 := of_decide_eq_true hlt
    unfold codeM at h3
    omega) (fun a b c h1 h2 => Int.le_trans h1 h2) h hij hx hy
  exact this
theorem ask_of {l : List Mail} {o m : Int} (h : askM l o m = true) : goodM l = true ∧ (0 ≤ o ∧ o ≤ 9) ∧ (0 ≤ m ∧ m ≤ 9999) := by
  unfold askM at h
  simp only [Bool.and_eq_true] at h
  exact ⟨h.1.1, inB_of h.1.2, inB_of h.2⟩
end Go.Proofs.Ythkaeighfjadlaa.Q9List

/- The named law of routes: what it draws, and why it answers true. (Q9DrawsR) No condition but those of each theorem. -/
namespace Go.Proofs.Ythkaeighfjadlaa.Q9DrawsR
set_option linter.unusedVariables false
set_option linter.unusedSimpArgs false
open Go.RowKit
open Go.Proofs.Ythkaeighfjadlaa.GoP Go.Proofs.Ythkaeighfjadlaa.PlainStamp Go.Proofs.Ythkaeighfjadlaa.QBase Go.Proofs.Ythkaeighfjadlaa.Q9Draws2 Go.Proofs.Ythkaeighfjadlaa.Q9Draws Go.Proofs.Ythkaeighfjadlaa.Q9List Go.Proofs.Ythkaeighfjadlaa.Q9Mail Go.Proofs.Ythkaeighfjadlaa.QDraw Go.Proofs.Ythkaeighfjadlaa.QUp Go.Proofs.Ythkaeighfjadlaa.QAll Go.Proofs.Ythkaeighfjadlaa.QLoop Go.Proofs.Ythkaeighfjadlaa.PMail

theorem tail9 {m : Nat} (l : List Mail) (o : List Int) (ho : o.length ≤ 1000) {c : GoC.Tape} (h : good c (m + 4)) : ∃ r, GsL1CurRouteOf.j0 l (o, c) = some r ∧ (r.1.length ≤ 1001 ∧ good r.2 m) := by
  obtain ⟨p, t1, e1, _, _, _, h1⟩ := pick_ok (n := 12) (m := m + 2) h
  simp only [GsL1CurRouteOf.j0, unp2, letK, e1, bind2_some, iteK_if]
  by_cases hp : p = 0
  · obtain ⟨x, t2, e2, _, h2⟩ := among_ok (l := [0, (-1), (l.length : Int)]) (m := m) h1 (by simp)
    simp only [hp, beq_self_eq_true, if_true, e2, bind2_some]
    rw [guardK_pos (by omega)]
    exact ⟨_, rfl, by simp; omega, h2⟩
  · have hpb : (p == 0) = false := by simpa using hp
    by_cases hp2 : p = 1
    · simp only [hp2, show ((1 : Int) == 0) = false from rfl, Bool.false_eq_true, if_false, beq_self_eq_true, if_true]
      by_cases hl : (1 : Int) < (o.length : Int)
      · rw [if_pos (by simpa using hl), guardK_pos (by omega)]
        exact ⟨_, rfl, by simp; omega, good_less h1 (by omega)⟩
      · rw [if_neg (by simpa using hl)]
        exact ⟨_, rfl, by dsimp only; omega, good_less h1 (by omega)⟩
    · have hpb2 : (p == 1) = false := by simpa using hp2
      simp only [hpb, hpb2, Bool.false_eq_true, if_false]
      exact ⟨_, rfl, by dsimp only; omega, good_less h1 (by omega)⟩
theorem route9_ok {m : Nat} (l : List Mail) (hl : l.length ≤ 60) (o b : Int) {c : GoC.Tape} (h : good c (m + 130)) : ∃ r c', GsL1CurRouteOf.P c l o b = some (r, c') ∧ r.length ≤ 1001 ∧ good c' m := by
  obtain ⟨⟨r, c'⟩, h1, h2⟩ : ∃ r : List Int × GoC.Tape, GsL1CurRouteOf.P c l o b = some r ∧ (r.1.length ≤ 1001 ∧ good r.2 m) := by
    simp only [GsL1CurRouteOf.P, l9Good_eq l (by omega), Option.bind_some, iteK_if]
    cases hg : goodM l with
    | false => rw [if_neg (by simp)]; exact tail9 l [] (by simp) (good_less h (by omega))
    | true =>
      rw [if_pos rfl]
      refine cnt_ex (n := l.length) (Q := fun r : List Int × GoC.Tape => r.1.length ≤ 1001 ∧ good r.2 m) (fun k (s : Int × Int × List Int × GoC.Tape) => s.2.2.1.length ≤ k ∧ good s.2.2.2 (m + 4 + 2 * (l.length - k))) ?_ ?_ l.length 0 _ (by omega) ⟨by simp, good_less h (by omega)⟩
      · rintro k ⟨o1, m1, out, c1⟩ nx hk ⟨g1, g2⟩ hn
        dsimp only at g1 g2
        obtain ⟨x, hx, hi⟩ := at_lt (l := l) (k := k) hk
        have no : ∀ c2, good c2 (m + 4 + 2 * (l.length - (k + 1))) → ∃ r, nx (o1, m1, out, c2) = some r ∧ (r.1.length ≤ 1001 ∧ good r.2 m) := fun c2 hc2 => hn _ ⟨by dsimp only; omega, hc2⟩
        simp only [GsL1CurRouteOf.l0, unp4, hi, Option.bind_some, unMail, letK, joinK, appK, iteK_if, unp2]
        by_cases h1 : x.from_ = o1
        · by_cases h2 : m1 ≤ x.leave
          · obtain ⟨q, t3, e3, h3⟩ := one_ok (n := 4) (m := m + 4 + 2 * (l.length - (k + 1))) (t := c1) (good_less g2 (by omega))
            simp only [h1, h2, beq_self_eq_true, decide_true, if_true, e3, bind2_some]
            cases q with
            | true => simp only [Bool.not_true, Bool.false_eq_true, if_false]; exact no _ h3
            | false =>
              simp only [Bool.not_false, if_true]
              rw [guardK_pos (by omega)]
              exact hn _ ⟨by simp; omega, h3⟩
          · simp only [h1, beq_self_eq_true, decide_eq_false h2, Bool.false_eq_true, if_false, if_true]
            exact no _ (good_less g2 (by omega))
        · have h1b : (x.from_ == o1) = false := by simpa using h1
          simp only [h1b, Bool.false_eq_true, if_false]
          exact no _ (good_less g2 (by omega))
      · rintro ⟨o1, m1, out, c1⟩ ⟨g1, g2⟩
        dsimp only at g1 g2
        simp only [GsL1CurRouteOf.e0, unp4]
        exact tail9 l out (by omega) (good_less g2 (by omega))
  exact ⟨r, c', h1, h2⟩
theorem drawBest_ok {tapes : List Int → GoC.Tape} (ht : GoC.Tells tapes) (code : List Int) (fuel : Nat) (hf : 1048577 ≤ fuel) : ∃ l o m p, GsDrawBestRoute.P fuel tapes code = some (l, o, m, p) ∧ l.length ≤ 60 := by
  obtain ⟨l, c0, e0, hl, h0⟩ := time9_ok fuel hf (m := 40) (good_of ht code (by omega))
  obtain ⟨z, c1, e1, _, h1⟩ := among_ok (l := [0, 1, 2, 3, 9, 10]) (m := 38) h0 (by simp)
  obtain ⟨g, c2, e2, _, h2⟩ := among_ok (l := [0, 0, 5, 10, 11, 9999, 10000]) (m := 36) h1 (by simp)
  obtain ⟨d, c3, e3, _, h3⟩ := among_ok (l := [0, 1, 2, 3, 9, (-1)]) (m := 34) h2 (by simp)
  exact ⟨l, z, g, d, by simp only [GsDrawBestRoute.P, GsDrawEarliestAt.P, letK, e0, e1, e2, e3, bind2_some, bind4], hl⟩
theorem drawRoute_ok {tapes : List Int → GoC.Tape} (ht : GoC.Tells tapes) (code : List Int) (fuel : Nat) (hf : 1048577 ≤ fuel) : ∃ l o m r, GsDrawIsRoute.P fuel tapes code = some (l, o, m, r) ∧ l.length ≤ 60 := by
  obtain ⟨l, c0, e0, hl, h0⟩ := time9_ok fuel hf (m := 240) (good_of ht code (by omega))
  obtain ⟨z, c1, e1, _, h1⟩ := among_ok (l := [0, 1, 2, 3, 9, 10]) (m := 238) h0 (by simp)
  obtain ⟨g, c2, e2, _, h2⟩ := among_ok (l := [0, 0, 5, 10, 11, 9999, 10000]) (m := 236) h1 (by simp)
  obtain ⟨r, c3, e3, _, h3⟩ := route9_ok (m := 34) l hl z g (c := c2) (good_less h2 (by omega))
  exact ⟨l, z, g, r, by simp only [GsDrawIsRoute.P, letK, e0, e1, e2, e3, bind2_some], hl⟩
end Go.Proofs.Ythkaeighfjadlaa.Q9DrawsR

/- Chapter 9: mails and routes: the plain functions of the program and of the reference agree, and the laws answer true. (Q9Drop) No condition but those of each theorem. -/
namespace Go.Proofs.Ythkaeighfjadlaa.Q9Drop
set_option linter.unusedVariables false
set_option linter.unusedSimpArgs false
open Go.RowKit
open Go.Proofs.Ythkaeighfjadlaa.GoP Go.Proofs.Ythkaeighfjadlaa.PlainStamp Go.Proofs.Ythkaeighfjadlaa.QBase Go.Proofs.Ythkaeighfjadlaa.QLoop

/-- a counted loop through a list, by what is still to come -/
theorem cnt_drop {α σ ρ : Type} {l : List α} {f : Nat → σ → (σ → Option ρ) → (σ → Option ρ) → Option ρ} {fin : σ → Option ρ} (F : List α → σ → Option ρ) (nil : ∀ s, F [] s = fin s)
    (cons : ∀ k x s nx, l[k]? = some x → (∀ s', nx s' = F (l.drop (k + 1)) s') → f k s nx fin = F (x :: l.drop (k + 1)) s) (s : σ) : cntK f l.length 0 s fin = F l s := by
  have key : ∀ m k s, k + m = l.length → cntK f m k s fin = F (l.drop k) s := by
    intro m
    induction m with
    | zero => intro k s hk; rw [List.drop_eq_nil_of_le (by omega), nil]; rfl
    | succ m ih =>
      intro k s hk
      have hlt : k < l.length := by omega
      have hd : l.drop k = l[k] :: l.drop (k + 1) := List.drop_eq_getElem_cons hlt
      rw [hd]
      exact cons k l[k] s _ (List.getElem?_eq_getElem hlt) (fun s' => ih (k + 1) s' (by omega))
  exact key l.length 0 s (by omega)
/-- the first place that is good, or none -/
theorem first_or (p : Nat → Bool) (n : Nat) : (∀ k, k < n → p k = false) ∨ ∃ k, k < n ∧ p k = true ∧ ∀ j, j < k → p j = false := by
  induction n with
  | zero => exact Or.inl (fun k h => by omega)
  | succ n ih =>
    rcases ih with h | ⟨k, h1, h2, h3⟩
    · cases hp : p n with
      | true => exact Or.inr ⟨n, by omega, hp, h⟩
      | false => exact Or.inl (fun k hk => by by_cases he : k = n; · rw [he]; exact hp
                                              · exact h k (by omega))
    · exact Or.inr ⟨k, by omega, h2, h3⟩
theorem cnt_none {σ ρ : Type} {f : Nat → σ → (σ → Option ρ) → (σ → Option ρ) → Option ρ} {fin : σ → Option ρ} {n : Nat} {s : σ} {p : Nat → Bool} (step : ∀ k nx, k < n → p k = false → f k s nx fin = nx s) (h : ∀ k, k < n → p k = false) : cntK f n 0 s fin = fin s := by
  have key : ∀ m k, k + m = n → cntK f m k s fin = fin s := by
    intro m
    induction m with
    | zero => intro k hk; rfl
    | succ m ih => intro k hk; show f k s _ fin = _; rw [step k _ (by omega) (h k (by omega))]; exact ih (k + 1) (by omega)
  exact key n 0 (by omega)
theorem cnt_first {σ ρ : Type} {f : Nat → σ → (σ → Option ρ) → (σ → Option ρ) → Option ρ} {fin : σ → Option ρ} {n : Nat} {s : σ} {p : Nat → Bool} {j : Nat} {r : Option ρ} (hj : j < n) (step : ∀ k nx, k < j → p k = false → f k s nx fin = nx s) (h : ∀ k, k < j → p k = false) (yes : ∀ nx, f j s nx fin = r) : cntK f n 0 s fin = r := by
  have key : ∀ d m k, k + d = j → k + m = n → cntK f m k s fin = r := by
    intro d
    induction d with
    | zero => intro m k hk hm
              obtain ⟨m, rfl⟩ : ∃ q, m = q + 1 := ⟨m - 1, by omega⟩
              obtain rfl : k = j := by omega
              exact yes _
    | succ d ih => intro m k hk hm
                   obtain ⟨m, rfl⟩ : ∃ q, m = q + 1 := ⟨m - 1, by omega⟩
                   show f k s _ fin = _
                   rw [step k _ (by omega) (h k (by omega))]
                   exact ih m (k + 1) (by omega) (by omega)
  exact key j n 0 (by omega) (by omega)
end Go.Proofs.Ythkaeighfjadlaa.Q9Drop

/- Chapter 9: mails and routes: the plain functions of the program and of the reference agree, and the laws answer true. (Q9End) No condition but those of each theorem. -/
namespace Go.Proofs.Ythkaeighfjadlaa.Q9End
set_option linter.unusedVariables false
set_option linter.unusedSimpArgs false
open Go.RowKit
open Go.Proofs.Ythkaeighfjadlaa.GoP Go.Proofs.Ythkaeighfjadlaa.PlainStamp Go.Proofs.Ythkaeighfjadlaa.QBase Go.Proofs.Ythkaeighfjadlaa.Q9Drop Go.Proofs.Ythkaeighfjadlaa.Q9List Go.Proofs.Ythkaeighfjadlaa.Q9Mail Go.Proofs.Ythkaeighfjadlaa.QLoop Go.Proofs.Ythkaeighfjadlaa.PMail

/-- where a list of numbers ends, if it is a route -/
def endF (l : List Mail) : List Int → Int → Int → Option (Int × Int)
  | [], o, m => some (o, m)
  | i :: r, o, m => if 0 ≤ i then (match l[i.toNat]? with | none => none | some x => if x.from_ = o ∧ m ≤ x.leave then endF l r x.to_ x.arrive else none) else none
def endRes (l : List Mail) (r : List Int) (s : Int × Int) : Option (Int × Int × Bool) := some (match endF l r s.1 s.2 with | none => (0, 0, false) | some (a, b) => (a, b, true))
theorem canTake_eq (x : Mail) (o m : Int) : GiCanTake.P x o m = some (decide (x.from_ = o ∧ m ≤ x.leave)) := by
  obtain ⟨a, b, c, d⟩ := x
  simp only [GiCanTake.P, unMail, letK, joinK, appK, iteK_if]
  by_cases h1 : b = o <;> by_cases h2 : m ≤ a <;> simp [h1, h2]
theorem end_loop (l : List Mail) (hl : l.length ≤ 9223372036854775807) (r : List Int) (s : Int × Int) : cntK (GiEndOfRoute.l0 l r) r.length 0 s GiEndOfRoute.e0 = endRes l r s := by
  refine cnt_drop (endRes l) (fun s => rfl) (fun k i s nx hi hn => ?_) s
  obtain ⟨o, m⟩ := s
  have hx : idx r (k : Int) = some i := by rw [idx_nat, hi]
  simp only [GiEndOfRoute.l0, unp2_mk, hx, Option.bind_some, letK, within_eq, canTake_eq, joinK, appK, iteK_if]
  rw [wrap_in (by omega) (by omega)]
  unfold endRes
  simp only [endF]
  by_cases h0 : 0 ≤ i
  · by_cases h1 : i ≤ (l.length : Int) - 1
    · have hb : inB i 0 ((l.length : Int) - 1) = true := by unfold inB; simp [h0, h1]
      have hk : i.toNat < l.length := by omega
      have hl2 : l[i.toNat]? = some l[i.toNat] := List.getElem?_eq_getElem hk
      have hl3 : idx l i = some l[i.toNat] := by unfold idx; rw [if_pos h0, hl2]
      rw [hb, hl3, hl2]
      generalize l[i.toNat] = x
      obtain ⟨a, b, c, d⟩ := x
      simp only [Option.bind_some, unMail, Bool.not_true, Bool.false_eq_true, if_false, if_pos h0, hn]
      by_cases hc : b = o ∧ m ≤ a
      · simp [hc, endRes]
      · simp [hc]
    · have hb : inB i 0 ((l.length : Int) - 1) = false := by unfold inB; simp [h1]
      have hl2 : l[i.toNat]? = none := List.getElem?_eq_none (by omega)
      rw [hb, hl2, if_pos h0]; rfl
  · have hb : inB i 0 ((l.length : Int) - 1) = false := by unfold inB; simp [h0]
    rw [hb, if_neg h0]; rfl
theorem l9End_eq (l : List Mail) (r : List Int) (o m : Int) : GsL9End.P l o m r = endRes l r (o, m) := by
  simp only [GsL9End.P]
  refine cnt_drop (endRes l) (fun s => rfl) (fun k i s nx hi hn => ?_) _
  obtain ⟨o, m⟩ := s
  have hx : idx r (k : Int) = some i := by rw [idx_nat, hi]
  simp only [GsL9End.l0, unp2_mk, hx, Option.bind_some, letK, joinK, appK, iteK_if]
  unfold endRes
  simp only [endF]
  by_cases h0 : 0 ≤ i
  · have h0' : ¬ i < 0 := by omega
    by_cases h1 : i < (l.length : Int)
    · have hk : i.toNat < l.length := by omega
      have hl2 : l[i.toNat]? = some l[i.toNat] := List.getElem?_eq_getElem hk
      have hl3 : idx l i = some l[i.toNat] := by unfold idx; rw [if_pos h0, hl2]
      have h1' : ¬ (l.length : Int) ≤ i := by omega
      rw [hl3, hl2]
      generalize l[i.toNat] = x
      obtain ⟨a, b, c, d⟩ := x
      simp only [Option.bind_some, unMail, if_pos h0, hn, decide_eq_false h0', decide_eq_false h1', Bool.false_eq_true, if_false]
      by_cases hb : b = o
      · by_cases hc : m ≤ a
        · have : ¬ a < m := by omega
          simp [hb, hc, this, endRes]
        · have : a < m := by omega
          simp [hb, hc, this]
      · simp [hb]
    · have hl2 : l[i.toNat]? = none := List.getElem?_eq_none (by omega)
      have h1' : (l.length : Int) ≤ i := by omega
      rw [hl2, if_pos h0]
      simp [h0', h1']
  · have h0' : i < 0 := by omega
    simp [h0', h0]
def endA (l : List Mail) (o m : Int) (r : List Int) : Int × Int × Bool := if askM l o m = true then (match endF l r o m with | none => (0, 0, false) | some (a, b) => (a, b, true)) else (0, 0, false)
theorem end_impl (l : List Mail) (hl : l.length ≤ 9223372036854775807) (o m : Int) (r : List Int) : GiEndOfRoute.P l o m r = some (endA l o m r) := by
  simp only [GiEndOfRoute.P, canBegin_eq l hl, Option.bind_some, letK, iteK_if, end_loop l hl, endA, endRes]
  cases askM l o m <;> rfl
theorem end_spec (l : List Mail) (hl : l.length ≤ 9223372036854775807) (o m : Int) (r : List Int) : GsEndOfRoute.P l o m r = some (endA l o m r) := by
  simp only [GsEndOfRoute.P, l9Asked_eq l hl, Option.bind_some, letK, iteK_if, l9End_eq, endA, endRes]
  cases askM l o m with
  | false => rfl
  | true =>
    cases endF l r o m with
    | none => rfl
    | some p => rfl
def isRt (l : List Mail) (o m : Int) (r : List Int) : Bool × Bool := if askM l o m = true ∧ r.length ≤ 20 then ((endF l r o m).isSome, true) else (false, false)
theorem rt_impl (l : List Mail) (hl : l.length ≤ 9223372036854775807) (o m : Int) (r : List Int) : GiIsRoute.P l o m r = some (isRt l o m r) := by
  simp only [GiIsRoute.P, canBegin_eq l hl, end_impl l hl, Option.bind_some, letK, joinK, appK, iteK_if, isRt, endA]
  cases askM l o m with
  | false => simp
  | true =>
    by_cases hr : r.length ≤ 20
    · have h2 : ¬ (20 : Int) < (r.length : Int) := by omega
      simp only [Bool.not_true, Bool.false_eq_true, if_false, decide_eq_false h2, if_true, hr, and_self]
      cases endF l r o m with
      | none => rfl
      | some p => rfl
    · have h2 : (20 : Int) < (r.length : Int) := by omega
      simp [hr, h2]
theorem rt_spec (l : List Mail) (hl : l.length ≤ 9223372036854775807) (o m : Int) (r : List Int) : GsIsRoute.P l o m r = some (isRt l o m r) := by
  simp only [GsIsRoute.P, l9Asked_eq l hl, l9End_eq, Option.bind_some, letK, joinK, appK, iteK_if, isRt, endRes]
  cases askM l o m with
  | false => simp
  | true =>
    by_cases hr : r.length ≤ 20
    · have h2 : ¬ (20 : Int) < (r.length : Int) := by omega
      simp only [Bool.not_true, Bool.false_eq_true, if_false, decide_eq_false h2, if_true, hr, and_self]
      cases endF l r o m with
      | none => rfl
      | some p => rfl
    · have h2 : (20 : Int) < (r.length : Int) := by omega
      simp [hr, h2]
end Go.Proofs.Ythkaeighfjadlaa.Q9End

/- Chapter 9: mails and routes: the plain functions of the program and of the reference agree, and the laws answer true. (Q9Waits) No condition but those of each theorem. -/
namespace Go.Proofs.Ythkaeighfjadlaa.Q9Waits
set_option linter.unusedVariables false
set_option linter.unusedSimpArgs false
open Go.RowKit
open Go.Proofs.Ythkaeighfjadlaa.GoP Go.Proofs.Ythkaeighfjadlaa.PlainStamp Go.Proofs.Ythkaeighfjadlaa.QBase Go.Proofs.Ythkaeighfjadlaa.Q9End Go.Proofs.Ythkaeighfjadlaa.Q9List Go.Proofs.Ythkaeighfjadlaa.Q9Mail Go.Proofs.Ythkaeighfjadlaa.QLoop Go.Proofs.Ythkaeighfjadlaa.PMail

theorem endF_at {l : List Mail} (hg : goodM l = true) : ∀ {r : List Int} {o m a e : Int}, endF l r o m = some (a, e) → m ≤ e ∧ (m ≤ 9999 → e ≤ 9999)
  | [], o, m, a, e, h => by simp [endF] at h; omega
  | i :: r, o, m, a, e, h => by
    simp only [endF] at h
    split at h
    · split at h
      · exact absurd h (by simp)
      · rename_i x hx
        split at h
        · have h1 := okM_of (m_ok hg hx)
          have := endF_at hg h
          omega
        · exact absurd h (by simp)
    · exact absurd h (by simp)
def rideT (l : List Mail) (i : Int) : Int := match l[i.toNat]? with | none => 0 | some x => x.arrive - x.leave
def sumT (l : List Mail) (r : List Int) : Int := (r.map (rideT l)).sum
theorem sumT_next {l : List Mail} {r : List Int} {k : Nat} {i : Int} (h : r[k]? = some i) : sumT l (r.take (k + 1)) = sumT l (r.take k) + rideT l i := by
  unfold sumT; rw [take_next h]; simp
/-- what is known while the rides are counted -/
structure WaitI (l : List Mail) (r : List Int) (m e : Int) (k : Nat) (w : Int) : Prop where
  is : w = e - m - sumT l (r.take k)
  rest : ∃ o n a, endF l (r.drop k) o n = some (a, e) ∧ e - n ≤ w ∧ w ≤ 9999 ∧ n ≤ 9999
theorem wait_next {l : List Mail} (hg : goodM l = true) {r : List Int} {m e : Int} {k : Nat} {w : Int} {i : Int} (h : WaitI l r m e k w) (hi : r[k]? = some i) :
    ∃ x, idx l i = some x ∧ (0 ≤ x.leave ∧ x.leave < x.arrive ∧ x.arrive ≤ 9999) ∧ (0 ≤ w ∧ w ≤ 9999) ∧ 0 ≤ w - (x.arrive - x.leave) ∧ WaitI l r m e (k + 1) (w - (x.arrive - x.leave)) := by
  obtain ⟨h1, o, n, a, h2, h3, h4, h5⟩ := h
  obtain ⟨hk, hik⟩ := List.getElem?_eq_some_iff.1 hi
  have hd : r.drop k = i :: r.drop (k + 1) := by rw [List.drop_eq_getElem_cons hk, hik]
  rw [hd] at h2
  simp only [endF] at h2
  split at h2
  · rename_i h0
    split at h2
    · exact absurd h2 (by simp)
    · rename_i x hx
      split at h2
      · rename_i hc
        have hm := okM_of (m_ok hg hx)
        have he := endF_at hg h2
        refine ⟨x, by unfold idx; rw [if_pos h0, hx], hm.2.2.2, by omega, by omega, ?_, x.to_, x.arrive, a, h2, by omega, by omega, by omega⟩
        rw [sumT_next hi, h1]; unfold rideT; rw [hx]; dsimp only; omega
      · exact absurd h2 (by simp)
  · exact absurd h2 (by simp)
theorem wait_first {l : List Mail} (hg : goodM l = true) {r : List Int} {o m a e : Int} (hm : 0 ≤ m ∧ m ≤ 9999) (h : endF l r o m = some (a, e)) : WaitI l r m e 0 (e - m) := by
  have := endF_at hg h
  exact ⟨by simp [sumT], o, m, a, h, by omega, by omega, by omega⟩
def waitRes (l : List Mail) (o m : Int) (r : List Int) : Int × Bool := if askM l o m = true then (match endF l r o m with | none => (0, false) | some (_, e) => (e - m - sumT l r, true)) else (0, false)
theorem wait_last {l : List Mail} {r : List Int} {m e w : Int} (h : WaitI l r m e r.length w) : w = e - m - sumT l r := by
  have := h.is; rwa [List.take_of_length_le (Nat.le_refl _)] at this
theorem wait_impl (l : List Mail) (hl : l.length ≤ 9223372036854775807) (o m : Int) (r : List Int) : GiWaitsOn.P l o m r = some (waitRes l o m r) := by
  simp only [GiWaitsOn.P, end_impl l hl, endA, waitRes]
  cases ha : askM l o m with
  | false => rfl
  | true =>
    obtain ⟨hg, ho, hm⟩ := ask_of ha
    cases he : endF l r o m with
    | none => rfl
    | some p =>
      obtain ⟨a, e⟩ := p
      have h1 := endF_at hg he
      simp only [if_true, bind3_some, letK, Bool.not_true, iteK_if, Bool.false_eq_true, if_false]
      rw [wrap_in (by omega) (by omega)]
      refine cnt_is _ (WaitI l r m e) (fun k w nx hk hI hn => ?_) (fun w hI => ?_) _ (wait_first hg hm he)
      · obtain ⟨i, hi, hx⟩ := at_lt hk
        obtain ⟨x, h2, h3, h4, h5, h6⟩ := wait_next hg hI hi
        simp only [GiWaitsOn.l0, letK, hx, Option.bind_some, h2, unMail, appK]
        rw [wrap_in (x := x.arrive - x.leave) (by omega) (by omega), wrap_in (by omega) (by omega)]
        exact hn _ h6
      · simp only [GiWaitsOn.e0, letK, wait_last hI]
theorem wait_spec (l : List Mail) (hl : l.length ≤ 9223372036854775807) (o m : Int) (r : List Int) : GsWaitsOn.P l o m r = some (waitRes l o m r) := by
  simp only [GsWaitsOn.P, end_spec l hl, endA, waitRes]
  cases ha : askM l o m with
  | false => rfl
  | true =>
    obtain ⟨hg, ho, hm⟩ := ask_of ha
    cases he : endF l r o m with
    | none => rfl
    | some p =>
      obtain ⟨a, e⟩ := p
      have h1 := endF_at hg he
      simp only [if_true, bind3_some, letK, Bool.not_true, iteK_if, Bool.false_eq_true, if_false]
      rw [wrap_in (by omega) (by omega)]
      refine cnt_is _ (WaitI l r m e) (fun k w nx hk hI hn => ?_) (fun w hI => ?_) _ (wait_first hg hm he)
      · obtain ⟨i, hi, hx⟩ := at_lt hk
        obtain ⟨x, h2, h3, h4, h5, h6⟩ := wait_next hg hI hi
        simp only [GsWaitsOn.l0, letK, hx, Option.bind_some, h2, unMail, appK]
        rw [wrap_in (x := w - x.arrive) (by omega) (by omega), wrap_in (by omega) (by omega), show w - x.arrive + x.leave = w - (x.arrive - x.leave) by omega]
        exact hn _ h6
      · simp only [GsWaitsOn.e0, letK, wait_last hI]
end Go.Proofs.Ythkaeighfjadlaa.Q9Waits

/- Chapter 9: mails and routes: the plain functions of the program and of the reference agree, and the laws answer true. (Q9Arr) No condition but those of each theorem. -/
namespace Go.Proofs.Ythkaeighfjadlaa.Q9Arr
set_option linter.unusedVariables false
set_option linter.unusedSimpArgs false
open Go.RowKit
open Go.Proofs.Ythkaeighfjadlaa.GoP Go.Proofs.Ythkaeighfjadlaa.PlainStamp Go.Proofs.Ythkaeighfjadlaa.QBase Go.Proofs.Ythkaeighfjadlaa.QLoop Go.Proofs.Ythkaeighfjadlaa.PIntA10 Go.Proofs.Ythkaeighfjadlaa.GoA

/-- the number of an office in a row of ten -/
def at_ (s : List Int) (i : Int) : Int := s.getD i.toNat 0
theorem idx_at {s : List Int} {i : Int} (hs : s.length = 10) (hi : 0 ≤ i ∧ i ≤ 9) : idx s i = some (at_ s i) := by
  unfold idx at_
  rw [if_pos hi.1, List.getD_eq_getElem?_getD, List.getElem?_eq_getElem (by omega)]; rfl
theorem at_set {s : List Int} {i j : Int} (hs : s.length = 10) (hi : 0 ≤ i ∧ i ≤ 9) (hj : 0 ≤ j ∧ j ≤ 9) (v : Int) : at_ (s.set i.toNat v) j = if j = i then v else at_ s j := by
  unfold at_
  rw [List.getD_eq_getElem?_getD, List.getD_eq_getElem?_getD]
  by_cases h : j = i
  · subst h; rw [if_pos rfl, List.getElem?_set_self (by omega)]; rfl
  · rw [if_neg h, List.getElem?_set_ne (by omega)]
theorem at_rep {v i : Int} (hi : 0 ≤ i ∧ i ≤ 9) : at_ (List.replicate 10 v) i = v := by
  unfold at_
  rw [List.getD_eq_getElem?_getD, List.getElem?_replicate, if_pos (by omega)]; rfl
def toA (s : List Int) : IntA10 := IntA10.mk (nth s 0) (nth s 1) (nth s 2) (nth s 3) (nth s 4) (nth s 5) (nth s 6) (nth s 7) (nth s 8) (nth s 9)
theorem ten {s : List Int} (hs : s.length = 10) : [(toA s).x0, (toA s).x1, (toA s).x2, (toA s).x3, (toA s).x4, (toA s).x5, (toA s).x6, (toA s).x7, (toA s).x8, (toA s).x9] = s := by
  match s, hs with
  | [a, b, c, d, e, f, g, h, i, j], _ => rfl
theorem filled_eq (v : Int) : GiFilledWith.P v = some (toA (List.replicate 10 v)) := rfl
theorem un_eq {ρ : Type} (s : IntA10) (f : Int → Int → Int → Int → Int → Int → Int → Int → Int → Int → Option ρ) : unIntA10 s f = f s.x0 s.x1 s.x2 s.x3 s.x4 s.x5 s.x6 s.x7 s.x8 s.x9 := rfl
end Go.Proofs.Ythkaeighfjadlaa.Q9Arr

/- Chapter 9: mails and routes: the plain functions of the program and of the reference agree, and the laws answer true. (Q9Dual) No condition but those of each theorem. -/
namespace Go.Proofs.Ythkaeighfjadlaa.Q9Dual
set_option linter.unusedVariables false
set_option linter.unusedSimpArgs false
open Go.RowKit
open Go.Proofs.Ythkaeighfjadlaa.GoP Go.Proofs.Ythkaeighfjadlaa.PlainStamp Go.Proofs.Ythkaeighfjadlaa.QBase Go.Proofs.Ythkaeighfjadlaa.Q9Arr Go.Proofs.Ythkaeighfjadlaa.Q9List Go.Proofs.Ythkaeighfjadlaa.Q9Mail Go.Proofs.Ythkaeighfjadlaa.QLoop Go.Proofs.Ythkaeighfjadlaa.PMail Go.Proofs.Ythkaeighfjadlaa.PIntA10

/-- a mail that can be reached takes its minute on -/
def stepE (s : List Int) (x : Mail) : List Int := if at_ s x.from_ ≤ x.leave then s.set x.to_.toNat (min (at_ s x.to_) x.arrive) else s
def startE (o m : Int) : List Int := (List.replicate 10 10000).set o.toNat m
def earlyM (l : List Mail) (o m : Int) : List Int := l.foldl stepE (startE o m)
/-- a mail from whose end one still comes in time tells the minute at which it leaves -/
def stepL (x : Mail) (t : List Int) : List Int := if x.arrive ≤ at_ t x.to_ then t.set x.from_.toNat (max (at_ t x.from_) x.leave) else t
def startL (o m : Int) : List Int := (List.replicate 10 (-1)).set o.toNat m
def lateM (l : List Mail) (o m : Int) : List Int := l.foldr stepL (startL o m)
theorem stepE_len {s : List Int} {x : Mail} : (stepE s x).length = s.length := by unfold stepE; split <;> simp
theorem stepL_len {s : List Int} {x : Mail} : (stepL x s).length = s.length := by unfold stepL; split <;> simp
theorem foldE_len (l : List Mail) : ∀ {s : List Int}, (l.foldl stepE s).length = s.length := by
  induction l with
  | nil => intro s; rfl
  | cons x l ih => intro s; rw [List.foldl_cons, ih, stepE_len]
theorem foldL_len (l : List Mail) {t : List Int} : (l.foldr stepL t).length = t.length := by
  induction l with
  | nil => rfl
  | cons x l ih => rw [List.foldr_cons, stepL_len, ih]
theorem startE_len (o m : Int) : (startE o m).length = 10 := by simp [startE]
theorem startL_len (o m : Int) : (startL o m).length = 10 := by simp [startL]
theorem early_len (l : List Mail) (o m : Int) : (earlyM l o m).length = 10 := by unfold earlyM; rw [foldE_len, startE_len]
theorem late_len (l : List Mail) (o m : Int) : (lateM l o m).length = 10 := by unfold lateM; rw [foldL_len, startL_len]
theorem startE_at {o m i : Int} (ho : 0 ≤ o ∧ o ≤ 9) (hi : 0 ≤ i ∧ i ≤ 9) : at_ (startE o m) i = if i = o then m else 10000 := by
  unfold startE; rw [at_set (by simp) ho hi, at_rep hi]
theorem startL_at {o m i : Int} (ho : 0 ≤ o ∧ o ≤ 9) (hi : 0 ≤ i ∧ i ≤ 9) : at_ (startL o m) i = if i = o then m else -1 := by
  unfold startL; rw [at_set (by simp) ho hi, at_rep hi]
theorem stepE_at {s : List Int} {x : Mail} {i : Int} (hs : s.length = 10) (hx : okM x = true) (hi : 0 ≤ i ∧ i ≤ 9) : at_ (stepE s x) i = if at_ s x.from_ ≤ x.leave ∧ i = x.to_ then min (at_ s i) x.arrive else at_ s i := by
  unfold stepE
  by_cases h : at_ s x.from_ ≤ x.leave
  · rw [if_pos h, at_set hs (okM_of hx).2.1 hi]
    by_cases e : i = x.to_
    · rw [if_pos e, if_pos ⟨h, e⟩, e]
    · rw [if_neg e, if_neg (fun q => e q.2)]
  · rw [if_neg h, if_neg (fun q => h q.1)]
theorem stepL_at {t : List Int} {x : Mail} {i : Int} (hs : t.length = 10) (hx : okM x = true) (hi : 0 ≤ i ∧ i ≤ 9) : at_ (stepL x t) i = if x.arrive ≤ at_ t x.to_ ∧ i = x.from_ then max (at_ t i) x.leave else at_ t i := by
  unfold stepL
  by_cases h : x.arrive ≤ at_ t x.to_
  · rw [if_pos h, at_set hs (okM_of hx).1 hi]
    by_cases e : i = x.from_
    · rw [if_pos e, if_pos ⟨h, e⟩, e]
    · rw [if_neg e, if_neg (fun q => e q.2)]
  · rw [if_neg h, if_neg (fun q => h q.1)]
/-- at some office one is not later than one may be -/
def meets (s t : List Int) : Prop := ∃ i, (0 ≤ i ∧ i ≤ 9) ∧ at_ s i ≤ at_ t i
theorem meets_step {s t : List Int} {x : Mail} (hs : s.length = 10) (ht : t.length = 10) (hx : okM x = true) : meets (stepE s x) t ↔ meets s (stepL x t) := by
  have hm := okM_of hx
  constructor
  · rintro ⟨i, hi, h⟩
    rw [stepE_at hs hx hi] at h
    split at h
    · rename_i hc
      by_cases h1 : at_ s i ≤ at_ t i
      · refine ⟨i, hi, ?_⟩; rw [stepL_at ht hx hi]; split <;> omega
      · refine ⟨x.from_, hm.1, ?_⟩
        rw [stepL_at ht hx hm.1, if_pos ⟨by rw [← hc.2]; omega, rfl⟩]
        have := hc.1; omega
    · refine ⟨i, hi, ?_⟩; rw [stepL_at ht hx hi]; split <;> omega
  · rintro ⟨i, hi, h⟩
    rw [stepL_at ht hx hi] at h
    split at h
    · rename_i hc
      by_cases h1 : at_ s i ≤ at_ t i
      · refine ⟨i, hi, ?_⟩; rw [stepE_at hs hx hi]; split <;> omega
      · refine ⟨x.to_, hm.2.1, ?_⟩
        rw [stepE_at hs hx hm.2.1, if_pos ⟨by rw [← hc.2]; omega, rfl⟩]
        have := hc.1; omega
    · refine ⟨i, hi, ?_⟩; rw [stepE_at hs hx hi]; split <;> omega
theorem meets_all (l : List Mail) (hl : ∀ x ∈ l, okM x = true) : ∀ {s t : List Int}, s.length = 10 → t.length = 10 → (meets (l.foldl stepE s) t ↔ meets s (l.foldr stepL t)) := by
  induction l with
  | nil => intro s t _ _; exact Iff.rfl
  | cons x l ih =>
    intro s t hs ht
    rw [List.foldl_cons, List.foldr_cons, ih (fun y hy => hl y (List.mem_cons_of_mem _ hy)) (by rw [stepE_len, hs]) ht]
    exact meets_step hs (by rw [foldL_len, ht]) (hl x (List.mem_cons_self ..))
/-- no minute falls below the first, and none rises -/
theorem foldE_low (l : List Mail) (hl : ∀ x ∈ l, okM x = true) {m : Int} : ∀ {s : List Int}, s.length = 10 → (∀ i, 0 ≤ i ∧ i ≤ 9 → m ≤ at_ s i) → ∀ i, 0 ≤ i ∧ i ≤ 9 → m ≤ at_ (l.foldl stepE s) i := by
  induction l with
  | nil => intro s _ h; exact h
  | cons x l ih =>
    intro s hs h
    rw [List.foldl_cons]
    refine ih (fun y hy => hl y (List.mem_cons_of_mem _ hy)) (by rw [stepE_len, hs]) (fun i hi => ?_)
    have hx := hl x (List.mem_cons_self ..)
    have hm := okM_of hx
    rw [stepE_at hs hx hi]
    have h1 := h i hi
    have h2 := h x.from_ hm.1
    split <;> omega
theorem foldE_up (l : List Mail) (hl : ∀ x ∈ l, okM x = true) {i : Int} (hi : 0 ≤ i ∧ i ≤ 9) : ∀ {s : List Int}, s.length = 10 → at_ (l.foldl stepE s) i ≤ at_ s i := by
  induction l with
  | nil => intro s _; exact Int.le_refl _
  | cons x l ih =>
    intro s hs
    rw [List.foldl_cons]
    refine Int.le_trans (ih (fun y hy => hl y (List.mem_cons_of_mem _ hy)) (by rw [stepE_len, hs])) ?_
    rw [stepE_at hs (hl x (List.mem_cons_self ..)) hi]
    split <;> omega
theorem foldL_up (l : List Mail) (hl : ∀ x ∈ l, okM x = true) {i : Int} (hi : 0 ≤ i ∧ i ≤ 9) {t : List Int} (ht : t.length = 10) : at_ t i ≤ at_ (l.foldr stepL t) i := by
  induction l with
  | nil => exact Int.le_refl _
  | cons x l ih =>
    rw [List.foldr_cons, stepL_at (by rw [foldL_len, ht]) (hl x (List.mem_cons_self ..)) hi]
    have := ih (fun y hy => hl y (List.mem_cons_of_mem _ hy))
    split <;> omega
theorem foldL_top (l : List Mail) (hl : ∀ x ∈ l, okM x = true) {B : Int} (hB : ∀ x ∈ l, x.leave ≤ B) {i : Int} (hi : 0 ≤ i ∧ i ≤ 9) {t : List Int} (ht : t.length = 10) : at_ (l.foldr stepL t) i ≤ max (at_ t i) B := by
  induction l with
  | nil => simp only [List.foldr_nil]; omega
  | cons x l ih =>
    rw [List.foldr_cons, stepL_at (by rw [foldL_len, ht]) (hl x (List.mem_cons_self ..)) hi]
    have h1 := ih (fun y hy => hl y (List.mem_cons_of_mem _ hy)) (fun y hy => hB y (List.mem_cons_of_mem _ hy))
    have h2 := hB x (List.mem_cons_self ..)
    split <;> omega
theorem early_low {l : List Mail} (hg : goodM l = true) {o m i : Int} (ho : 0 ≤ o ∧ o ≤ 9) (hm : m ≤ 9999) (hi : 0 ≤ i ∧ i ≤ 9) : m ≤ at_ (earlyM l o m) i :=
  foldE_low l (fun x hx => m_mem hg hx) (startE_len o m) (fun j hj => by rw [startE_at ho hj]; split <;> omega) i hi
theorem early_up {l : List Mail} (hg : goodM l = true) {o m i : Int} (ho : 0 ≤ o ∧ o ≤ 9) (hi : 0 ≤ i ∧ i ≤ 9) : at_ (earlyM l o m) i ≤ if i = o then m else 10000 := by
  have := foldE_up l (fun x hx => m_mem hg hx) hi (startE_len o m)
  rw [startE_at ho hi] at this; exact this
theorem early_top {l : List Mail} (hg : goodM l = true) {o m i : Int} (ho : 0 ≤ o ∧ o ≤ 9) (hm : m ≤ 9999) (hi : 0 ≤ i ∧ i ≤ 9) : at_ (earlyM l o m) i ≤ 10000 := by
  have := early_up hg (m := m) ho hi
  split at this <;> omega
theorem late_top {l : List Mail} (hg : goodM l = true) {o m i : Int} (ho : 0 ≤ o ∧ o ≤ 9) (hm : m ≤ 9999) (hi : 0 ≤ i ∧ i ≤ 9) : at_ (lateM l o m) i ≤ 9999 := by
  have := foldL_top l (fun x hx => m_mem hg hx) (B := 9999) (fun x hx => by have := okM_of (m_mem hg hx); omega) hi (startL_len o m)
  rw [startL_at ho hi] at this
  unfold lateM; split at this <;> omega
/-- one comes in time exactly if one is not later than the latest minute -/
theorem dual {l : List Mail} (hg : goodM l = true) {o m p b : Int} (ho : 0 ≤ o ∧ o ≤ 9) (hp : 0 ≤ p ∧ p ≤ 9) (hm : 0 ≤ m ∧ m ≤ 9999) (hb : b ≤ 9999) : at_ (earlyM l o m) p ≤ b ↔ m ≤ at_ (lateM l p b) o := by
  have h := meets_all l (fun x hx => m_mem hg hx) (startE_len o m) (startL_len p b)
  constructor
  · intro h1
    obtain ⟨i, hi, h2⟩ := h.1 ⟨p, hp, by rw [startL_at hp hp, if_pos rfl]; exact h1⟩
    rw [startE_at ho hi] at h2
    split at h2
    · rename_i e; rw [e] at h2; exact h2
    · have := late_top hg hp hb hi
      unfold lateM at this; omega
  · intro h1
    obtain ⟨i, hi, h2⟩ := h.2 ⟨o, ho, by rw [startE_at ho ho, if_pos rfl]; exact h1⟩
    rw [startL_at hp hi] at h2
    split at h2
    · rename_i e; rw [e] at h2; exact h2
    · have := early_low hg ho hm.2 hi
      unfold earlyM at this; omega
end Go.Proofs.Ythkaeighfjadlaa.Q9Dual

/- Chapter 9: mails and routes: the plain functions of the program and of the reference agree, and the laws answer true. (Q9Cand) No condition but those of each theorem. -/
namespace Go.Proofs.Ythkaeighfjadlaa.Q9Cand
set_option linter.unusedVariables false
set_option linter.unusedSimpArgs false
open Go.RowKit
open Go.Proofs.Ythkaeighfjadlaa.GoP Go.Proofs.Ythkaeighfjadlaa.PlainStamp Go.Proofs.Ythkaeighfjadlaa.QBase Go.Proofs.Ythkaeighfjadlaa.Q9Dual Go.Proofs.Ythkaeighfjadlaa.Q9Arr Go.Proofs.Ythkaeighfjadlaa.Q9List Go.Proofs.Ythkaeighfjadlaa.Q9Mail Go.Proofs.Ythkaeighfjadlaa.QLoop Go.Proofs.Ythkaeighfjadlaa.PMail Go.Proofs.Ythkaeighfjadlaa.PIntA10

theorem split_at {l : List Mail} {k : Nat} {x : Mail} (h : l[k]? = some x) : l = l.take k ++ x :: l.drop (k + 1) := by
  obtain ⟨hk, e⟩ := List.getElem?_eq_some_iff.1 h
  rw [← e, ← List.drop_eq_getElem_cons hk, List.take_append_drop]
/-- those ahead of a mail leave no later -/
theorem aheadM {l : List Mail} (hg : goodM l = true) {k : Nat} {x : Mail} (hx : l[k]? = some x) : ∀ y ∈ l.take k, y.leave ≤ x.leave := by
  intro y hy
  obtain ⟨j, hj⟩ := List.getElem?_of_mem hy
  rw [List.getElem?_take] at hj
  split at hj
  · exact m_leave hg (by assumption) hj hx
  · exact absurd hj (by simp)
theorem late_cut {l : List Mail} {k : Nat} {x : Mail} (hx : l[k]? = some x) (p b : Int) : lateM l p b = (l.take k).foldr stepL (stepL x (lateM (l.drop (k + 1)) p b)) := by
  have h := split_at hx
  show l.foldr stepL (startL p b) = _
  conv => lhs; rw [h]
  rw [List.foldr_append, List.foldr_cons]; rfl
/-- whether one still comes in time behind a mail is told by those behind it alone -/
theorem late_behind {l : List Mail} (hg : goodM l = true) {k : Nat} {x : Mail} (hx : l[k]? = some x) (p b : Int) : x.arrive ≤ at_ (lateM l p b) x.to_ ↔ x.arrive ≤ at_ (lateM (l.drop (k + 1)) p b) x.to_ := by
  have hok := m_ok hg hx
  have hm := okM_of hok
  have hd := late_len (l.drop (k + 1)) p b
  have h1 : at_ (stepL x (lateM (l.drop (k + 1)) p b)) x.to_ = at_ (lateM (l.drop (k + 1)) p b) x.to_ := by
    rw [stepL_at hd hok hm.2.1, if_neg (fun q => hm.2.2.1 q.2.symm)]
  rw [late_cut hx p b]
  have hmem : ∀ y ∈ l.take k, okM y = true := fun y hy => m_mem hg (List.mem_of_mem_take hy)
  have h2 := foldL_up (l.take k) hmem hm.2.1 (t := stepL x (lateM (l.drop (k + 1)) p b)) (by rw [stepL_len, hd])
  have h3 := foldL_top (l.take k) hmem (aheadM hg hx) hm.2.1 (t := stepL x (lateM (l.drop (k + 1)) p b)) (by rw [stepL_len, hd])
  rw [h1] at h2 h3
  constructor
  · intro h; omega
  · intro h; omega
theorem late_from {l : List Mail} (hg : goodM l = true) {k : Nat} {x : Mail} (hx : l[k]? = some x) {p b : Int} (h : x.arrive ≤ at_ (lateM l p b) x.to_) : x.leave ≤ at_ (lateM l p b) x.from_ := by
  have hok := m_ok hg hx
  have hm := okM_of hok
  have hd := late_len (l.drop (k + 1)) p b
  have h1 := (late_behind hg hx p b).1 h
  rw [late_cut hx p b]
  have hmem : ∀ y ∈ l.take k, okM y = true := fun y hy => m_mem hg (List.mem_of_mem_take hy)
  refine Int.le_trans ?_ (foldL_up (l.take k) hmem hm.1 (by rw [stepL_len, hd]))
  rw [stepL_at hd hok hm.1, if_pos ⟨h1, rfl⟩]; omega
/-- with a mail one comes no earlier than without asking for it -/
theorem take_le {l : List Mail} (hg : goodM l = true) {k : Nat} {x : Mail} (hx : l[k]? = some x) {m p : Int} (hp : 0 ≤ p ∧ p ≤ 9) (hm : 0 ≤ m ∧ m ≤ x.leave) : at_ (earlyM l x.from_ m) p ≤ at_ (earlyM l x.to_ x.arrive) p := by
  have ho := okM_of (m_ok hg hx)
  obtain ⟨b, hb⟩ : ∃ b, b = at_ (earlyM l x.to_ x.arrive) p := ⟨_, rfl⟩
  rw [← hb]
  by_cases h : b ≤ 9999
  · have h1 := (dual hg ho.2.1 hp (by omega) h).1 (Int.le_of_eq hb.symm)
    have h2 := late_from hg hx h1
    exact (dual hg ho.1 hp (by omega) h).2 (by omega)
  · have := early_top hg (m := m) ho.1 (by omega) hp; omega
/-- where one may be later than at first, some mail leads on -/
theorem late_some (l : List Mail) (hl : ∀ x ∈ l, okM x = true) {p b o m : Int} (hp : 0 ≤ p ∧ p ≤ 9) (ho : 0 ≤ o ∧ o ≤ 9) (h0 : at_ (startL p b) o < m) (h : m ≤ at_ (lateM l p b) o) : ∃ x ∈ l, x.from_ = o ∧ m ≤ x.leave ∧ x.arrive ≤ at_ (lateM l p b) x.to_ := by
  induction l with
  | nil => exact absurd h (by simp only [lateM, List.foldr_nil]; omega)
  | cons x l ih =>
    have hok := hl x (List.mem_cons_self ..)
    have hm := okM_of hok
    have hlen := late_len l p b
    have e : lateM (x :: l) p b = stepL x (lateM l p b) := rfl
    by_cases h1 : m ≤ at_ (lateM l p b) o
    · obtain ⟨y, hy, h2, h3, h4⟩ := ih (fun y hy => hl y (List.mem_cons_of_mem _ hy)) h1
      refine ⟨y, List.mem_cons_of_mem _ hy, h2, h3, Int.le_trans h4 ?_⟩
      rw [e, stepL_at hlen hok (okM_of (hl y (List.mem_cons_of_mem _ hy))).2.1]
      split <;> omega
    · rw [e, stepL_at hlen hok ho] at h
      split at h
      · rename_i hc
        refine ⟨x, List.mem_cons_self .., hc.2.symm, by omega, ?_⟩
        rw [e, stepL_at hlen hok hm.2.1, if_neg (fun q => hm.2.2.1 q.2.symm)]
        exact hc.1
      · exact absurd h h1
/-- a mail that leads on from an office at a minute -/
def cand (l : List Mail) (p e o m : Int) (x : Mail) : Bool := decide (x.from_ = o ∧ m ≤ x.leave ∧ x.arrive ≤ at_ (lateM l p e) x.to_)
theorem cand_iff {l : List Mail} (hg : goodM l = true) {p e o m : Int} (hp : 0 ≤ p ∧ p ≤ 9) (hm : 0 ≤ m) (he : e ≤ 9999) (hE : at_ (earlyM l o m) p = e) {k : Nat} {x : Mail} (hx : l[k]? = some x) :
    cand l p e o m x = decide (x.from_ = o ∧ m ≤ x.leave ∧ at_ (earlyM l x.to_ x.arrive) p = e) := by
  have h1 := okM_of (m_ok hg hx)
  unfold cand
  congr 1
  rw [eq_iff_iff]
  constructor
  · rintro ⟨rfl, h3, h4⟩
    have h5 := (dual hg h1.2.1 hp (by omega) he).2 h4
    have h6 := take_le hg hx hp ⟨hm, h3⟩
    exact ⟨rfl, h3, by omega⟩
  · rintro ⟨h2, h3, h4⟩
    exact ⟨h2, h3, (dual hg h1.2.1 hp (by omega) he).1 (Int.le_of_eq h4)⟩
theorem cand_none {l : List Mail} (hg : goodM l = true) {p e o m : Int} (hp : 0 ≤ p ∧ p ≤ 9) (ho : 0 ≤ o ∧ o ≤ 9) (hm : 0 ≤ m) (he : e ≤ 9999) (hE : at_ (earlyM l o m) p = e) (hm9 : m ≤ 9999) :
    (∀ x ∈ l, cand l p e o m x = false) ↔ o = p ∧ m = e := by
  constructor
  · intro h
    have h1 := (dual hg ho hp ⟨hm, hm9⟩ he).1 (Int.le_of_eq hE)
    have hup := early_up hg (m := m) ho hp
    have hlow := early_low hg ho hm9 hp
    by_cases hop : o = p
    · rw [if_pos hop.symm] at hup; exact ⟨hop, by omega⟩
    · obtain ⟨x, hx, h2, h3, h4⟩ := late_some l (fun x hx => m_mem hg hx) hp ho (m := m) (by rw [startL_at hp ho, if_neg hop]; omega) h1
      have := h x hx
      unfold cand at this
      rw [decide_eq_true (show x.from_ = o ∧ m ≤ x.leave ∧ x.arrive ≤ at_ (lateM l p e) x.to_ from ⟨h2, h3, h4⟩)] at this
      exact absurd this (by simp)
  · rintro ⟨rfl, rfl⟩ x hx
    obtain ⟨k, hk⟩ := List.getElem?_of_mem hx
    have h1 := okM_of (m_mem hg hx)
    rw [cand_iff hg hp hm he hE hk, decide_eq_false]
    rintro ⟨h2, h3, h4⟩
    have := early_low hg h1.2.1 (m := x.arrive) (by omega) hp
    omega
end Go.Proofs.Ythkaeighfjadlaa.Q9Cand

/- The named law of routes: what it draws, and why it answers true. (Q9Ends) No condition but those of each theorem. -/
namespace Go.Proofs.Ythkaeighfjadlaa.Q9Ends
set_option linter.unusedVariables false
set_option linter.unusedSimpArgs false
open Go.RowKit
open Go.Proofs.Ythkaeighfjadlaa.GoP Go.Proofs.Ythkaeighfjadlaa.PlainStamp Go.Proofs.Ythkaeighfjadlaa.QBase Go.Proofs.Ythkaeighfjadlaa.Q9Waits Go.Proofs.Ythkaeighfjadlaa.Q9End Go.Proofs.Ythkaeighfjadlaa.Q9Cand Go.Proofs.Ythkaeighfjadlaa.Q9Dual Go.Proofs.Ythkaeighfjadlaa.Q9Arr Go.Proofs.Ythkaeighfjadlaa.Q9List Go.Proofs.Ythkaeighfjadlaa.Q9Mail Go.Proofs.Ythkaeighfjadlaa.QLoop Go.Proofs.Ythkaeighfjadlaa.PMail Go.Proofs.Ythkaeighfjadlaa.PIntA10

theorem end_early {l : List Mail} (hg : goodM l = true) : ∀ {r : List Int} {o m a e : Int}, (0 ≤ o ∧ o ≤ 9) → 0 ≤ m → endF l r o m = some (a, e) → (0 ≤ a ∧ a ≤ 9) ∧ at_ (earlyM l o m) a ≤ e ∧ 0 ≤ sumT l r ∧ sumT l r ≤ e - m := by
  intro r
  induction r with
  | nil =>
    intro o m a e ho hm h
    simp only [endF, Option.some.injEq, Prod.mk.injEq] at h
    obtain ⟨rfl, rfl⟩ := h
    have := early_up hg (m := m) ho ho
    rw [if_pos rfl] at this
    exact ⟨ho, this, by simp [sumT], by simp [sumT]⟩
  | cons i r ih =>
    intro o m a e ho hm h
    simp only [endF] at h
    by_cases h0 : 0 ≤ i
    · rw [if_pos h0] at h
      cases hx : l[i.toNat]? with
      | none => rw [hx] at h; simp at h
      | some x =>
        rw [hx] at h
        dsimp only at h
        have hk := okM_of (m_ok hg hx)
        by_cases hc : x.from_ = o ∧ m ≤ x.leave
        · rw [if_pos hc] at h
          obtain ⟨ha, h1, h2, h3⟩ := ih hk.2.1 (by omega) h
          have ht := take_le hg hx (m := m) ha ⟨hm, hc.2⟩
          rw [hc.1] at ht
          have hr : rideT l i = x.arrive - x.leave := by unfold rideT; rw [hx]
          have hs : sumT l (i :: r) = rideT l i + sumT l r := by simp [sumT]
          exact ⟨ha, by omega, by omega, by omega⟩
        · rw [if_neg hc] at h; simp at h
    · rw [if_neg h0] at h; simp at h
end Go.Proofs.Ythkaeighfjadlaa.Q9Ends

/- Chapter 9: mails and routes: the plain functions of the program and of the reference agree, and the laws answer true. (QFoldS) No condition but those of each theorem. -/
namespace Go.Proofs.Ythkaeighfjadlaa.QFoldS
set_option linter.unusedVariables false
set_option linter.unusedSimpArgs false
open Go.RowKit
open Go.Proofs.Ythkaeighfjadlaa.GoP Go.Proofs.Ythkaeighfjadlaa.PlainStamp Go.Proofs.Ythkaeighfjadlaa.QBase Go.Proofs.Ythkaeighfjadlaa.QLoop

/-- a counted loop that carries a state through a list -/
theorem fold_cnt {α σ ρ : Type} {l : List α} {g : σ → α → σ} {J : σ → Prop} {f : Nat → σ → (σ → Option ρ) → (σ → Option ρ) → Option ρ} {fin : σ → Option ρ}
    (step : ∀ k x s nx, l[k]? = some x → J s → f k s nx fin = nx (g s x) ∧ J (g s x)) {s : σ} (hs : J s) : cntK f l.length 0 s fin = fin (l.foldl g s) := by
  have key : ∀ m k s, k + m = l.length → J s → cntK f m k s fin = fin ((l.drop k).foldl g s) := by
    intro m
    induction m with
    | zero => intro k s hk _; rw [List.drop_eq_nil_of_le (by omega)]; rfl
    | succ m ih =>
      intro k s hk hJ
      have hlt : k < l.length := by omega
      have hx : l[k]? = some l[k] := List.getElem?_eq_getElem hlt
      obtain ⟨h1, h2⟩ := step k l[k] s (fun s' => cntK f m (k + 1) s' fin) hx hJ
      show f k s _ fin = _
      rw [h1, ih (k + 1) _ (by omega) h2, List.drop_eq_getElem_cons hlt, List.foldl_cons]
  exact key l.length 0 s (by omega) hs
theorem range_at {n k x : Nat} (h : (List.range n)[k]? = some x) : k < n ∧ k = x := by
  have h1 := (List.getElem?_eq_some_iff.1 h).1
  rw [List.length_range] at h1
  rw [List.getElem?_range h1] at h
  exact ⟨h1, by simpa using h⟩
end Go.Proofs.Ythkaeighfjadlaa.QFoldS

/- Chapter 9: mails and routes: the plain functions of the program and of the reference agree, and the laws answer true. (Q9Late) No condition but those of each theorem. -/
namespace Go.Proofs.Ythkaeighfjadlaa.Q9Late
set_option linter.unusedVariables false
set_option linter.unusedSimpArgs false
open Go.RowKit
open Go.Proofs.Ythkaeighfjadlaa.GoP Go.Proofs.Ythkaeighfjadlaa.PlainStamp Go.Proofs.Ythkaeighfjadlaa.QBase Go.Proofs.Ythkaeighfjadlaa.QFoldS Go.Proofs.Ythkaeighfjadlaa.Q9Cand Go.Proofs.Ythkaeighfjadlaa.Q9Dual Go.Proofs.Ythkaeighfjadlaa.Q9Arr Go.Proofs.Ythkaeighfjadlaa.Q9List Go.Proofs.Ythkaeighfjadlaa.Q9Mail Go.Proofs.Ythkaeighfjadlaa.QUp Go.Proofs.Ythkaeighfjadlaa.QAll Go.Proofs.Ythkaeighfjadlaa.QLoop Go.Proofs.Ythkaeighfjadlaa.PMail Go.Proofs.Ythkaeighfjadlaa.PIntA10 Go.Proofs.Ythkaeighfjadlaa.GoA

theorem latest_eq {fuel : Nat} {l : List Mail} (hg : goodM l = true) {p : Int} (hp : 0 ≤ p ∧ p ≤ 9) (b : Int) (hf : 20 < fuel) : GiLatestMinutes.P fuel l p b = some (toA (lateM l p b)) := by
  have hlen := m_len hg
  simp only [GiLatestMinutes.P, filled_eq, Option.bind_some, un_eq, letK]
  rw [ten (by simp), idx_at (by simp) hp, Option.bind_some, wrap_in (by omega) (by omega)]
  refine lp_is (n := l.length) _ (fun k (s : List Int × Int) => s = (lateM (l.drop (l.length - k)) p b, (l.length : Int) - 1 - (k : Int))) ?_ ?_ fuel 0 _ (by omega) (by omega) ?_
  · intro k s nx hk hI hn
    subst hI
    have hq : l.length - k - 1 < l.length := by omega
    have hx : l[l.length - k - 1]? = some l[l.length - k - 1] := List.getElem?_eq_getElem hq
    have hi : idx l ((l.length : Int) - 1 - (k : Int)) = some l[l.length - k - 1] := by
      rw [show (l.length : Int) - 1 - (k : Int) = ((l.length - k - 1 : Nat) : Int) by omega, idx_nat, hx]
    have hd : lateM (l.drop (l.length - (k + 1))) p b = stepL l[l.length - k - 1] (lateM (l.drop (l.length - k)) p b) := by
      unfold lateM
      rw [show l.length - (k + 1) = l.length - k - 1 by omega, List.drop_eq_getElem_cons hq, List.foldr_cons, show l.length - k - 1 + 1 = l.length - k by omega]
    have hok := okM_of (m_ok hg hx)
    have h0 : (0 : Int) ≤ (l.length : Int) - 1 - (k : Int) := by omega
    simp only [GiLatestMinutes.l0, unp2_mk, letK, decide_eq_true h0, iteK_if, if_true, hi, Option.bind_some]
    have hn2 := hn (stepL l[l.length - k - 1] (lateM (l.drop (l.length - k)) p b), (l.length : Int) - 1 - (k : Int) - 1) (by rw [hd]; congr 1; omega)
    revert hok hn2
    generalize l[l.length - k - 1] = x
    intro hok hn2
    obtain ⟨c, d, e, g⟩ := x
    dsimp only at hok
    simp only [unMail, idx_at (late_len _ p b) hok.2.1, idx_at (late_len _ p b) hok.1, Option.bind_some]
    rw [wrap_in (by omega) (by omega)]
    unfold stepL at hn2
    dsimp only at hn2
    by_cases h : g ≤ at_ (lateM (l.drop (l.length - k)) p b) e
    · rw [if_pos h] at hn2; rw [if_pos (by simpa using h)]; exact hn2
    · rw [if_neg h] at hn2; rw [if_neg (by simpa using h)]; exact hn2
  · intro s nx hI
    subst hI
    have h0 : ¬ (0 : Int) ≤ (l.length : Int) - 1 - (l.length : Int) := by omega
    simp only [GiLatestMinutes.l0, unp2_mk, letK, decide_eq_false h0, iteK_if, Bool.false_eq_true, if_false, appK, GiLatestMinutes.e0, Nat.sub_self, List.drop_zero]
    rfl
  · simp [lateM]; rfl
end Go.Proofs.Ythkaeighfjadlaa.Q9Late

/- Chapter 9: mails and routes: the plain functions of the program and of the reference agree, and the laws answer true. (Q9Early) No condition but those of each theorem. -/
namespace Go.Proofs.Ythkaeighfjadlaa.Q9Early
set_option linter.unusedVariables false
set_option linter.unusedSimpArgs false
open Go.RowKit
open Go.Proofs.Ythkaeighfjadlaa.GoP Go.Proofs.Ythkaeighfjadlaa.PlainStamp Go.Proofs.Ythkaeighfjadlaa.QBase Go.Proofs.Ythkaeighfjadlaa.QFoldS Go.Proofs.Ythkaeighfjadlaa.Q9Dual Go.Proofs.Ythkaeighfjadlaa.Q9Arr Go.Proofs.Ythkaeighfjadlaa.Q9List Go.Proofs.Ythkaeighfjadlaa.Q9Mail Go.Proofs.Ythkaeighfjadlaa.QLoop Go.Proofs.Ythkaeighfjadlaa.PMail Go.Proofs.Ythkaeighfjadlaa.PIntA10 Go.Proofs.Ythkaeighfjadlaa.GoA

theorem least_eq (a b : Int) : GsL1Least.P a b = some (min a b) := by
  simp only [GsL1Least.P, letK, iteK_if]
  by_cases h : a < b
  · rw [if_pos (by simpa using h)]; congr 1; omega
  · rw [if_neg (by simpa using h)]; congr 1; omega
theorem earliest_eq {l : List Mail} (hg : goodM l = true) {o : Int} (ho : 0 ≤ o ∧ o ≤ 9) (m : Int) : GiEarliestMinutes.P l o m = some (toA (earlyM l o m)) := by
  simp only [GiEarliestMinutes.P, filled_eq, Option.bind_some, un_eq, letK]
  rw [ten (by simp), idx_at (by simp) ho, Option.bind_some, fold_cnt (g := stepE) (J := fun s => s.length = 10)]
  · rfl
  · intro k x s nx hx hs
    have hk : idx l (k : Int) = some x := by rw [idx_nat, hx]
    have hm := okM_of (m_ok hg hx)
    obtain ⟨a, b, c, d⟩ := x
    dsimp only at hm
    refine ⟨?_, by rw [stepE_len, hs]⟩
    simp only [GiEarliestMinutes.l0, letK, hk, Option.bind_some, unMail, idx_at hs hm.1, iteK_if, stepE]
    by_cases h : at_ s b ≤ a
    · simp [h, idx_at hs hm.2.1, appK]
    · simp [h, appK]
  · simp
theorem times_eq {l : List Mail} (hg : goodM l = true) {o : Int} (ho : 0 ≤ o ∧ o ≤ 9) (m : Int) : GsL9Times.P l o m = some (earlyM l o m) := by
  simp only [GsL9Times.P, letK]
  rw [guardK_pos (by omega)]
  have h10 : cntK GsL9Times.l0 (List.replicate 10 (0 : Int)).length 0 (List.replicate 10 (0 : Int)) (GsL9Times.e0 l o m) = GsL9Times.e0 l o m (List.replicate 10 10000) := rfl
  rw [h10]
  simp only [GsL9Times.e0, letK]
  rw [idx_at (by simp) ho, Option.bind_some, fold_cnt (g := stepE) (J := fun s => s.length = 10)]
  · rfl
  · intro k x s nx hx hs
    have hk : idx l (k : Int) = some x := by rw [idx_nat, hx]
    have hm := okM_of (m_ok hg hx)
    obtain ⟨a, b, c, d⟩ := x
    dsimp only at hm
    refine ⟨?_, by rw [stepE_len, hs]⟩
    simp only [GsL9Times.l1, letK, hk, Option.bind_some, unMail, idx_at hs hm.1, iteK_if, stepE]
    by_cases h : at_ s b ≤ a
    · simp [h, idx_at hs hm.2.1, appK, least_eq]
    · simp [h, appK]
  · simp
end Go.Proofs.Ythkaeighfjadlaa.Q9Early

/- Chapter 9: mails and routes: the plain functions of the program and of the reference agree, and the laws answer true. (Q9At) No condition but those of each theorem. -/
namespace Go.Proofs.Ythkaeighfjadlaa.Q9At
set_option linter.unusedVariables false
set_option linter.unusedSimpArgs false
open Go.RowKit
open Go.Proofs.Ythkaeighfjadlaa.GoP Go.Proofs.Ythkaeighfjadlaa.PlainStamp Go.Proofs.Ythkaeighfjadlaa.QBase Go.Proofs.Ythkaeighfjadlaa.Q9Early Go.Proofs.Ythkaeighfjadlaa.Q9Dual Go.Proofs.Ythkaeighfjadlaa.Q9Arr Go.Proofs.Ythkaeighfjadlaa.Q9List Go.Proofs.Ythkaeighfjadlaa.Q9Mail Go.Proofs.Ythkaeighfjadlaa.QLoop Go.Proofs.Ythkaeighfjadlaa.PMail Go.Proofs.Ythkaeighfjadlaa.PIntA10

def atRes (l : List Mail) (o m p : Int) : Int × Bool := if askM l o m = true ∧ inB p 0 9 = true ∧ at_ (earlyM l o m) p ≠ 10000 then (at_ (earlyM l o m) p, true) else (0, false)
theorem at_impl (l : List Mail) (hl : l.length ≤ 9223372036854775807) (o m p : Int) : GiEarliestAt.P l o m p = some (atRes l o m p) := by
  simp only [GiEarliestAt.P, canBegin_eq l hl, isOffice_eq, Option.bind_some, letK, joinK, appK, iteK_if, atRes]
  cases ha : askM l o m with
  | false => simp
  | true =>
    obtain ⟨hg, ho, hm⟩ := ask_of ha
    cases hp : inB p 0 9 with
    | false => simp
    | true =>
      have hp2 := inB_of hp
      simp only [Bool.not_true, Bool.false_eq_true, if_false, earliest_eq hg ho, Option.bind_some, un_eq, ten (early_len l o m), idx_at (early_len l o m) hp2]
      by_cases h : at_ (earlyM l o m) p = 10000 <;> simp [h]
theorem at_spec (l : List Mail) (hl : l.length ≤ 9223372036854775807) (o m p : Int) : GsEarliestAt.P l o m p = some (atRes l o m p) := by
  simp only [GsEarliestAt.P, l9Asked_eq l hl, l9Office_eq, Option.bind_some, letK, joinK, appK, iteK_if, atRes]
  cases ha : askM l o m with
  | false => simp
  | true =>
    obtain ⟨hg, ho, hm⟩ := ask_of ha
    cases hp : inB p 0 9 with
    | false => simp
    | true =>
      have hp2 := inB_of hp
      simp only [Bool.not_true, Bool.false_eq_true, if_false, times_eq hg ho, Option.bind_some, idx_at (early_len l o m) hp2]
      by_cases h : at_ (earlyM l o m) p = 10000 <;> simp [h]
end Go.Proofs.Ythkaeighfjadlaa.Q9At

/- Chapter 9: mails and routes: the plain functions of the program and of the reference agree, and the laws answer true. (Q9Best) No condition but those of each theorem. -/
namespace Go.Proofs.Ythkaeighfjadlaa.Q9Best
set_option linter.unusedVariables false
set_option linter.unusedSimpArgs false
open Go.RowKit
open Go.Proofs.Ythkaeighfjadlaa.GoP Go.Proofs.Ythkaeighfjadlaa.PlainStamp Go.Proofs.Ythkaeighfjadlaa.QBase Go.Proofs.Ythkaeighfjadlaa.Q9Late Go.Proofs.Ythkaeighfjadlaa.Q9Early Go.Proofs.Ythkaeighfjadlaa.Q9At Go.Proofs.Ythkaeighfjadlaa.QFoldS Go.Proofs.Ythkaeighfjadlaa.Q9Drop Go.Proofs.Ythkaeighfjadlaa.Q9End Go.Proofs.Ythkaeighfjadlaa.Q9Cand Go.Proofs.Ythkaeighfjadlaa.Q9Dual Go.Proofs.Ythkaeighfjadlaa.Q9Arr Go.Proofs.Ythkaeighfjadlaa.Q9List Go.Proofs.Ythkaeighfjadlaa.Q9Mail Go.Proofs.Ythkaeighfjadlaa.QUp Go.Proofs.Ythkaeighfjadlaa.QAll Go.Proofs.Ythkaeighfjadlaa.QLoop Go.Proofs.Ythkaeighfjadlaa.PMail Go.Proofs.Ythkaeighfjadlaa.PIntA10 Go.Proofs.Ythkaeighfjadlaa.GoA

/-- the round of both: the first mail that leads on, or the end -/
theorem both {l : List Mail} (hg : goodM l = true) {p e : Int} (hp : 0 ≤ p ∧ p ≤ 9) (he : 0 ≤ e ∧ e ≤ 9999) : ∀ (fuel : Nat) (o m : Int) (acc : List Int), (0 ≤ o ∧ o ≤ 9) → (0 ≤ m ∧ m ≤ e) → at_ (earlyM l o m) p = e → (acc.length : Int) ≤ m → e - m < (fuel : Int) →
    ∃ r, loopK (GiFirstRoute.l0 l (lateM l p e)) fuel (o, m, acc) GiFirstRoute.e0 = some (acc ++ r) ∧ loopK (GsBestRoute.l0 l p e) fuel (o, m, acc) GsBestRoute.e0 = some (acc ++ r, true) ∧ endF l r o m = some (p, e) ∧ (r.length : Int) ≤ e - m := by
  intro fuel
  induction fuel with
  | zero => intro o m acc _ _ _ _ hf; omega
  | succ n ih =>
    intro o m acc ho hm hE hacc hf
    have hlen := m_len hg
    have step : ∀ (k : Nat) (x : Mail), l[k]? = some x → cand l p e o m x = true → ∃ r, loopK (GiFirstRoute.l0 l (lateM l p e)) n (x.to_, x.arrive, acc ++ [(k : Int)]) GiFirstRoute.e0 = some (acc ++ [(k : Int)] ++ r) ∧ loopK (GsBestRoute.l0 l p e) n (x.to_, x.arrive, acc ++ [(k : Int)]) GsBestRoute.e0 = some (acc ++ [(k : Int)] ++ r, true) ∧ endF l r x.to_ x.arrive = some (p, e) ∧ (r.length : Int) ≤ e - x.arrive ∧ x.from_ = o ∧ m ≤ x.leave ∧ x.leave < x.arrive := by
      intro k x hx hc
      have hx1 := okM_of (m_ok hg hx)
      rw [cand_iff hg hp hm.1 he.2 hE hx] at hc
      obtain ⟨h1, h2, h3⟩ := of_decide_eq_true hc
      have h4 := early_low hg hx1.2.1 (m := x.arrive) (by omega) hp
      obtain ⟨r, r1, r2, r3, r4⟩ := ih x.to_ x.arrive (acc ++ [(k : Int)]) hx1.2.1 (by omega) h3 (by simp; omega) (by omega)
      exact ⟨r, r1, r2, r3, r4, h1, h2, hx1.2.2.2.2.1⟩
    -- a round of the program's inner loop
    have inner1 : ∀ (k : Nat) nx, k < l.length → (match l[k]? with | none => false | some x => cand l p e o m x) = false → GiFirstRoute.l1 l (lateM l p e) (fun s' => loopK (GiFirstRoute.l0 l (lateM l p e)) n s' GiFirstRoute.e0) k (o, m, acc) nx GiFirstRoute.e1 = nx (o, m, acc) := by
      intro k nx hk hc
      have hx : l[k]? = some l[k] := List.getElem?_eq_getElem hk
      have hi : idx l (k : Int) = some l[k] := by rw [idx_nat, hx]
      have hx1 := okM_of (m_ok hg hx)
      rw [hx] at hc
      try dsimp only at hc
      revert hi hx1 hc
      generalize l[k] = x
      intro hc hi hx1
      obtain ⟨a, b, c, d⟩ := x
      try dsimp only at hx1
      unfold cand at hc
      have hc2 := of_decide_eq_false hc
      try dsimp only at hc2
      simp only [GiFirstRoute.l1, unp3_mk, hi, Option.bind_some, unMail, canTake_eq, joinK, appK, iteK_if, idx_at (late_len l p e) hx1.2.1, letK]
      by_cases h1 : b = o ∧ m ≤ a
      · have h2 : ¬ d ≤ at_ (lateM l p e) c := fun q => hc2 ⟨h1.1, h1.2, q⟩
        simp [h1, h2]
      · simp [h1]
    have inner2 : ∀ (k : Nat) nx, k < l.length → (match l[k]? with | none => false | some x => cand l p e o m x) = false → GsBestRoute.l1 l p e k (o, m, acc) nx (GsBestRoute.e1 (fun s' => loopK (GsBestRoute.l0 l p e) n s' GsBestRoute.e0)) = nx (o, m, acc) := by
      intro k nx hk hc
      have hx : l[k]? = some l[k] := List.getElem?_eq_getElem hk
      have hi : idx l (k : Int) = some l[k] := by rw [idx_nat, hx]
      have hx1 := okM_of (m_ok hg hx)
      have hci := cand_iff hg hp hm.1 he.2 hE hx
      rw [hx] at hc
      try dsimp only at hc
      rw [hci] at hc
      revert hi hx1 hc
      generalize l[k] = x
      intro hc hi hx1
      obtain ⟨a, b, c, d⟩ := x
      try dsimp only at hx1
      have hc2 := of_decide_eq_false hc
      try dsimp only at hc2
      simp only [GsBestRoute.l1, unp3_mk, hi, Option.bind_some, unMail, joinK, appK, iteK_if, letK, times_eq hg hx1.2.1, idx_at (early_len l c d) hp]
      by_cases h1 : b = o
      · by_cases h2 : m ≤ a
        · have h3 : ¬ at_ (earlyM l c d) p = e := fun q => hc2 ⟨h1, h2, q⟩
          simp [h1, h2, h3]
        · simp [h1, h2]
      · simp [h1]
    show ∃ r, GiFirstRoute.l0 l (lateM l p e) (o, m, acc) (fun s' => loopK (GiFirstRoute.l0 l (lateM l p e)) n s' GiFirstRoute.e0) GiFirstRoute.e0 = some (acc ++ r) ∧ GsBestRoute.l0 l p e (o, m, acc) (fun s' => loopK (GsBestRoute.l0 l p e) n s' GsBestRoute.e0) GsBestRoute.e0 = some (acc ++ r, true) ∧ _
    have hnone := cand_none hg hp ho hm.1 he.2 hE (by omega)
    rcases first_or (fun k => match l[k]? with | none => false | some x => cand l p e o m x) l.length with h | ⟨k, hk, hk2, hk3⟩
    · have hend := hnone.1 (fun x hx => by
        obtain ⟨k, hk⟩ := List.getElem?_of_mem hx
        have := h k (List.getElem?_eq_some_iff.1 hk).1
        rw [hk] at this; exact this)
      obtain ⟨rfl, rfl⟩ := hend
      refine ⟨[], ?_, ?_, rfl, by simp⟩
      · simp only [GiFirstRoute.l0, unp3_mk]
        rw [cnt_none inner1 h]; simp [GiFirstRoute.e1, unp3_mk]
      · simp [GsBestRoute.l0, unp3_mk, letK, joinK, appK, iteK_if, GsBestRoute.e0]
    · have hx : l[k]? = some l[k] := List.getElem?_eq_getElem hk
      have hi : idx l (k : Int) = some l[k] := by rw [idx_nat, hx]
      have hx1 := okM_of (m_ok hg hx)
      have hci := cand_iff hg hp hm.1 he.2 hE hx
      rw [hx] at hk2
      try dsimp only at hk2
      obtain ⟨r, r1, r2, r3, r4, r5, r6, r7⟩ := step k l[k] hx hk2
      refine ⟨(k : Int) :: r, ?_, ?_, ?_, ?_⟩
      · rw [show acc ++ (k : Int) :: r = acc ++ [(k : Int)] ++ r by simp]
        simp only [GiFirstRoute.l0, unp3_mk]
        refine cnt_first (p := fun k => match l[k]? with | none => false | some x => cand l p e o m x) hk (fun k nx h1 h2 => inner1 k nx (by omega) h2) hk3 (fun nx => ?_)
        rw [← r1]
        unfold cand at hk2
        have hc2 := of_decide_eq_true hk2
        clear r1 r2 r3 r4 hk2 hci hx
        revert hi hx1 hc2
        generalize l[k] = x
        intro hi hx1 hc2
        obtain ⟨a, b, c, d⟩ := x
        dsimp only at hx1 hc2
        simp only [GiFirstRoute.l1, unp3_mk, hi, Option.bind_some, unMail, canTake_eq, joinK, appK, iteK_if, idx_at (late_len l p e) hx1.2.1, letK]
        rw [guardK_pos (by omega)]
        simp [hc2]
      · rw [show acc ++ (k : Int) :: r = acc ++ [(k : Int)] ++ r by simp]
        have hne : ¬ (o = p ∧ m = e) := by
          intro q
          have := hnone.2 q l[k] (List.mem_of_getElem? hx)
          rw [this] at hk2; exact absurd hk2 (by simp)
        simp only [GsBestRoute.l0, unp3_mk, letK, joinK, appK, iteK_if]
        have hgo : cntK (GsBestRoute.l1 l p e) l.length 0 (o, m, acc) (GsBestRoute.e1 (fun s' => loopK (GsBestRoute.l0 l p e) n s' GsBestRoute.e0)) = some (acc ++ [(k : Int)] ++ r, true) := by
          refine cnt_first (p := fun k => match l[k]? with | none => false | some x => cand l p e o m x) hk (fun k nx h1 h2 => inner2 k nx (by omega) h2) hk3 (fun nx => ?_)
          rw [← r2]
          rw [hci] at hk2
          have hc2 := of_decide_eq_true hk2
          clear r1 r2 r3 r4 hk2 hci hx
          revert hi hx1 hc2
          generalize l[k] = x
          intro hi hx1 hc2
          obtain ⟨a, b, c, d⟩ := x
          dsimp only at hx1 hc2
          simp only [GsBestRoute.l1, unp3_mk, hi, Option.bind_some, unMail, joinK, appK, iteK_if, letK, times_eq hg hx1.2.1, idx_at (early_len l c d) hp]
          rw [guardK_pos (by omega)]
          simp [hc2, GsBestRoute.e1, unp3_mk, appK]
        by_cases h1 : o = p
        · have h2 : ¬ m = e := fun q => hne ⟨h1, q⟩
          simp [h1, h2] at hgo ⊢
          exact hgo
        · simp [h1] at hgo ⊢
          exact hgo
      · simp only [endF]
        rw [if_pos (by omega), show ((k : Int)).toNat = k by omega, hx]
        dsimp only
        rw [if_pos ⟨r5, r6⟩]; exact r3
      · simp; omega
theorem best_both {fuel : Nat} (l : List Mail) (hl : l.length ≤ 9223372036854775807) (o m p : Int) (hf : 10000 < fuel) : ∃ r ok, GiBestRoute.P fuel l o m p = some (r, ok) ∧ GsBestRoute.P fuel l o m p = some (r, ok) ∧ r.length ≤ 10000 ∧ ok = (atRes l o m p).2 ∧ (ok = true → endF l r o m = some (p, (atRes l o m p).1)) := by
  simp only [GiBestRoute.P, GsBestRoute.P, at_impl l hl, at_spec l hl]
  by_cases h : askM l o m = true ∧ inB p 0 9 = true ∧ at_ (earlyM l o m) p ≠ 10000
  · have hr : atRes l o m p = (at_ (earlyM l o m) p, true) := by unfold atRes; rw [if_pos h]
    obtain ⟨h1, h2, h3⟩ := h
    obtain ⟨hg, ho, hm⟩ := ask_of h1
    have hp := inB_of h2
    have htop := early_top hg (m := m) ho hm.2 hp
    have hlow := early_low hg (m := m) ho hm.2 hp
    rw [hr]
    obtain ⟨r, r1, r2, r3, r4⟩ := both hg hp (e := at_ (earlyM l o m) p) (by omega) fuel o m [] ho (by omega) rfl (by simp; omega) (by omega)
    rw [List.nil_append] at r1 r2
    refine ⟨r, true, ?_, ?_, by omega, rfl, fun _ => r3⟩
    · simp only [bind2_some, letK, iteK_if, Bool.not_true, Bool.false_eq_true, if_false, latest_eq hg hp _ (show 20 < fuel by omega), Option.bind_some, un_eq, GiFirstRoute.P]
      rw [ten (late_len l p _), r1]; rfl
    · simp only [bind2_some, letK, iteK_if, Bool.not_true, Bool.false_eq_true, if_false]
      exact r2
  · have hr : atRes l o m p = (0, false) := by unfold atRes; rw [if_neg h]
    rw [hr]
    exact ⟨[], false, rfl, rfl, by simp, rfl, fun q => absurd q (by simp)⟩
end Go.Proofs.Ythkaeighfjadlaa.Q9Best

/- A loop that gathers what a test lets through: the plain loop's answer. (QGath) No condition but those of each theorem. -/
namespace Go.Proofs.Ythkaeighfjadlaa.QGath
set_option linter.unusedVariables false
open Go.RowKit
open Go.Proofs.Ythkaeighfjadlaa.GoP Go.Proofs.Ythkaeighfjadlaa.QBase Go.Proofs.Ythkaeighfjadlaa.QLoop

theorem gather {α β R : Type} {l : List α} {p : α → Bool} {g : α → β} {f : Nat → List β → (List β → Option R) → (List β → Option R) → Option R} {fin : List β → Option R} (hl : l.length ≤ 1099511627776)
    (step : ∀ k nx x s, l[k]? = some x → s.length ≤ 1099511627776 → f k s nx fin = nx (if p x then s ++ [g x] else s)) : cntK f l.length 0 [] fin = fin ((l.filter p).map g) := by
  have key : ∀ m k, k + m = l.length → cntK f m k (((l.take k).filter p).map g) fin = fin ((l.filter p).map g) := by
    intro m
    induction m with
    | zero => intro k hk; obtain rfl : k = l.length := by omega
              rw [List.take_of_length_le (Nat.le_refl _)]; rfl
    | succ m ih =>
      intro k hk
      obtain ⟨x, hx, _⟩ := at_lt (l := l) (k := k) (by omega)
      show f k _ _ fin = _
      have hle : (((l.take k).filter p).map g).length ≤ 1099511627776 := by
        rw [List.length_map]
        have := List.length_filter_le p (l.take k)
        rw [List.length_take] at this
        omega
      rw [step k _ x _ hx hle, ← ih (k + 1) (by omega), take_next hx, List.filter_append, List.map_append]
      cases hp : p x <;> simp [List.filter, hp]
  exact key l.length 0 (by omega)
end Go.Proofs.Ythkaeighfjadlaa.QGath

