/- The texts on which the proof of FnMails stands, one behind the other (5 of 5). No condition of their own. -/
import Derived.Test.YtfjcibkgbalkaaaDoorFnMailsP4
import Derived.Test.YtfjcibkgbalkaaaDoorFnMailsP1
import Derived.Test.YtfjcibkgbalkaaaDoorFnMailsP2
import Derived.Test.YtfjcibkgbalkaaaDoorFnMailsP3
/- Chapter 9: mails and routes: the plain functions of the program and of the reference agree, and the laws answer true. (Q9Cand) No condition but those of each theorem. -/
namespace Go.Proofs.YtfjcibkgbalkaaaDoor.Q9Cand
set_option linter.unusedVariables false
set_option linter.unusedSimpArgs false
open Go.RowKit
open Go.Proofs.YtfjcibkgbalkaaaDoor.GoP Go.Proofs.YtfjcibkgbalkaaaDoor.PlainStamp Go.Proofs.YtfjcibkgbalkaaaDoor.QBase Go.Proofs.YtfjcibkgbalkaaaDoor.Q9Dual Go.Proofs.YtfjcibkgbalkaaaDoor.Q9Arr Go.Proofs.YtfjcibkgbalkaaaDoor.Q9List Go.Proofs.YtfjcibkgbalkaaaDoor.Q9Mail Go.Proofs.YtfjcibkgbalkaaaDoor.QLoop Go.Proofs.YtfjcibkgbalkaaaDoor.PMail Go.Proofs.YtfjcibkgbalkaaaDoor.PIntA10

theorem split_at {l : List Mail} {k : Nat} {x : Mail} (h : l[k]? = some x) : l = l.take k ++ x :: l.drop (k + 1) := by
  obtain ⟨hk, e⟩ := List.getElem?_eq_some_iff.1 h
  rw [← e, ← List.drop_eq_getElem_cons hk, List.take_append_drop]
/-- those ahead of a mail leave no later -/
theorem aheadM {l : List Mail} (hg : goodM l = true) {k : Nat} {x : Mail} (hx : l[k]? = some x) : ∀ y ∈ l.take k, y.leave ≤ x.leave := by
  intro y hy
  obtain ⟨j, hj⟩ := List.getElem?_of_mem hy
  rw [List.getElem?_take] at hj
  split at hj
  · exact m_leave hg (by assumption) hj hx
  · exact absurd hj (by simp)
theorem late_cut {l : List Mail} {k : Nat} {x : Mail} (hx : l[k]? = some x) (p b : Int) : lateM l p b = (l.take k).foldr stepL (stepL x (lateM (l.drop (k + 1)) p b)) := by
  have h := split_at hx
  show l.foldr stepL (startL p b) = _
  conv => lhs; rw [h]
  rw [List.foldr_append, List.foldr_cons]; rfl
/-- whether one still comes in time behind a mail is told by those behind it alone -/
theorem late_behind {l : List Mail} (hg : goodM l = true) {k : Nat} {x : Mail} (hx : l[k]? = some x) (p b : Int) : x.arrive ≤ at_ (lateM l p b) x.to_ ↔ x.arrive ≤ at_ (lateM (l.drop (k + 1)) p b) x.to_ := by
  have hok := m_ok hg hx
  have hm := okM_of hok
  have hd := late_len (l.drop (k + 1)) p b
  have h1 : at_ (stepL x (lateM (l.drop (k + 1)) p b)) x.to_ = at_ (lateM (l.drop (k + 1)) p b) x.to_ := by
    rw [stepL_at hd hok hm.2.1, if_neg (fun q => hm.2.2.1 q.2.symm)]
  rw [late_cut hx p b]
  have hmem : ∀ y ∈ l.take k, okM y = true := fun y hy => m_mem hg (List.mem_of_mem_take hy)
  have h2 := foldL_up (l.take k) hmem hm.2.1 (t := stepL x (lateM (l.drop (k + 1)) p b)) (by rw [stepL_len, hd])
  have h3 := foldL_top (l.take k) hmem (aheadM hg hx) hm.2.1 (t := stepL x (lateM (l.drop (k + 1)) p b)) (by rw [stepL_len, hd])
  rw [h1] at h2 h3
  constructor
  · intro h; omega
  · intro h; omega
theorem late_from {l : List Mail} (hg : goodM l = true) {k : Nat} {x : Mail} (hx : l[k]? = some x) {p b : Int} (h : x.arrive ≤ at_ (lateM l p b) x.to_) : x.leave ≤ at_ (lateM l p b) x.from_ := by
  have hok := m_ok hg hx
  have hm := okM_of hok
  have hd := late_len (l.drop (k + 1)) p b
  have h1 := (late_behind hg hx p b).1 h
  rw [late_cut hx p b]
  have hmem : ∀ y ∈ l.take k, okM y = true := fun y hy => m_mem hg (List.mem_of_mem_take hy)
  refine Int.le_trans ?_ (foldL_up (l.take k) hmem hm.1 (by rw [stepL_len, hd]))
  rw [stepL_at hd hok hm.1, if_pos ⟨h1, rfl⟩]; omega
/-- with a mail one comes no earlier than without asking for it -/
theorem take_le {l : List Mail} (hg : goodM l = true) {k : Nat} {x : Mail} (hx : l[k]? = some x) {m p : Int} (hp : 0 ≤ p ∧ p ≤ 9) (hm : 0 ≤ m ∧ m ≤ x.leave) : at_ (earlyM l x.from_ m) p ≤ at_ (earlyM l x.to_ x.arrive) p := by
  have ho := okM_of (m_ok hg hx)
  obtain ⟨b, hb⟩ : ∃ b, b = at_ (earlyM l x.to_ x.arrive) p := ⟨_, rfl⟩
  rw [← hb]
  by_cases h : b ≤ 9999
  · have h1 := (dual hg ho.2.1 hp (by omega) h).1 (Int.le_of_eq hb.symm)
    have h2 := late_from hg hx h1
    exact (dual hg ho.1 hp (by omega) h).2 (by omega)
  · have := early_top hg (m := m) ho.1 (by omega) hp; omega
/-- where one may be later than at first, some mail leads on -/
theorem late_some (l : List Mail) (hl : ∀ x ∈ l, okM x = true) {p b o m : Int} (hp : 0 ≤ p ∧ p ≤ 9) (ho : 0 ≤ o ∧ o ≤ 9) (h0 : at_ (startL p b) o < m) (h : m ≤ at_ (lateM l p b) o) : ∃ x ∈ l, x.from_ = o ∧ m ≤ x.leave ∧ x.arrive ≤ at_ (lateM l p b) x.to_ := by
  induction l with
  | nil => exact absurd h (by simp only [lateM, List.foldr_nil]; omega)
  | cons x l ih =>
    have hok := hl x (List.mem_cons_self ..)
    have hm := okM_of hok
    have hlen := late_len l p b
    have e : lateM (x :: l) p b = stepL x (lateM l p b) := rfl
    by_cases h1 : m ≤ at_ (lateM l p b) o
    · obtain ⟨y, hy, h2, h3, h4⟩ := ih (fun y hy => hl y (List.mem_cons_of_mem _ hy)) h1
      refine ⟨y, List.mem_cons_of_mem _ hy, h2, h3, Int.le_trans h4 ?_⟩
      rw [e, stepL_at hlen hok (okM_of (hl y (List.mem_cons_of_mem _ hy))).2.1]
      split <;> omega
    · rw [e, stepL_at hlen hok ho] at h
      split at h
      · rename_i hc
        refine ⟨x, List.mem_cons_self .., hc.2.symm, by omega, ?_⟩
        rw [e, stepL_at hlen hok hm.2.1, if_neg (fun q => hm.2.2.1 q.2.symm)]
        exact hc.1
      · exact absurd h h1
/-- a mail that leads on from an office at a minute -/
def cand (l : List Mail) (p e o m : Int) (x : Mail) : Bool := decide (x.from_ = o ∧ m ≤ x.leave ∧ x.arrive ≤ at_ (lateM l p e) x.to_)
theorem cand_iff {l : List Mail} (hg : goodM l = true) {p e o m : Int} (hp : 0 ≤ p ∧ p ≤ 9) (hm : 0 ≤ m) (he : e ≤ 9999) (hE : at_ (earlyM l o m) p = e) {k : Nat} {x : Mail} (hx : l[k]? = some x) :
    cand l p e o m x = decide (x.from_ = o ∧ m ≤ x.leave ∧ at_ (earlyM l x.to_ x.arrive) p = e) := by
  have h1 := okM_of (m_ok hg hx)
  unfold cand
  congr 1
  rw [eq_iff_iff]
  constructor
  · rintro ⟨rfl, h3, h4⟩
    have h5 := (dual hg h1.2.1 hp (by omega) he).2 h4
    have h6 := take_le hg hx hp ⟨hm, h3⟩
    exact ⟨rfl, h3, by omega⟩
  · rintro ⟨h2, h3, h4⟩
    exact ⟨h2, h3, (dual hg h1.2.1 hp (by omega) he).1 (Int.le_of_eq h4)⟩
theorem cand_none {l : List Mail} (hg : goodM l = true) {p e o m : Int} (hp : 0 ≤ p ∧ p ≤ 9) (ho : 0 ≤ o ∧ o ≤ 9) (hm : 0 ≤ m) (he : e ≤ 9999) (hE : at_ (earlyM l o m) p = e) (hm9 : m ≤ 9999) :
    (∀ x ∈ l, cand l p e o m x = false) ↔ o = p ∧ m = e := by
  constructor
  · intro h
    have h1 := (dual hg ho hp ⟨hm, hm9⟩ he).1 (Int.le_of_eq hE)
    have hup := early_up hg (m := m) ho hp
    have hlow := early_low hg ho hm9 hp
    by_cases hop : o = p
    · rw [if_pos hop.symm] at hup; exact ⟨hop, by omega⟩
    · obtain ⟨x, hx, h2, h3, h4⟩ := late_some l (fun x hx => m_mem hg hx) hp ho (m := m) (by rw [startL_at hp ho, if_neg hop]; omega) h1
      have := h x hx
      unfold cand at this
      rw [decide_eq_true (show x.from_ = o ∧ m ≤ x.leave ∧ x.arrive ≤ at_ (lateM l p e) x.to_ from ⟨h2, h3, h4⟩)] at this
      exact absurd this (by simp)
  · rintro ⟨rfl, rfl⟩ x hx
    obtain ⟨k, hk⟩ := List.getElem?_of_mem hx
    have h1 := okM_of (m_mem hg hx)
    rw [cand_iff hg hp hm he hE hk, decide_eq_false]
    rintro ⟨h2, h3, h4⟩
    have := early_low hg h1.2.1 (m := x.arrive) (by omega) hp
    omega
end Go.Proofs.YtfjcibkgbalkaaaDoor.Q9Cand

/- Chapter 9: mails and routes: the plain functions of the program and of the reference agree, and the laws answer true. (Q9Late) No condition but those of each theorem. -/
namespace Go.Proofs.YtfjcibkgbalkaaaDoor.Q9Late
set_option linter.unusedVariables false
set_option linter.unusedSimpArgs false
open Go.RowKit
open Go.Proofs.YtfjcibkgbalkaaaDoor.GoP Go.Proofs.YtfjcibkgbalkaaaDoor.PlainStamp Go.Proofs.YtfjcibkgbalkaaaDoor.QBase Go.Proofs.YtfjcibkgbalkaaaDoor.QFoldS Go.Proofs.YtfjcibkgbalkaaaDoor.Q9Cand Go.Proofs.YtfjcibkgbalkaaaDoor.Q9Dual Go.Proofs.YtfjcibkgbalkaaaDoor.Q9Arr Go.Proofs.YtfjcibkgbalkaaaDoor.Q9List Go.Proofs.YtfjcibkgbalkaaaDoor.Q9Mail Go.Proofs.YtfjcibkgbalkaaaDoor.QUp Go.Proofs.YtfjcibkgbalkaaaDoor.QAll Go.Proofs.YtfjcibkgbalkaaaDoor.QLoop Go.Proofs.YtfjcibkgbalkaaaDoor.PMail Go.Proofs.YtfjcibkgbalkaaaDoor.PIntA10 Go.Proofs.YtfjcibkgbalkaaaDoor.GoA

theorem latest_eq {fuel : Nat} {l : List Mail} (hg : goodM l = true) {p : Int} (hp : 0 ≤ p ∧ p ≤ 9) (b : Int) (hf : 20 < fuel) : GiLatestMinutes.P fuel l p b = some (toA (lateM l p b)) := by
  have hlen := m_len hg
  simp only [GiLatestMinutes.P, filled_eq, Option.bind_some, un_eq, letK]
  rw [ten (by simp), idx_at (by simp) hp, Option.bind_some, wrap_in (by omega) (by omega)]
  refine lp_is (n := l.length) _ (fun k (s : List Int × Int) => s = (lateM (l.drop (l.length - k)) p b, (l.length : Int) - 1 - (k : Int))) ?_ ?_ fuel 0 _ (by omega) (by omega) ?_
  · intro k s nx hk hI hn
    subst hI
    have hq : l.length - k - 1 < l.length := by omega
    have hx : l[l.length - k - 1]? = some l[l.length - k - 1] := List.getElem?_eq_getElem hq
    have hi : idx l ((l.length : Int) - 1 - (k : Int)) = some l[l.length - k - 1] := by
      rw [show (l.length : Int) - 1 - (k : Int) = ((l.length - k - 1 : Nat) : Int) by omega, idx_nat, hx]
    have hd : lateM (l.drop (l.length - (k + 1))) p b = stepL l[l.length - k - 1] (lateM (l.drop (l.length - k)) p b) := by
      unfold lateM
      rw [show l.length - (k + 1) = l.length - k - 1 by omega, List.drop_eq_getElem_cons hq, List.foldr_cons, show l.length - k - 1 + 1 = l.length - k by omega]
    have hok := okM_of (m_ok hg hx)
    have h0 : (0 : Int) ≤ (l.length : Int) - 1 - (k : Int) := by omega
    simp only [GiLatestMinutes.l0, unp2_mk, letK, decide_eq_true h0, iteK_if, if_true, hi, Option.bind_some]
    have hn2 := hn (stepL l[l.length - k - 1] (lateM (l.drop (l.length - k)) p b), (l.length : Int) - 1 - (k : Int) - 1) (by rw [hd]; congr 1; omega)
    revert hok hn2
    generalize l[l.length - k - 1] = x
    intro hok hn2
    obtain ⟨c, d, e, g⟩ := x
    dsimp only at hok
    simp only [unMail, idx_at (late_len _ p b) hok.2.1, idx_at (late_len _ p b) hok.1, Option.bind_some]
    rw [wrap_in (by omega) (by omega)]
    unfold stepL at hn2
    dsimp only at hn2
    by_cases h : g ≤ at_ (lateM (l.drop (l.length - k)) p b) e
    · rw [if_pos h] at hn2; rw [if_pos (by simpa using h)]; exact hn2
    · rw [if_neg h] at hn2; rw [if_neg (by simpa using h)]; exact hn2
  · intro s nx hI
    subst hI
    have h0 : ¬ (0 : Int) ≤ (l.length : Int) - 1 - (l.length : Int) := by omega
    simp only [GiLatestMinutes.l0, unp2_mk, letK, decide_eq_false h0, iteK_if, Bool.false_eq_true, if_false, appK, GiLatestMinutes.e0, Nat.sub_self, List.drop_zero]
    rfl
  · simp [lateM]; rfl
end Go.Proofs.YtfjcibkgbalkaaaDoor.Q9Late

/- Chapter 9: mails and routes: the plain functions of the program and of the reference agree, and the laws answer true. (Q9Early) No condition but those of each theorem. -/
namespace Go.Proofs.YtfjcibkgbalkaaaDoor.Q9Early
set_option linter.unusedVariables false
set_option linter.unusedSimpArgs false
open Go.RowKit
open Go.Proofs.YtfjcibkgbalkaaaDoor.GoP Go.Proofs.YtfjcibkgbalkaaaDoor.PlainStamp Go.Proofs.YtfjcibkgbalkaaaDoor.QBase Go.Proofs.YtfjcibkgbalkaaaDoor.QFoldS Go.Proofs.YtfjcibkgbalkaaaDoor.Q9Dual Go.Proofs.YtfjcibkgbalkaaaDoor.Q9Arr Go.Proofs.YtfjcibkgbalkaaaDoor.Q9List Go.Proofs.YtfjcibkgbalkaaaDoor.Q9Mail Go.Proofs.YtfjcibkgbalkaaaDoor.QLoop Go.Proofs.YtfjcibkgbalkaaaDoor.PMail Go.Proofs.YtfjcibkgbalkaaaDoor.PIntA10 Go.Proofs.YtfjcibkgbalkaaaDoor.GoA

theorem least_eq (a b : Int) : GsL1Least.P a b = some (min a b) := by
  simp only [GsL1Least.P, letK, iteK_if]
  by_cases h : a < b
  · rw [if_pos (by simpa using h)]; congr 1; omega
  · rw [if_neg (by simpa using h)]; congr 1; omega
theorem earliest_eq {l : List Mail} (hg : goodM l = true) {o : Int} (ho : 0 ≤ o ∧ o ≤ 9) (m : Int) : GiEarliestMinutes.P l o m = some (toA (earlyM l o m)) := by
  simp only [GiEarliestMinutes.P, filled_eq, Option.bind_some, un_eq, letK]
  rw [ten (by simp), idx_at (by simp) ho, Option.bind_some, fold_cnt (g := stepE) (J := fun s => s.length = 10)]
  · rfl
  · intro k x s nx hx hs
    have hk : idx l (k : Int) = some x := by rw [idx_nat, hx]
    have hm := okM_of (m_ok hg hx)
    obtain ⟨a, b, c, d⟩ := x
    dsimp only at hm
    refine ⟨?_, by rw [stepE_len, hs]⟩
    simp only [GiEarliestMinutes.l0, letK, hk, Option.bind_some, unMail, idx_at hs hm.1, iteK_if, stepE]
    by_cases h : at_ s b ≤ a
    · simp [h, idx_at hs hm.2.1, appK]
    · simp [h, appK]
  · simp
theorem times_eq {l : List Mail} (hg : goodM l = true) {o : Int} (ho : 0 ≤ o ∧ o ≤ 9) (m : Int) : GsL9Times.P l o m = some (earlyM l o m) := by
  simp only [GsL9Times.P, letK]
  rw [guardK_pos (by omega)]
  have h10 : cntK GsL9Times.l0 (List.replicate 10 (0 : Int)).length 0 (List.replicate 10 (0 : Int)) (GsL9Times.e0 l o m) = GsL9Times.e0 l o m (List.replicate 10 10000) := rfl
  rw [h10]
  simp only [GsL9Times.e0, letK]
  rw [idx_at (by simp) ho, Option.bind_some, fold_cnt (g := stepE) (J := fun s => s.length = 10)]
  · rfl
  · intro k x s nx hx hs
    have hk : idx l (k : Int) = some x := by rw [idx_nat, hx]
    have hm := okM_of (m_ok hg hx)
    obtain ⟨a, b, c, d⟩ := x
    dsimp only at hm
    refine ⟨?_, by rw [stepE_len, hs]⟩
    simp only [GsL9Times.l1, letK, hk, Option.bind_some, unMail, idx_at hs hm.1, iteK_if, stepE]
    by_cases h : at_ s b ≤ a
    · simp [h, idx_at hs hm.2.1, appK, least_eq]
    · simp [h, appK]
  · simp
end Go.Proofs.YtfjcibkgbalkaaaDoor.Q9Early

/- Chapter 9: mails and routes: the plain functions of the program and of the reference agree, and the laws answer true. (Q9Leave) No condition but those of each theorem. -/
namespace Go.Proofs.YtfjcibkgbalkaaaDoor.Q9Leave
set_option linter.unusedVariables false
set_option linter.unusedSimpArgs false
open Go.RowKit
open Go.Proofs.YtfjcibkgbalkaaaDoor.GoP Go.Proofs.YtfjcibkgbalkaaaDoor.PlainStamp Go.Proofs.YtfjcibkgbalkaaaDoor.QBase Go.Proofs.YtfjcibkgbalkaaaDoor.Q9Late Go.Proofs.YtfjcibkgbalkaaaDoor.Q9Early Go.Proofs.YtfjcibkgbalkaaaDoor.QFoldS Go.Proofs.YtfjcibkgbalkaaaDoor.Q9Cand Go.Proofs.YtfjcibkgbalkaaaDoor.Q9Dual Go.Proofs.YtfjcibkgbalkaaaDoor.Q9Arr Go.Proofs.YtfjcibkgbalkaaaDoor.Q9List Go.Proofs.YtfjcibkgbalkaaaDoor.Q9Mail Go.Proofs.YtfjcibkgbalkaaaDoor.QUp Go.Proofs.YtfjcibkgbalkaaaDoor.QAll Go.Proofs.YtfjcibkgbalkaaaDoor.QLoop Go.Proofs.YtfjcibkgbalkaaaDoor.PMail Go.Proofs.YtfjcibkgbalkaaaDoor.PIntA10

def leaveRes (l : List Mail) (o p b : Int) : Int × Bool := if goodM l = true ∧ inB o 0 9 = true ∧ inB p 0 9 = true ∧ o ≠ p ∧ inB b 0 9999 = true ∧ at_ (lateM l p b) o ≠ -1 then (at_ (lateM l p b) o, true) else (0, false)
theorem leave_impl {fuel : Nat} (l : List Mail) (hl : l.length ≤ 9223372036854775807) (o p b : Int) (hf : 20 < fuel) : GiLatestLeave.P fuel l o p b = some (leaveRes l o p b) := by
  simp only [GiLatestLeave.P, isTime_eq l hl, isOffice_eq, isMinute_eq, Option.bind_some, letK, joinK, appK, iteK_if, leaveRes]
  cases hg : goodM l with
  | false => simp
  | true =>
    cases ho : inB o 0 9 with
    | false => simp
    | true =>
      cases hp : inB p 0 9 with
      | false => simp
      | true =>
        have hp2 := inB_of hp
        have ho2 := inB_of ho
        by_cases he : o = p
        · simp [he]
        · cases hb : inB b 0 9999 with
          | false => simp [he]
          | true =>
            have he2 : (o == p) = false := by simpa using he
            simp only [Bool.not_true, Bool.false_eq_true, if_false, he2, latest_eq hg hp2 b hf, Option.bind_some, un_eq, ten (late_len l p b), idx_at (late_len l p b) ho2]
            by_cases h : at_ (lateM l p b) o = -1 <;> simp [h, he]
theorem leave_test {l : List Mail} (hg : goodM l = true) {o p b : Int} (hp : 0 ≤ p ∧ p ≤ 9) (hb : 0 ≤ b ∧ b ≤ 9999) {k : Nat} {x : Mail} (hx : l[k]? = some x) :
    (x.from_ = o ∧ x.arrive ≤ b ∧ at_ (earlyM l x.to_ x.arrive) p ≤ b) ↔ x.from_ = o ∧ x.arrive ≤ at_ (lateM (l.drop (k + 1)) p b) x.to_ := by
  have hm := okM_of (m_ok hg hx)
  rw [dual hg hm.2.1 hp (by omega) hb.2, ← late_behind hg hx p b]
  constructor
  · rintro ⟨h1, _, h2⟩; exact ⟨h1, h2⟩
  · rintro ⟨h1, h2⟩
    refine ⟨h1, ?_, h2⟩
    have h3 := (dual hg hm.2.1 hp (by omega) hb.2).2 h2
    have h4 := early_low hg hm.2.1 (m := x.arrive) (by omega) hp
    omega
/-- what is told by the last mail that leads on -/
theorem leave_last {l : List Mail} (hg : goodM l = true) {o p b : Int} {k : Nat} {x : Mail} (hx : l[k]? = some x) (h1 : x.from_ = o) (h2 : x.arrive ≤ at_ (lateM (l.drop (k + 1)) p b) x.to_) (h3 : at_ (lateM (l.drop (k + 1)) p b) o = -1) : at_ (lateM l p b) o = x.leave := by
  have hok := m_ok hg hx
  have hm := okM_of hok
  have hd := late_len (l.drop (k + 1)) p b
  subst h1
  have hs : at_ (stepL x (lateM (l.drop (k + 1)) p b)) x.from_ = x.leave := by
    rw [stepL_at hd hok hm.1, if_pos ⟨h2, rfl⟩, h3]; omega
  have hmem : ∀ y ∈ l.take k, okM y = true := fun y hy => m_mem hg (List.mem_of_mem_take hy)
  have h5 := foldL_up (l.take k) hmem hm.1 (t := stepL x (lateM (l.drop (k + 1)) p b)) (by rw [stepL_len, hd])
  have h6 := foldL_top (l.take k) hmem (aheadM hg hx) hm.1 (t := stepL x (lateM (l.drop (k + 1)) p b)) (by rw [stepL_len, hd])
  rw [late_cut hx p b]
  omega
theorem leave_spec {fuel : Nat} (l : List Mail) (hl : l.length ≤ 9223372036854775807) (o p b : Int) (hf : 20 < fuel) : GsLatestLeave.P fuel l o p b = some (leaveRes l o p b) := by
  simp only [GsLatestLeave.P, l9Asked_eq l hl, l9Office_eq, Option.bind_some, letK, joinK, appK, iteK_if]
  cases ha : askM l o b with
  | false =>
    have : leaveRes l o p b = (0, false) := by
      unfold leaveRes; rw [if_neg]
      rintro ⟨h1, h2, _, _, h3, _⟩
      unfold askM at ha; rw [h1, h2, h3] at ha; exact absurd ha (by simp)
    simp [this]
  | true =>
    obtain ⟨hg, ho, hb⟩ := ask_of ha
    have ha' := ha
    unfold askM at ha'
    simp only [Bool.and_eq_true] at ha'
    obtain ⟨⟨_, ho1⟩, hb1⟩ := ha'
    cases hp : inB p 0 9 with
    | false => simp [leaveRes, hp]
    | true =>
      have hp2 := inB_of hp
      by_cases he : o = p
      · simp [he, leaveRes]
      · have he2 : (o == p) = false := by simpa using he
        have hlen := m_len hg
        simp only [Bool.not_true, Bool.false_eq_true, if_false, he2]
        rw [wrap_in (by omega) (by omega)]
        refine lp_is (n := l.length) _ (fun k (s : Int) => s = (l.length : Int) - 1 - (k : Int) ∧ at_ (lateM (l.drop (l.length - k)) p b) o = -1) ?_ ?_ fuel 0 _ (by omega) (by omega) ?_
        · rintro k s nx hk ⟨rfl, hI⟩ hn
          have hq : l.length - k - 1 < l.length := by omega
          obtain ⟨x, hx⟩ : ∃ x, l[l.length - k - 1]? = some x := ⟨_, List.getElem?_eq_getElem hq⟩
          have hxe : l[l.length - k - 1] = x := by rw [List.getElem?_eq_getElem hq] at hx; exact Option.some.inj hx
          have hi : idx l ((l.length : Int) - 1 - (k : Int)) = some x := by
            rw [show (l.length : Int) - 1 - (k : Int) = ((l.length - k - 1 : Nat) : Int) by omega, idx_nat, hx]
          have hok := m_ok hg hx
          have hm := okM_of hok
          have hd : lateM (l.drop (l.length - (k + 1))) p b = stepL x (lateM (l.drop (l.length - k)) p b) := by
            unfold lateM
            rw [show l.length - (k + 1) = l.length - k - 1 by omega, List.drop_eq_getElem_cons hq, List.foldr_cons, hxe, show l.length - k - 1 + 1 = l.length - k by omega]
          have ht := leave_test hg hp2 hb hx (o := o)
          have hll := leave_last hg hx (o := o) (p := p) (b := b)
          rw [show l.length - k - 1 + 1 = l.length - k by omega] at ht hll
          have h0 : (0 : Int) ≤ (l.length : Int) - 1 - (k : Int) := by omega
          have hn2 := fun h => hn ((l.length : Int) - 1 - (k : Int) - 1) ⟨by omega, h⟩
          have ht1 := times_eq hg hm.2.1 x.arrive
          have hat := stepL_at (i := o) (late_len (l.drop (l.length - k)) p b) hok ho
          rw [hd] at hn2
          clear hx hxe hd
          obtain ⟨a, c, d, e⟩ := x
          dsimp only at hm ht hll ht1 hat
          have no : ¬ (c = o ∧ e ≤ b ∧ at_ (earlyM l d e) p ≤ b) → at_ (stepL ⟨a, c, d, e⟩ (lateM (l.drop (l.length - k)) p b)) o = -1 := by
            intro h
            rw [hat, if_neg (fun q => h (ht.2 ⟨q.2.symm, q.1⟩)), hI]
          simp only [GsLatestLeave.l0, letK, decide_eq_true h0, iteK_if, if_true, hi, Option.bind_some, unMail, joinK, appK]
          rw [wrap_in (by omega) (by omega)]
          by_cases h1 : c = o
          · by_cases h2 : e ≤ b
            · simp only [beq_iff_eq, h1, if_true, decide_eq_true h2, ht1, Option.bind_some, idx_at (early_len l d e) hp2]
              by_cases h3 : at_ (earlyM l d e) p ≤ b
              · have h4 := hll h1 (ht.1 ⟨h1, h2, h3⟩).2 hI
                have h5 : ¬ a = -1 := by omega
                simp [h3, leaveRes, hg, ho1, hp, he, hb1, h4, h5]
              · simp only [decide_eq_false h3, Bool.false_eq_true, if_false]
                exact hn2 (no (fun q => h3 q.2.2))
            · simp only [beq_iff_eq, h1, if_true, decide_eq_false h2, Bool.false_eq_true, if_false]
              exact hn2 (no (fun q => h2 q.2.1))
          · have h1' : (c == o) = false := by simpa using h1
            simp only [h1', Bool.false_eq_true, if_false]
            exact hn2 (no (fun q => h1 q.1))
        · rintro s nx ⟨rfl, hI⟩
          have h0 : ¬ (0 : Int) ≤ (l.length : Int) - 1 - (l.length : Int) := by omega
          rw [Nat.sub_self, List.drop_zero] at hI
          simp only [GsLatestLeave.l0, letK, decide_eq_false h0, iteK_if, Bool.false_eq_true, if_false, appK, GsLatestLeave.e0]
          simp [leaveRes, hI]
        · refine ⟨by simp, ?_⟩
          rw [Nat.sub_zero, List.drop_length]
          show at_ (startL p b) o = -1
          rw [startL_at hp2 ho, if_neg he]
end Go.Proofs.YtfjcibkgbalkaaaDoor.Q9Leave

/- A loop that gathers what a test lets through: the plain loop's answer. (QGath) No condition but those of each theorem. -/
namespace Go.Proofs.YtfjcibkgbalkaaaDoor.QGath
set_option linter.unusedVariables false
open Go.RowKit
open Go.Proofs.YtfjcibkgbalkaaaDoor.GoP Go.Proofs.YtfjcibkgbalkaaaDoor.QBase Go.Proofs.YtfjcibkgbalkaaaDoor.QLoop

theorem gather {α β R : Type} {l : List α} {p : α → Bool} {g : α → β} {f : Nat → List β → (List β → Option R) → (List β → Option R) → Option R} {fin : List β → Option R} (hl : l.length ≤ 1099511627776)
    (step : ∀ k nx x s, l[k]? = some x → s.length ≤ 1099511627776 → f k s nx fin = nx (if p x then s ++ [g x] else s)) : cntK f l.length 0 [] fin = fin ((l.filter p).map g) := by
  have key : ∀ m k, k + m = l.length → cntK f m k (((l.take k).filter p).map g) fin = fin ((l.filter p).map g) := by
    intro m
    induction m with
    | zero => intro k hk; obtain rfl : k = l.length := by omega
              rw [List.take_of_length_le (Nat.le_refl _)]; rfl
    | succ m ih =>
      intro k hk
      obtain ⟨x, hx, _⟩ := at_lt (l := l) (k := k) (by omega)
      show f k _ _ fin = _
      have hle : (((l.take k).filter p).map g).length ≤ 1099511627776 := by
        rw [List.length_map]
        have := List.length_filter_le p (l.take k)
        rw [List.length_take] at this
        omega
      rw [step k _ x _ hx hle, ← ih (k + 1) (by omega), take_next hx, List.filter_append, List.map_append]
      cases hp : p x <;> simp [List.filter, hp]
  exact key l.length 0 (by omega)
end Go.Proofs.YtfjcibkgbalkaaaDoor.QGath

/- Chapter 9: mails and routes: the plain functions of the program and of the reference agree, and the laws answer true. (Q9Miss) No condition but those of each theorem. -/
namespace Go.Proofs.YtfjcibkgbalkaaaDoor.Q9Miss
set_option linter.unusedVariables false
set_option linter.unusedSimpArgs false
open Go.RowKit
open Go.Proofs.YtfjcibkgbalkaaaDoor.GoP Go.Proofs.YtfjcibkgbalkaaaDoor.PlainStamp Go.Proofs.YtfjcibkgbalkaaaDoor.QBase Go.Proofs.YtfjcibkgbalkaaaDoor.QFoldS Go.Proofs.YtfjcibkgbalkaaaDoor.Q9Early Go.Proofs.YtfjcibkgbalkaaaDoor.Q9Dual Go.Proofs.YtfjcibkgbalkaaaDoor.Q9Arr Go.Proofs.YtfjcibkgbalkaaaDoor.Q9List Go.Proofs.YtfjcibkgbalkaaaDoor.Q9Mail Go.Proofs.YtfjcibkgbalkaaaDoor.QGath Go.Proofs.YtfjcibkgbalkaaaDoor.QLoop Go.Proofs.YtfjcibkgbalkaaaDoor.PMail Go.Proofs.YtfjcibkgbalkaaaDoor.PIntA10

def missP (l : List Mail) (t : List Int) (k : Nat) : Bool := match l[k]? with | none => false | some x => decide (x.leave < at_ t x.from_)
def missL (l : List Mail) (t : List Int) : List Int := ((List.range l.length).filter (missP l t)).map fun (k : Nat) => (k : Int)
def missRes (l : List Mail) (o m : Int) : List Int × Bool := if askM l o m = true then (missL l (earlyM l o m), true) else ([], false)
theorem miss_impl (l : List Mail) (hl : l.length ≤ 9223372036854775807) (o m : Int) : GiMissedMails.P l o m = some (missRes l o m) := by
  simp only [GiMissedMails.P, canBegin_eq l hl, Option.bind_some, letK, iteK_if, missRes]
  cases ha : askM l o m with
  | false => simp
  | true =>
    obtain ⟨hg, ho, hm⟩ := ask_of ha
    have hlen := m_len hg
    simp only [Bool.not_true, Bool.false_eq_true, if_false, earliest_eq hg ho, Option.bind_some, un_eq, if_true]
    rw [ten (early_len l o m), show l.length = (List.range l.length).length by simp]
    rw [gather (l := List.range l.length) (p := missP l (earlyM l o m)) (g := fun (k : Nat) => (k : Int)) (by simp; omega)]
    · simp [GiMissedMails.e0, letK, missL]
    · intro k nx x s hx hs
      obtain ⟨hk, rfl⟩ := range_at hx
      have hy : l[k]? = some l[k] := List.getElem?_eq_getElem hk
      have hi : idx l (k : Int) = some l[k] := by rw [idx_nat, hy]
      have hok := okM_of (m_ok hg hy)
      simp only [missP, hy, GiMissedMails.l0, hi, letK, Option.bind_some]
      revert hok
      generalize l[k] = y
      intro hok
      obtain ⟨a, b, c, d⟩ := y
      dsimp only at hok
      simp only [unMail, idx_at (early_len l o m) hok.1, Option.bind_some, iteK_if]
      rw [guardK_pos hs]
      by_cases h : a < at_ (earlyM l o m) b <;> simp [h, appK]
theorem miss_spec (l : List Mail) (hl : l.length ≤ 9223372036854775807) (o m : Int) : GsMissedMails.P l o m = some (missRes l o m) := by
  simp only [GsMissedMails.P, l9Asked_eq l hl, Option.bind_some, letK, iteK_if, missRes]
  cases ha : askM l o m with
  | false => simp
  | true =>
    obtain ⟨hg, ho, hm⟩ := ask_of ha
    have hlen := m_len hg
    simp only [Bool.not_true, Bool.false_eq_true, if_false, times_eq hg ho, Option.bind_some, if_true]
    rw [show l.length = (List.range l.length).length by simp]
    rw [gather (l := List.range l.length) (p := missP l (earlyM l o m)) (g := fun (k : Nat) => (k : Int)) (by simp; omega)]
    · simp [GsMissedMails.e0, letK, missL]
    · intro k nx x s hx hs
      obtain ⟨hk, rfl⟩ := range_at hx
      have hy : l[k]? = some l[k] := List.getElem?_eq_getElem hk
      have hi : idx l (k : Int) = some l[k] := by rw [idx_nat, hy]
      have hok := okM_of (m_ok hg hy)
      simp only [missP, hy, GsMissedMails.l0, hi, letK, Option.bind_some]
      revert hok
      generalize l[k] = y
      intro hok
      obtain ⟨a, b, c, d⟩ := y
      dsimp only at hok
      simp only [unMail, idx_at (early_len l o m) hok.1, Option.bind_some, iteK_if]
      rw [guardK_pos hs]
      by_cases h : a < at_ (earlyM l o m) b <;> simp [h, appK]
theorem miss_len (l : List Mail) (o m : Int) : (missRes l o m).1.length ≤ 20 := by
  unfold missRes
  split
  · rename_i h
    have := m_len (ask_of h).1
    simp only [missL, List.length_map]
    exact Nat.le_trans (List.length_filter_le _ _) (by simp; omega)
  · simp
end Go.Proofs.YtfjcibkgbalkaaaDoor.Q9Miss

/- Chapter 9: mails and routes: the plain functions of the program and of the reference agree, and the laws answer true. (Q9Reach) No condition but those of each theorem. -/
namespace Go.Proofs.YtfjcibkgbalkaaaDoor.Q9Reach
set_option linter.unusedVariables false
set_option linter.unusedSimpArgs false
open Go.RowKit
open Go.Proofs.YtfjcibkgbalkaaaDoor.GoP Go.Proofs.YtfjcibkgbalkaaaDoor.PlainStamp Go.Proofs.YtfjcibkgbalkaaaDoor.QBase Go.Proofs.YtfjcibkgbalkaaaDoor.QFoldS Go.Proofs.YtfjcibkgbalkaaaDoor.Q9Early Go.Proofs.YtfjcibkgbalkaaaDoor.Q9Dual Go.Proofs.YtfjcibkgbalkaaaDoor.Q9Arr Go.Proofs.YtfjcibkgbalkaaaDoor.Q9List Go.Proofs.YtfjcibkgbalkaaaDoor.Q9Mail Go.Proofs.YtfjcibkgbalkaaaDoor.QGath Go.Proofs.YtfjcibkgbalkaaaDoor.QLoop Go.Proofs.YtfjcibkgbalkaaaDoor.PMail Go.Proofs.YtfjcibkgbalkaaaDoor.PIntA10

def reachL (t : List Int) (b : Int) : List Int := ((List.range 10).filter fun (k : Nat) => decide (at_ t (k : Int) ≤ b)).map fun (k : Nat) => (k : Int)
def reachRes (l : List Mail) (o m b : Int) : List Int × Bool := if askM l o m = true ∧ inB b 0 9999 = true ∧ m ≤ b then (reachL (earlyM l o m) b, true) else ([], false)
theorem reach_impl (l : List Mail) (hl : l.length ≤ 9223372036854775807) (o m b : Int) : GiReachedBy.P l o m b = some (reachRes l o m b) := by
  simp only [GiReachedBy.P, canBegin_eq l hl, isMinute_eq, Option.bind_some, letK, joinK, appK, iteK_if, reachRes]
  cases ha : askM l o m with
  | false => simp
  | true =>
    obtain ⟨hg, ho, hm⟩ := ask_of ha
    cases hp : inB b 0 9999 with
    | false => simp
    | true =>
      by_cases hmb : m ≤ b
      · have h2 : ¬ b < m := by omega
        simp only [Bool.not_true, Bool.false_eq_true, if_false, decide_eq_false h2, earliest_eq hg ho, Option.bind_some, un_eq, hmb, and_self, if_true]
        show cntK _ (List.range 10).length 0 _ _ = _
        rw [gather (l := List.range 10) (p := fun (k : Nat) => decide (at_ (earlyM l o m) (k : Int) ≤ b)) (g := fun (k : Nat) => (k : Int)) (by simp)]
        · rfl
        · intro k nx x s hx hs
          obtain ⟨hk, rfl⟩ := range_at hx
          simp only [GiReachedBy.l0, letK, ten (early_len l o m), idx_at (early_len l o m) (show 0 ≤ (k : Int) ∧ (k : Int) ≤ 9 by omega), Option.bind_some, iteK_if]
          rw [guardK_pos hs]
          by_cases h : at_ (earlyM l o m) (k : Int) ≤ b <;> simp [h, appK]
      · have h2 : b < m := by omega
        simp [hmb, h2]
theorem reach_spec (l : List Mail) (hl : l.length ≤ 9223372036854775807) (o m b : Int) : GsReachedBy.P l o m b = some (reachRes l o m b) := by
  simp only [GsReachedBy.P, l9Asked_eq l hl, l1In_eq, Option.bind_some, letK, joinK, appK, iteK_if, reachRes]
  cases ha : askM l o m with
  | false => simp
  | true =>
    obtain ⟨hg, ho, hm⟩ := ask_of ha
    have hb : inB b m 9999 = decide (inB b 0 9999 = true ∧ m ≤ b) := by unfold inB; rw [Bool.eq_iff_iff]; simp; omega
    rw [hb]
    by_cases hmb : inB b 0 9999 = true ∧ m ≤ b
    · simp only [hmb, decide_true, Bool.not_true, Bool.false_eq_true, if_false, times_eq hg ho, Option.bind_some, and_self, if_true]
      show cntK _ (List.range 10).length 0 _ _ = _
      rw [gather (l := List.range 10) (p := fun (k : Nat) => decide (at_ (earlyM l o m) (k : Int) ≤ b)) (g := fun (k : Nat) => (k : Int)) (by simp)]
      · rfl
      · intro k nx x s hx hs
        obtain ⟨hk, rfl⟩ := range_at hx
        simp only [GsReachedBy.l0, letK, idx_at (early_len l o m) (show 0 ≤ (k : Int) ∧ (k : Int) ≤ 9 by omega), Option.bind_some, iteK_if]
        rw [guardK_pos hs]
        by_cases h : at_ (earlyM l o m) (k : Int) ≤ b <;> simp [h, appK]
    · simp only [decide_eq_false hmb, Bool.not_true, Bool.not_false, Bool.false_eq_true, if_false, if_true]
      rw [if_neg (fun h => hmb h.2)]
theorem reach_len (l : List Mail) (o m b : Int) : (reachRes l o m b).1.length ≤ 10 := by
  unfold reachRes
  split
  · simp only [reachL, List.length_map]
    exact Nat.le_trans (List.length_filter_le _ _) (by simp)
  · simp
end Go.Proofs.YtfjcibkgbalkaaaDoor.Q9Reach

/- Chapter 9: mails and routes: the plain functions of the program and of the reference agree, and the laws answer true. (Q9At) No condition but those of each theorem. -/
namespace Go.Proofs.YtfjcibkgbalkaaaDoor.Q9At
set_option linter.unusedVariables false
set_option linter.unusedSimpArgs false
open Go.RowKit
open Go.Proofs.YtfjcibkgbalkaaaDoor.GoP Go.Proofs.YtfjcibkgbalkaaaDoor.PlainStamp Go.Proofs.YtfjcibkgbalkaaaDoor.QBase Go.Proofs.YtfjcibkgbalkaaaDoor.Q9Early Go.Proofs.YtfjcibkgbalkaaaDoor.Q9Dual Go.Proofs.YtfjcibkgbalkaaaDoor.Q9Arr Go.Proofs.YtfjcibkgbalkaaaDoor.Q9List Go.Proofs.YtfjcibkgbalkaaaDoor.Q9Mail Go.Proofs.YtfjcibkgbalkaaaDoor.QLoop Go.Proofs.YtfjcibkgbalkaaaDoor.PMail Go.Proofs.YtfjcibkgbalkaaaDoor.PIntA10

def atRes (l : List Mail) (o m p : Int) : Int × Bool := if askM l o m = true ∧ inB p 0 9 = true ∧ at_ (earlyM l o m) p ≠ 10000 then (at_ (earlyM l o m) p, true) else (0, false)
theorem at_impl (l : List Mail) (hl : l.length ≤ 9223372036854775807) (o m p : Int) : GiEarliestAt.P l o m p = some (atRes l o m p) := by
  simp only [GiEarliestAt.P, canBegin_eq l hl, isOffice_eq, Option.bind_some, letK, joinK, appK, iteK_if, atRes]
  cases ha : askM l o m with
  | false => simp
  | true =>
    obtain ⟨hg, ho, hm⟩ := ask_of ha
    cases hp : inB p 0 9 with
    | false => simp
    | true =>
      have hp2 := inB_of hp
      simp only [Bool.not_true, Bool.false_eq_true, if_false, earliest_eq hg ho, Option.bind_some, un_eq, ten (early_len l o m), idx_at (early_len l o m) hp2]
      by_cases h : at_ (earlyM l o m) p = 10000 <;> simp [h]
end Go.Proofs.YtfjcibkgbalkaaaDoor.Q9At

/- The named law of mails: what it draws, and why it answers true. (QL9FnMails) No condition but those of each theorem. -/
namespace Go.Proofs.YtfjcibkgbalkaaaDoor.QL9FnMails
set_option linter.unusedVariables false
set_option linter.unusedSimpArgs false
open Go.RowKit
open Go.Proofs.YtfjcibkgbalkaaaDoor.GoP Go.Proofs.YtfjcibkgbalkaaaDoor.PlainStamp Go.Proofs.YtfjcibkgbalkaaaDoor.QBase Go.Proofs.YtfjcibkgbalkaaaDoor.QVInts Go.Proofs.YtfjcibkgbalkaaaDoor.Q9DrawsF Go.Proofs.YtfjcibkgbalkaaaDoor.Q9Draws2 Go.Proofs.YtfjcibkgbalkaaaDoor.QDraw Go.Proofs.YtfjcibkgbalkaaaDoor.Q9Text Go.Proofs.YtfjcibkgbalkaaaDoor.Q9Leave Go.Proofs.YtfjcibkgbalkaaaDoor.Q9Miss Go.Proofs.YtfjcibkgbalkaaaDoor.Q9Reach Go.Proofs.YtfjcibkgbalkaaaDoor.Q9At Go.Proofs.YtfjcibkgbalkaaaDoor.Q9Late Go.Proofs.YtfjcibkgbalkaaaDoor.Q9Early Go.Proofs.YtfjcibkgbalkaaaDoor.QFoldS Go.Proofs.YtfjcibkgbalkaaaDoor.Q9Cand Go.Proofs.YtfjcibkgbalkaaaDoor.Q9Dual Go.Proofs.YtfjcibkgbalkaaaDoor.Q9Arr Go.Proofs.YtfjcibkgbalkaaaDoor.Q9List Go.Proofs.YtfjcibkgbalkaaaDoor.Q9Mail Go.Proofs.YtfjcibkgbalkaaaDoor.QUp Go.Proofs.YtfjcibkgbalkaaaDoor.QAll Go.Proofs.YtfjcibkgbalkaaaDoor.QLoop Go.Proofs.YtfjcibkgbalkaaaDoor.PMail

theorem e0_yes {tapes : List Int → GoC.Tape} (ht : GoC.Tells tapes) (code : List Int) (fuel : Nat) (hf : 1048577 ≤ fuel) (s : Unit) : GlFnMails.e0 code fuel tapes s = some true := by
  obtain ⟨l, o, m, b, e, hl⟩ := drawReached_ok ht code fuel hf
  obtain ⟨x, ex⟩ := drawText_ok ht code
  obtain ⟨hi, p, q, hs⟩ := text_same x
  rw [hs] at hi
  have hxe : Mail.mk x.leave x.from_ x.to_ x.arrive = x := rfl
  have hlb : l.length ≤ 9223372036854775807 := by omega
  have e1 := reach_impl l hlb o m b
  have e2 := reach_spec l hlb o m b
  by_cases hc : askM l o m = true ∧ inB b 0 9999 = true ∧ m ≤ b
  · have hr : reachRes l o m b = (reachL (earlyM l o m) b, true) := by unfold reachRes; rw [if_pos hc]
    obtain ⟨hg, ho, hm⟩ := ask_of hc.1
    have hup := early_up hg (m := m) ho ho
    rw [if_pos rfl] at hup
    have hmem : o ∈ reachL (earlyM l o m) b := by
      unfold reachL
      refine List.mem_map.2 ⟨o.toNat, List.mem_filter.2 ⟨List.mem_range.2 (by omega), ?_⟩, by omega⟩
      rw [decide_eq_true_eq, show ((o.toNat : Nat) : Int) = o by omega]
      have := hc.2.2; omega
    rw [hr] at e1 e2
    simp [GlFnMails.e0, e, bind4, e1, e2, bind2, vInts_self, vHas_yes hmem, ex, unMail, hxe, hi, hs, letK, joinK, appK, iteK_if]
  · have hr : reachRes l o m b = ([], false) := by unfold reachRes; rw [if_neg hc]
    rw [hr] at e1 e2
    simp [GlFnMails.e0, e, bind4, e1, e2, bind2, vInts_self, ex, unMail, hxe, hi, hs, letK, joinK, appK, iteK_if]
theorem j0_yes {tapes : List Int → GoC.Tape} (ht : GoC.Tells tapes) (code : List Int) (fuel : Nat) (hf : 1048577 ≤ fuel) : GlFnMails.j0 code fuel tapes () = some true := by
  obtain ⟨l, o, m, e, hl⟩ := drawMissed_ok ht code fuel hf
  have he0 := e0_yes ht code fuel hf
  have hlb : l.length ≤ 9223372036854775807 := by omega
  have e1 := miss_impl l hlb o m
  have e2 := miss_spec l hlb o m
  obtain ⟨⟨a, ok⟩, hr⟩ : ∃ x, x = missRes l o m := ⟨_, rfl⟩
  rw [← hr] at e1 e2
  have hloop : cntK (GlFnMails.l0 l o m a) a.length 0 () (GlFnMails.e0 code fuel tapes) = some true := by
    refine cnt_is true (fun _ _ => True) ?_ (fun s _ => he0 s) () trivial
    rintro k ⟨⟩ nx hk _ hn
    obtain ⟨i, hi, hix⟩ := at_lt (l := a) (k := k) hk
    by_cases hc : askM l o m = true
    · have hr2 : missRes l o m = (missL l (earlyM l o m), true) := by unfold missRes; rw [if_pos hc]
      rw [hr2] at hr
      obtain ⟨rfl, rfl⟩ := Prod.mk.inj hr
      have hmem := List.mem_of_getElem? hi
      unfold missL at hmem
      obtain ⟨j, hj, rfl⟩ := List.mem_map.1 hmem
      obtain ⟨_, hj2⟩ := List.mem_filter.1 hj
      unfold missP at hj2
      cases hx : l[j]? with
      | none => rw [hx] at hj2; exact absurd hj2 (by simp)
      | some x =>
        rw [hx] at hj2
        have hlt := of_decide_eq_true hj2
        have hjx : idx l (j : Int) = some x := by rw [idx_nat, hx]
        have ha := at_impl l hlb o m x.from_
        have hz : ∀ v t, atRes l o m x.from_ = (v, t) → t = true → ¬ v ≤ x.leave := by
          intro v t hv htt
          unfold atRes at hv
          split at hv
          · obtain ⟨rfl, _⟩ := Prod.mk.inj hv; omega
          · obtain ⟨_, h2⟩ := Prod.mk.inj hv; rw [htt] at h2; exact absurd h2 (by simp)
        obtain ⟨⟨v, t⟩, hv⟩ : ∃ z, z = atRes l o m x.from_ := ⟨_, rfl⟩
        have hz2 := hz v t hv.symm
        rw [← hv] at ha
        simp only [GlFnMails.l0, hix, Option.bind_some, hjx, unMail, ha, bind2_some, joinK, appK, iteK_if, letK]
        cases t with
        | false => simpa using hn () trivial
        | true => simpa [hz2 rfl] using hn () trivial
    · have hr2 : missRes l o m = ([], false) := by unfold missRes; rw [if_neg hc]
      rw [hr2] at hr
      obtain ⟨rfl, _⟩ := Prod.mk.inj hr
      exact absurd hk (by simp)
  simp [GlFnMails.j0, e, bind3, e1, e2, bind2, vInts_self, hloop, letK, joinK, appK, iteK_if]
theorem law_mails {fuel : Nat} {tapes : List Int → GoC.Tape} (ht : GoC.Tells tapes) (code : List Int) (hf : 1048577 ≤ fuel) : GlFnMails.P fuel tapes code = some true := by
  simp only [GlFnMails.P, GlVBig.P, Option.bind_some, letK, iteK_if]
  by_cases hb : (65536 : Int) < (code.length : Int)
  · rw [if_pos (by simpa using hb)]
  · rw [if_neg (by simpa using hb)]
    obtain ⟨l, o, p, b, e, hl⟩ := drawLeave_ok ht code fuel hf
    have hj := j0_yes ht code fuel hf
    have hlb : l.length ≤ 9223372036854775807 := by omega
    have e1 := leave_impl (fuel := fuel) l hlb o p b (by omega)
    have e2 := leave_spec (fuel := fuel) l hlb o p b (by omega)
    by_cases hc : goodM l = true ∧ inB o 0 9 = true ∧ inB p 0 9 = true ∧ o ≠ p ∧ inB b 0 9999 = true ∧ at_ (lateM l p b) o ≠ -1
    · have hr : leaveRes l o p b = (at_ (lateM l p b) o, true) := by unfold leaveRes; rw [if_pos hc]
      obtain ⟨hg, ho1, hp1, hop, hb1, hne⟩ := hc
      have ho := inB_of ho1
      have hp := inB_of hp1
      have hbb := inB_of hb1
      have hlow := foldL_up l (fun x hx => m_mem hg hx) ho (startL_len p b)
      rw [startL_at hp ho, if_neg hop] at hlow
      have htop := late_top hg (m := b) hp hbb.2 ho
      rw [hr] at e1 e2
      have hlow2 : -1 ≤ at_ (lateM l p b) o := hlow
      obtain ⟨v, hv⟩ : ∃ v, v = at_ (lateM l p b) o := ⟨_, rfl⟩
      rw [← hv] at e1 e2 hne htop hlow2
      have d1 := (dual hg ho hp (m := v) (by omega) hbb.2).2 (by rw [hv]; exact Int.le_refl _)
      have a1 : atRes l o v p = (at_ (earlyM l o v) p, true) := by
        unfold atRes
        rw [if_pos ⟨by unfold askM; rw [hg, ho1]; unfold inB; simp; omega, hp1, by omega⟩]
      have a2 : ∃ u t, atRes l o (v + 1) p = (u, t) ∧ (t = true → ¬ u ≤ b) := by
        by_cases h9 : v + 1 ≤ 9999
        · have d2 := dual hg ho hp (m := v + 1) (b := b) (by omega) hbb.2
          rw [← hv] at d2
          unfold atRes
          split
          · exact ⟨_, _, rfl, fun _ h => by have := d2.1 h; omega⟩
          · exact ⟨_, _, rfl, fun h => absurd h (by simp)⟩
        · refine ⟨0, false, ?_, fun h => absurd h (by simp)⟩
          unfold atRes
          rw [if_neg]
          rintro ⟨h, _⟩
          have := (ask_of h).2.2
          omega
      obtain ⟨u, t, a2, hu⟩ := a2
      have hw : IntKind.i64.wrap (v + 1) = v + 1 := wrap_in (by omega) (by omega)
      have i1 := at_impl l hlb o v p
      have i2 := at_impl l hlb o (v + 1) p
      rw [a1] at i1
      rw [a2] at i2
      have hn1 : ¬ b < at_ (earlyM l o v) p := by omega
      cases t with
      | false => simp [e, bind4, e1, e2, bind2, i1, hw, i2, letK, joinK, appK, iteK_if, hn1, hj]
      | true => simp [e, bind4, e1, e2, bind2, i1, hw, i2, letK, joinK, appK, iteK_if, hn1, hu rfl, hj]
    · have hr : leaveRes l o p b = (0, false) := by unfold leaveRes; rw [if_neg hc]
      rw [hr] at e1 e2
      simp [e, bind4, e1, e2, bind2, letK, joinK, appK, iteK_if, hj]
end Go.Proofs.YtfjcibkgbalkaaaDoor.QL9FnMails

