/- Texts on which the proofs of several laws stand, one behind the other (9 of 20). No condition of their own. -/
import Derived.Test.YtpaakpbbahbhcaaX13P3
import Derived.Test.YtpaakpbbahbhcaaX13P6
import Derived.Test.YtpaakpbbahbhcaaX13P8
import Derived.Test.YtpaakpbbahbhcaaX13P5
import Derived.Test.YtpaakpbbahbhcaaX13P1
import Derived.Test.YtpaakpbbahbhcaaX13P7
import Derived.Test.YtpaakpbbahbhcaaX13P4
import Derived.Test.YtpaakpbbahbhcaaChecked
import Derived.Test.YtpaakpbbahbhcaaX13P2
import Derived.WalkKit
import Derived.WalkSpells
import Derived.WalkLawsBesides
import Derived.BigQuiet
import Derived.OwnWalk
import Derived.Deep.LoopGhost
import Derived.Deep.QuietTactic
import Derived.IntWalk
import Derived.Lib.QuietBelow
/- Chapter 12: least changes: the plain functions of the program and of the reference agree, and the laws answer true. (Q12Put) No condition but those of each theorem. -/
namespace Go.Proofs.Ytpaakpbbahbhcaa.Q12Put
set_option linter.unusedVariables false
set_option linter.unusedSimpArgs false
open Go.RowKit
open Go.Proofs.Ytpaakpbbahbhcaa.GoP Go.Proofs.Ytpaakpbbahbhcaa.PlainStamp Go.Proofs.Ytpaakpbbahbhcaa.QBase Go.Proofs.Ytpaakpbbahbhcaa.QUp Go.Proofs.Ytpaakpbbahbhcaa.QLoop

theorem cut_at (l : List Int) (n : Int) : ∃ k, k ≤ l.length ∧ (∀ i y, i < k → l[i]? = some y → y < n) ∧ (∀ y, l[k]? = some y → n ≤ y) := by
  induction l with
  | nil => exact ⟨0, by simp, by simp, by simp⟩
  | cons x l ih =>
    by_cases hx : x < n
    · obtain ⟨k, h1, h2, h3⟩ := ih
      refine ⟨k + 1, by simp; omega, ?_, ?_⟩
      · intro i y hi hy
        cases i with
        | zero => simp at hy; omega
        | succ i => exact h2 i y (by omega) (by simpa using hy)
      · intro y hy; exact h3 y (by simpa using hy)
    · exact ⟨0, by simp, by simp, by intro y hy; simp at hy; omega⟩
theorem put_eq {fuel : Nat} {l : List Int} (hl : l.length ≤ 1000) (hu : List.Pairwise (fun a b => a < b) l) (n : Int) (hf : l.length < fuel) : ∃ m, GsL1Put.P fuel l n = some m ∧ List.Pairwise (fun a b => a < b) m ∧ (∀ x, x ∈ m ↔ x = n ∨ x ∈ l) ∧ m.length ≤ l.length + 1 := by
  obtain ⟨k, hk, hlo, hhi⟩ := cut_at l n
  have htk : ∀ x ∈ l.take k, x < n := by
    intro x hx
    obtain ⟨i, hi⟩ := List.getElem?_of_mem hx
    rw [List.getElem?_take] at hi
    split at hi
    · rename_i h; exact hlo i x h hi
    · simp at hi
  have hnext : ∀ r : List Int, GsL1Put.e0 l n (k : Int) = some r → GsL1Put.P fuel l n = some r := by
    intro r hr
    simp only [GsL1Put.P]
    refine lp_is (n := k) _ (fun i (s : Int) => s = (i : Int)) ?_ ?_ fuel 0 _ (by omega) (by omega) rfl
    · rintro i s nx hi rfl hn
      obtain ⟨x, hx, hxi⟩ := at_lt (l := l) (k := i) (by omega)
      have hlt := hlo i x hi hx
      have h1 : (i : Int) < (l.length : Int) := by omega
      simp only [GsL1Put.l0, letK, joinK, appK, iteK_if, decide_eq_true h1, if_true, hxi, Option.bind_some, decide_eq_true hlt]
      exact hn _ (by rw [wrap_in (by omega) (by omega)]; omega)
    · rintro s nx rfl
      by_cases hkl : k < l.length
      · obtain ⟨x, hx, hxi⟩ := at_lt (l := l) (k := k) hkl
        have hge := hhi x hx
        have h1 : (k : Int) < (l.length : Int) := by omega
        have h2 : ¬ x < n := by omega
        simp only [GsL1Put.l0, letK, joinK, appK, iteK_if, decide_eq_true h1, if_true, hxi, Option.bind_some, decide_eq_false h2, Bool.false_eq_true, if_false]
        exact hr
      · have h1 : ¬ (k : Int) < (l.length : Int) := by omega
        simp only [GsL1Put.l0, letK, joinK, appK, iteK_if, decide_eq_false h1, Bool.false_eq_true, if_false]
        exact hr
  have hsplit : l.take k ++ l.drop k = l := List.take_append_drop k l
  have hput : (∀ x, l[k]? = some x → x ≠ n) → ∃ m, GsL1Put.e0 l n (k : Int) = some m ∧ List.Pairwise (fun a b => a < b) m ∧ (∀ x, x ∈ m ↔ x = n ∨ x ∈ l) ∧ m.length ≤ l.length + 1 := by
    intro hne
    have hdr : ∀ x ∈ l.drop k, n < x := by
      intro x hx
      by_cases hkl : k < l.length
      · rw [List.drop_eq_getElem_cons hkl] at hx
        have h0 : l[k]? = some l[k] := List.getElem?_eq_getElem hkl
        have h1 := hhi _ h0
        have h2 := hne _ h0
        rcases List.mem_cons.1 hx with rfl | hx
        · omega
        · rw [← hsplit, List.drop_eq_getElem_cons hkl, List.pairwise_append, List.pairwise_cons] at hu
          have := hu.2.1.1 x hx
          omega
      · rw [List.drop_of_length_le (by omega)] at hx; simp at hx
    refine ⟨l.take k ++ [n] ++ l.drop k, ?_, ?_, ?_, ?_⟩
    · have h5 : (l.take k).length ≤ 1000 := by rw [List.length_take]; omega
      have h6 : (l.drop k).length ≤ 1000 := by rw [List.length_drop]; omega
      have hres : (guardK ((0 : Int) ≤ (k : Int) ∧ (k : Int) ≤ (l.length : Int)) <|
          guardK (([] : List Int).length + (List.take (Int.toNat (k : Int)) l).length ≤ 1099511627776) <|
          guardK ((([] : List Int) ++ List.take (Int.toNat (k : Int)) l).length ≤ 1099511627776) <|
          guardK ((0 : Int) ≤ (k : Int) ∧ (k : Int) ≤ (l.length : Int)) <|
          guardK ((([] : List Int) ++ List.take (Int.toNat (k : Int)) l ++ [n]).length + (List.drop (Int.toNat (k : Int)) l).length ≤ 1099511627776) <|
          some (([] : List Int) ++ List.take (Int.toNat (k : Int)) l ++ [n] ++ List.drop (Int.toNat (k : Int)) l)) = some (l.take k ++ [n] ++ l.drop k) := by
        rw [Int.toNat_natCast, guardK_pos (by omega), guardK_pos (by simp; omega), guardK_pos (by simp; omega), guardK_pos (by omega), guardK_pos (by simp only [List.nil_append, List.length_append, List.length_singleton]; omega), List.nil_append]
      by_cases hkl : k < l.length
      · obtain ⟨x, hx, hxi⟩ := at_lt (l := l) (k := k) hkl
        have h1 : (k : Int) < (l.length : Int) := by omega
        have h2 : (x == n) = false := by simpa using hne x hx
        simp only [GsL1Put.e0, letK, joinK, appK, iteK_if, decide_eq_true h1, if_true, hxi, Option.bind_some, h2, Bool.false_eq_true, if_false]
        exact hres
      · have h1 : ¬ (k : Int) < (l.length : Int) := by omega
        simp only [GsL1Put.e0, letK, joinK, appK, iteK_if, decide_eq_false h1, Bool.false_eq_true, if_false]
        exact hres
    · rw [← hsplit, List.pairwise_append] at hu
      rw [List.append_assoc, List.pairwise_append]
      refine ⟨hu.1, ?_, ?_⟩
      · rw [List.singleton_append, List.pairwise_cons]; exact ⟨hdr, hu.2.1⟩
      · intro a ha b hb
        rw [List.singleton_append, List.mem_cons] at hb
        have h1 := htk a ha
        rcases hb with rfl | hb
        · exact h1
        · have := hdr b hb; omega
    · intro x
      have hm : x ∈ l ↔ x ∈ l.take k ∨ x ∈ l.drop k := by rw [← List.mem_append, hsplit]
      rw [hm, List.mem_append, List.mem_append, List.mem_singleton]
      constructor
      · rintro ((h | h) | h)
        · exact .inr (.inl h)
        · exact .inl h
        · exact .inr (.inr h)
      · rintro (h | h | h)
        · exact .inl (.inr h)
        · exact .inl (.inl h)
        · exact .inr h
    · simp only [List.length_append, List.length_take, List.length_drop, List.length_singleton]; omega
  by_cases hin : ∃ x, l[k]? = some x ∧ x = n
  · obtain ⟨x, hx, rfl⟩ := hin
    refine ⟨l, hnext l ?_, hu, ?_, by omega⟩
    · have hkl := (List.getElem?_eq_some_iff.1 hx).1
      have hxi : idx l (k : Int) = some x := by rw [idx_nat, hx]
      have h1 : (k : Int) < (l.length : Int) := by omega
      simp only [GsL1Put.e0, letK, joinK, appK, iteK_if, decide_eq_true h1, if_true, hxi, Option.bind_some, beq_self_eq_true]
    · intro y
      constructor
      · intro h; exact .inr h
      · rintro (rfl | h)
        · exact List.mem_of_getElem? hx
        · exact h
  · obtain ⟨m, h1, h2⟩ := hput (fun x hx e => hin ⟨x, hx, e⟩)
    exact ⟨m, hnext m h1, h2⟩
end Go.Proofs.Ytpaakpbbahbhcaa.Q12Put

/- Chapter 13: censuses: the plain functions of the program and of the reference agree, and the laws answer true. (Q13Cover) No condition but those of each theorem. -/
namespace Go.Proofs.Ytpaakpbbahbhcaa.Q13Cover
set_option linter.unusedVariables false
set_option linter.unusedSimpArgs false
open Go.RowKit
open Go.Proofs.Ytpaakpbbahbhcaa.GoP Go.Proofs.Ytpaakpbbahbhcaa.PlainStamp Go.Proofs.Ytpaakpbbahbhcaa.QBase Go.Proofs.Ytpaakpbbahbhcaa.Q13Bonds Go.Proofs.Ytpaakpbbahbhcaa.Q13Reach Go.Proofs.Ytpaakpbbahbhcaa.Q12Put Go.Proofs.Ytpaakpbbahbhcaa.Q13Has Go.Proofs.Ytpaakpbbahbhcaa.Q13Ev Go.Proofs.Ytpaakpbbahbhcaa.Q13List Go.Proofs.Ytpaakpbbahbhcaa.Q13One Go.Proofs.Ytpaakpbbahbhcaa.QUp Go.Proofs.Ytpaakpbbahbhcaa.QAll Go.Proofs.Ytpaakpbbahbhcaa.QLoop Go.Proofs.Ytpaakpbbahbhcaa.PSighting

/-- the places of those of one cover with the one at i -/
def covN (l : List Sighting) (L : Int) (i : Nat) : List Nat := (List.range l.length).filter fun j => decide (L ≤ tabF l i j)
def cov (l : List Sighting) (L : Int) (i : Nat) : List Int := (covN l L i).map fun j : Nat => (j : Int)
theorem covN_mem {l : List Sighting} {L : Int} {i j : Nat} : j ∈ covN l L i ↔ j < l.length ∧ L ≤ tabF l i j := by unfold covN; simp
theorem covN_up (l : List Sighting) (L : Int) (i : Nat) : List.Pairwise (fun a b => a < b) (covN l L i) := List.Pairwise.filter _ List.pairwise_lt_range
theorem cov_up (l : List Sighting) (L : Int) (i : Nat) : List.Pairwise (fun a b => a < b) (cov l L i) := by
  unfold cov
  rw [List.pairwise_map]
  exact (covN_up l L i).imp fun h => by omega
theorem cov_mem {l : List Sighting} {L : Int} {i : Nat} {x : Int} : x ∈ cov l L i ↔ ∃ j : Nat, x = (j : Int) ∧ j < l.length ∧ L ≤ tabF l i j := by
  unfold cov
  rw [List.mem_map]
  constructor
  · rintro ⟨j, hj, rfl⟩; exact ⟨j, rfl, covN_mem.1 hj⟩
  · rintro ⟨j, rfl, hj⟩; exact ⟨j, covN_mem.2 hj, rfl⟩
/-- rising lists with the same members are the same -/
theorem strict_ext : ∀ {a b : List Int}, List.Pairwise (fun x y => x < y) a → List.Pairwise (fun x y => x < y) b → (∀ x, x ∈ a ↔ x ∈ b) → a = b := by
  intro a
  induction a with
  | nil =>
    intro b _ _ h
    cases b with
    | nil => rfl
    | cons y b => exact absurd ((h y).2 (by simp)) (by simp)
  | cons x a ih =>
    intro b ha hb h
    cases b with
    | nil => exact absurd ((h x).1 (by simp)) (by simp)
    | cons y b =>
      have ha' := List.pairwise_cons.1 ha
      have hb' := List.pairwise_cons.1 hb
      have hxy : x = y := by
        have h1 := (h x).1 (by simp)
        have h2 := (h y).2 (by simp)
        simp only [List.mem_cons] at h1 h2
        rcases h1 with h1 | h1
        · exact h1
        · rcases h2 with h2 | h2
          · exact h2.symm
          · have := ha'.1 y h2; have := hb'.1 x h1; omega
      subst hxy
      congr 1
      refine ih ha'.2 hb'.2 fun z => ?_
      have hz := h z
      simp only [List.mem_cons] at hz
      constructor
      · intro hza
        rcases hz.1 (.inr hza) with h1 | h1
        · have := ha'.1 z hza; omega
        · exact h1
      · intro hzb
        rcases hz.2 (.inr hzb) with h1 | h1
        · have := hb'.1 z hzb; omega
        · exact h1
theorem up_len {n : Nat} : ∀ {a : List Int} (lo : Int), List.Pairwise (fun x y => x < y) a → (∀ x ∈ a, lo ≤ x ∧ x < (n : Int)) → (a.length : Int) ≤ max 0 ((n : Int) - lo) := by
  intro a
  induction a with
  | nil => intro lo _ _; simp; omega
  | cons x a ih =>
    intro lo ha h
    have ha' := List.pairwise_cons.1 ha
    have hx := h x (by simp)
    have := ih (x + 1) ha'.2 (fun y hy => ⟨by have := ha'.1 y hy; omega, (h y (List.mem_cons_of_mem _ hy)).2⟩)
    rw [List.length_cons]
    omega
theorem len_more {a b : List Int} {k : Int} (ha : List.Pairwise (fun x y => x < y) a) (hb : List.Pairwise (fun x y => x < y) b) (h : ∀ x ∈ a, x ∈ b) (hk : k ∈ b) (hn : ¬ k ∈ a) : a.length + 1 ≤ b.length := by
  have h1 : (k :: a).Nodup := List.nodup_cons.2 ⟨hn, ha.imp fun h => by omega⟩
  have := nodup_len (a := k :: a) (b := b) h1 (fun x hx => by exact (List.mem_cons.1 hx).elim (fun e => e ▸ hk) (h x))
  simpa using this
structure Inv (l : List Sighting) (L : Int) (st : Nat) (out : List Int) : Prop where
  up : List.Pairwise (fun a b => a < b) out
  mem : ∀ x ∈ out, ∃ j : Nat, x = (j : Int) ∧ j < l.length ∧ Rch l.length (fun a b => L ≤ eAt l a b) st j
  st : (st : Int) ∈ out
theorem Inv.len {l : List Sighting} {L : Int} {st : Nat} {out : List Int} (h : Inv l L st out) : out.length ≤ l.length := by
  have := up_len (n := l.length) 0 h.up (fun x hx => by obtain ⟨j, rfl, hj, _⟩ := h.mem x hx; omega)
  omega
/-- no one outside is bound to one inside -/
def Clo (l : List Sighting) (L : Int) (out : List Int) (k : Nat) : Prop := ∀ q : Nat, q < k → ¬ (q : Int) ∈ out → ∀ j : Nat, (j : Int) ∈ out → eAt l j q < L
theorem Inv.done {l : List Sighting} {L : Int} (hL : L ≤ 16) {st : Nat} (hs : st < l.length) {out : List Int} (h : Inv l L st out) (hc : Clo l L out l.length) : out = cov l L st := by
  refine strict_ext h.up (cov_up l L st) fun x => ?_
  rw [cov_mem]
  constructor
  · intro hx
    obtain ⟨j, rfl, hj, hr⟩ := h.mem x hx
    exact ⟨j, rfl, hj, (tab_iff hL hs hj).2 hr⟩
  · rintro ⟨j, rfl, hj, ht⟩
    have hr := (tab_iff hL hs hj).1 ht
    refine hr.closed (fun k => (k : Int) ∈ out) h.st ?_
    intro a b ha hb hab
    by_cases hin : (b : Int) ∈ out
    · exact hin
    · have := hc b hb hin a ha; omega
theorem cover_eq {l : List Sighting} (hk : okSis l = true) {L : Int} (hL : L ≤ 16) {st : Nat} (hs : st < l.length) (fuel : Nat) (hfu : 2000 ≤ fuel) : GsL13Cover.P fuel l L (st : Int) = some (cov l L st) := by
  have hn := okSis_len hk
  have htr : ∀ {i : Nat} {x : Sighting}, l[i]? = some x → x.traits.length ≤ 1000 := fun hx => by have := (okSi_of (okSis_at hk (List.mem_of_getElem? hx))).2.2.2.1; omega
  obtain ⟨r, hr, hq⟩ : ∃ r, GsL13Cover.P fuel l L (st : Int) = some r ∧ r = cov l L st := by
    simp only [GsL13Cover.P, letK]
    refine lp_ex (n := 12) (Q := fun r => r = cov l L st) (fun p (s : List Int × Bool) => Inv l L st s.1 ∧ ((s.2 = true ∧ p + 1 ≤ s.1.length) ∨ (s.2 = false ∧ Clo l L s.1 l.length))) ?_ ?_ fuel 0 _ (by omega) (by omega) ⟨⟨by simp, fun x hx => ⟨st, by simpa using hx, hs, .refl⟩, by simp⟩, .inl ⟨rfl, by simp⟩⟩
    · rintro p ⟨out, more⟩ nx hp ⟨hI, hm⟩ hnx
      dsimp only at hI hm
      simp only [GsL13Cover.l0, unp2, iteK_if]
      rcases hm with ⟨rfl, hlen⟩ | ⟨rfl, hclo⟩
      · rw [if_pos rfl]
        refine cnt_ex (n := l.length) (Q := fun r => r = cov l L st) (fun k (s : List Int × Bool) => Inv l L st s.1 ∧ ((s.2 = true ∧ p + 2 ≤ s.1.length) ∨ (s.2 = false ∧ s.1 = out ∧ Clo l L s.1 k))) ?_ ?_ l.length 0 _ (by omega) ⟨hI, .inr ⟨rfl, rfl, fun q hq => by omega⟩⟩
        · rintro k ⟨o1, m1⟩ nx' hkl ⟨hI1, hm1⟩ hn'
          dsimp only at hI1 hm1
          obtain ⟨y, hy, hyi⟩ := at_lt (l := l) (k := k) hkl
          have hol := hI1.len
          simp only [GsL13Cover.l1, unp2]
          -- what becomes of out, where k is asked
          have stay : ((k : Int) ∈ o1 ∨ ∀ j : Nat, (j : Int) ∈ o1 → eAt l j k < L) → ∃ r, nx' (o1, m1) = some r ∧ r = cov l L st := by
            intro hst
            refine hn' _ ⟨hI1, ?_⟩
            rcases hm1 with h | ⟨h1, h2, h3⟩
            · exact .inl h
            · refine .inr ⟨h1, h2, fun q hq hno => ?_⟩
              by_cases hqk : q = k
              · subst hqk
                rcases hst with h | h
                · exact absurd h hno
                · exact h
              · exact h3 q (by omega) hno
          by_cases hin : (k : Int) ∈ o1
          · -- it is there already
            obtain ⟨fu, rfl⟩ : ∃ fu, fuel = fu + 1 := ⟨fuel - 1, by omega⟩
            show ∃ r, GsL13Cover.l2 l L (fu + 1) k (o1, m1, 0) _ _ = some r ∧ _
            have hpos : 0 < o1.length := List.length_pos_of_mem hin
            simp only [GsL13Cover.l2, unp3, has_eq, Option.bind_some, letK, joinK, appK, iteK_if]
            rw [if_pos (by simp; omega)]
            simp only [hin, decide_true, Bool.not_true, Bool.false_eq_true, if_false, GsL13Cover.e2, unp3, appK]
            exact stay (.inl hin)
          · refine lp_ex (n := o1.length + 1) (Q := fun r => r = cov l L st) (fun q (s : List Int × Bool × Int) => s.2.2 = (q : Int) ∧ ((s.1 = o1 ∧ s.2.1 = m1 ∧ q ≤ o1.length ∧ ∀ i : Nat, i < q → ∀ j : Nat, o1[i]? = some (j : Int) → eAt l j k < L) ∨ (s.2.1 = true ∧ Inv l L st s.1 ∧ (k : Int) ∈ s.1 ∧ s.1.length = o1.length + 1))) ?_ ?_ fuel 0 _ (by omega) (by omega) ⟨rfl, .inl ⟨rfl, rfl, by omega, fun i hi => by omega⟩⟩
            · rintro q ⟨o2, m2, i2⟩ nx'' hq ⟨hi2, hcase⟩ hn''
              dsimp only at hi2 hcase
              subst hi2
              simp only [GsL13Cover.l2, unp3, has_eq, Option.bind_some, letK, joinK, appK, iteK_if]
              rcases hcase with ⟨rfl, rfl, hq1, hno⟩ | ⟨rfl, hI2, hin2, hl2⟩
              · by_cases hqe : q < o2.length
                · obtain ⟨z, hz, hzi⟩ := at_lt (l := o2) (k := q) hqe
                  obtain ⟨j, rfl, hjl, hjr⟩ := hI1.mem z (List.mem_of_getElem? hz)
                  obtain ⟨x, hx, hxi⟩ := at_lt (l := l) (k := j) hjl
                  have w1 := wrap_in (x := (q : Int) + 1) (by omega) (by omega)
                  rw [if_pos (by simp; omega)]
                  simp only [hin, decide_false, Bool.not_false, if_true, hzi, hxi, hyi, Option.bind_some, unSighting, l13Evidence_eq x y (htr hx) (htr hy) fuel hfu, w1]
                  by_cases hle : L ≤ ev x y
                  · rw [if_pos (by simpa using hle)]
                    obtain ⟨m, hm2, hmu, hmm, hml⟩ := put_eq (fuel := fuel) (l := o2) (by omega) hI1.up (k : Int) (by omega)
                    simp only [hm2, Option.bind_some]
                    have hmlen : m.length = o2.length + 1 := by
                      have h1 : (m.length : Int) ≥ o2.length + 1 := by
                        have := len_more hI1.up hmu (fun x hx => (hmm x).2 (.inr hx)) ((hmm _).2 (.inl rfl)) hin
                        omega
                      omega
                    refine hn'' _ ⟨by dsimp only; omega, .inr ⟨rfl, ⟨hmu, fun u hu => ?_, (hmm _).2 (.inr hI1.st)⟩, (hmm _).2 (.inl rfl), hmlen⟩⟩
                    rcases (hmm u).1 hu with rfl | hu
                    · exact ⟨k, rfl, hkl, .step hjr hkl (by show L ≤ eAt l j k; rw [eAt_eq hx hy]; exact hle)⟩
                    · exact hI1.mem u hu
                  · rw [if_neg (by simpa using hle)]
                    refine hn'' _ ⟨by dsimp only; omega, .inl ⟨rfl, rfl, by omega, fun i hi j' hj' => ?_⟩⟩
                    by_cases hiq : i = q
                    · subst hiq
                      rw [hz] at hj'
                      have : j = j' := by have := Option.some.inj hj'; omega
                      subst this
                      rw [eAt_eq hx hy]; omega
                    · exact hno i (by omega) j' hj'
                · rw [if_neg (by simp; omega)]
                  simp only [Bool.false_eq_true, if_false, GsL13Cover.e2, unp3, appK]
                  refine stay (.inr fun j hj => ?_)
                  obtain ⟨i, hi⟩ := List.getElem?_of_mem hj
                  exact hno i (by have := (List.getElem?_eq_some_iff.1 hi).1; omega) j hi
              · by_cases hqe : q < o2.length
                · rw [if_pos (by simp; omega)]
                  simp only [hin2, decide_true, Bool.not_true, Bool.false_eq_true, if_false, GsL13Cover.e2, unp3, appK]
                  refine hn' _ ⟨hI2, .inl ⟨rfl, ?_⟩⟩
                  dsimp only
                  rcases hm1 with ⟨_, h⟩ | ⟨_, h, _⟩
                  · omega
                  · rw [h] at hl2; omega
                · omega
            · rintro ⟨o2, m2, i2⟩ nx'' ⟨hi2, hcase⟩
              dsimp only at hi2 hcase
              subst hi2
              rcases hcase with ⟨rfl, rfl, hq1, hno⟩ | ⟨rfl, hI2, hin2, hl2⟩
              · omega
              · simp only [GsL13Cover.l2, unp3, has_eq, Option.bind_some, letK, joinK, appK, iteK_if]
                rw [if_neg (by simp; omega)]
                simp only [Bool.false_eq_true, if_false, GsL13Cover.e2, unp3, appK]
                refine hn' _ ⟨hI2, .inl ⟨rfl, ?_⟩⟩
                dsimp only
                rcases hm1 with ⟨_, h⟩ | ⟨_, h, _⟩
                · omega
                · rw [h] at hl2; omega
        · rintro ⟨o1, m1⟩ ⟨hI1, hm1⟩
          dsimp only at hI1 hm1
          simp only [GsL13Cover.e1, unp2, appK]
          refine hnx _ ⟨hI1, ?_⟩
          rcases hm1 with ⟨rfl, h⟩ | ⟨rfl, rfl, h⟩
          · exact .inl ⟨rfl, h⟩
          · exact .inr ⟨rfl, h⟩
      · rw [if_neg (by simp)]
        simp only [appK, GsL13Cover.e0, unp2]
        exact ⟨_, rfl, hI.done hL hs hclo⟩
    · rintro ⟨out, more⟩ nx ⟨hI, hm⟩
      dsimp only at hI hm
      have := hI.len
      simp only [GsL13Cover.l0, unp2, iteK_if]
      rcases hm with ⟨rfl, hlen⟩ | ⟨rfl, hclo⟩
      · omega
      · rw [if_neg (by simp)]
        simp only [appK, GsL13Cover.e0, unp2]
        exact ⟨_, rfl, hI.done hL hs hclo⟩
  rw [hr, hq]
end Go.Proofs.Ytpaakpbbahbhcaa.Q13Cover

/- Chapter 13: censuses: the plain functions of the program and of the reference agree, and the laws answer true. (Q13Tools) No condition but those of each theorem. -/
namespace Go.Proofs.Ytpaakpbbahbhcaa.Q13Tools
set_option linter.unusedVariables false
set_option linter.unusedSimpArgs false
open Go.RowKit
open Go.Proofs.Ytpaakpbbahbhcaa.GoP Go.Proofs.Ytpaakpbbahbhcaa.PlainStamp Go.Proofs.Ytpaakpbbahbhcaa.QBase Go.Proofs.Ytpaakpbbahbhcaa.Q13Cover Go.Proofs.Ytpaakpbbahbhcaa.Q13Bonds Go.Proofs.Ytpaakpbbahbhcaa.Q13Reach Go.Proofs.Ytpaakpbbahbhcaa.Q13Ev Go.Proofs.Ytpaakpbbahbhcaa.Q13List Go.Proofs.Ytpaakpbbahbhcaa.Q13One Go.Proofs.Ytpaakpbbahbhcaa.QUp Go.Proofs.Ytpaakpbbahbhcaa.QLoop Go.Proofs.Ytpaakpbbahbhcaa.PSighting Go.Proofs.Ytpaakpbbahbhcaa.PIntA10

/-- the one at a place -/
def sAt (l : List Sighting) (j : Nat) : Sighting := l.getD j ⟨0, 0, ⟨#[]⟩, []⟩
theorem sAt_eq {l : List Sighting} {k : Nat} {x : Sighting} (h : l[k]? = some x) : sAt l k = x := by unfold sAt; rw [List.getD_eq_getElem?_getD, h]; rfl
theorem sAt_at {l : List Sighting} {k : Nat} (h : k < l.length) : l[k]? = some (sAt l k) := by rw [sAt_eq (List.getElem?_eq_getElem h)]; exact List.getElem?_eq_getElem h
theorem sAt_inj {l : List Sighting} (hk : okSis l = true) {i j : Nat} (hi : i < l.length) (hj : j < l.length) : ((sAt l i).id == (sAt l j).id) = (i == j) := by
  rw [Bool.eq_iff_iff, beq_iff_eq, beq_iff_eq]
  exact ⟨fun e => okSis_inj hk (sAt_at hi) (sAt_at hj) e, fun e => by rw [e]⟩
def covS (l : List Sighting) (L : Int) (i : Nat) : List Sighting := (covN l L i).map (sAt l)
def idsOf (l : List Sighting) (L : Int) (i : Nat) : List Int := (covN l L i).map fun j : Nat => (sAt l j).id
theorem covS_ids (l : List Sighting) (L : Int) (i : Nat) : (covS l L i).map Sighting.id = idsOf l L i := by unfold covS idsOf; rw [List.map_map]; rfl
theorem covN_len (l : List Sighting) (L : Int) (i : Nat) : (covN l L i).length ≤ l.length := by
  unfold covN
  have := List.length_filter_le (fun j => decide (L ≤ tabF l i j)) (List.range l.length)
  simpa using this
theorem covN_self {l : List Sighting} {L : Int} (hL : L ≤ 16) {i : Nat} (hi : i < l.length) : i ∈ covN l L i := covN_mem.2 ⟨hi, (tab_iff hL hi hi).2 .refl⟩
/-- the first one of a cover stands no later than the one asked -/
theorem covN_cons {l : List Sighting} {L : Int} (hL : L ≤ 16) {i : Nat} (hi : i < l.length) : ∃ h t, covN l L i = h :: t ∧ h ≤ i ∧ h < l.length := by
  have hm := covN_self hL hi
  cases he : covN l L i with
  | nil => rw [he] at hm; simp at hm
  | cons h t =>
    refine ⟨h, t, rfl, ?_, (covN_mem.1 (by rw [he]; simp : h ∈ covN l L i)).1⟩
    have hu := covN_up l L i
    rw [he] at hm hu
    rcases List.mem_cons.1 hm with e | e
    · omega
    · have := (List.pairwise_cons.1 hu).1 i e; omega
def isF (l : List Sighting) (L : Int) (i : Nat) : Bool := (covN l L i).head? == some i
theorem isF_cons {l : List Sighting} {L : Int} {i h : Nat} {t : List Nat} (e : covN l L i = h :: t) : isF l L i = (h == i) := by unfold isF; rw [e]; rfl
theorem canJoin_eq (l : List Sighting) (L : Int) : GiCanJoin.P l L = some (okSis l && inB L (-30) 16) := by
  simp only [GiCanJoin.P, areSightings_eq, within_eq, Option.bind_some, joinK, appK, iteK_if]
  cases okSis l <;> simp
theorem l13Limit_eq (L : Int) : GsL13Limit.P L = some (inB L (-30) 16) := by simp only [GsL13Limit.P, l1In_eq, Option.bind_some]
theorem coverOf_eq {l : List Sighting} (hk : okSis l = true) {T : List Int} (hT : isTab l T (tabF l)) {i : Nat} (hi : i < l.length) (L : Int) :
    GiCoverOf.P l (IntA10.mk (Go.Proofs.Ytpaakpbbahbhcaa.GoA.nth T (i * 10 + 0)) (Go.Proofs.Ytpaakpbbahbhcaa.GoA.nth T (i * 10 + 1)) (Go.Proofs.Ytpaakpbbahbhcaa.GoA.nth T (i * 10 + 2)) (Go.Proofs.Ytpaakpbbahbhcaa.GoA.nth T (i * 10 + 3)) (Go.Proofs.Ytpaakpbbahbhcaa.GoA.nth T (i * 10 + 4)) (Go.Proofs.Ytpaakpbbahbhcaa.GoA.nth T (i * 10 + 5)) (Go.Proofs.Ytpaakpbbahbhcaa.GoA.nth T (i * 10 + 6)) (Go.Proofs.Ytpaakpbbahbhcaa.GoA.nth T (i * 10 + 7)) (Go.Proofs.Ytpaakpbbahbhcaa.GoA.nth T (i * 10 + 8)) (Go.Proofs.Ytpaakpbbahbhcaa.GoA.nth T (i * 10 + 9))) L = some (covS l L i) := by
  have hn := okSis_len hk
  simp only [GiCoverOf.P, unIntA10, letK]
  refine cnt_is _ (fun k (s : List Sighting) => s = ((List.range k).filter fun j => decide (L ≤ tabF l i j)).map (sAt l)) ?_ ?_ _ rfl
  · intro k s nx hkl hI hn'
    obtain ⟨x, hx, hxi⟩ := at_lt (l := l) (k := k) hkl
    have hv : idx [Go.Proofs.Ytpaakpbbahbhcaa.GoA.nth T (i * 10 + 0), Go.Proofs.Ytpaakpbbahbhcaa.GoA.nth T (i * 10 + 1), Go.Proofs.Ytpaakpbbahbhcaa.GoA.nth T (i * 10 + 2), Go.Proofs.Ytpaakpbbahbhcaa.GoA.nth T (i * 10 + 3), Go.Proofs.Ytpaakpbbahbhcaa.GoA.nth T (i * 10 + 4), Go.Proofs.Ytpaakpbbahbhcaa.GoA.nth T (i * 10 + 5), Go.Proofs.Ytpaakpbbahbhcaa.GoA.nth T (i * 10 + 6), Go.Proofs.Ytpaakpbbahbhcaa.GoA.nth T (i * 10 + 7), Go.Proofs.Ytpaakpbbahbhcaa.GoA.nth T (i * 10 + 8), Go.Proofs.Ytpaakpbbahbhcaa.GoA.nth T (i * 10 + 9)] (k : Int) = some (tabF l i k) := by
      rw [← hT.2 i k hi hkl, idx_nat]
      have hk10 : k < 10 := by omega
      clear hI hn' hx hxi hkl
      rcases k with _ | _ | _ | _ | _ | _ | _ | _ | _ | _ | k
      all_goals first | rfl | omega
    have hlen : s.length ≤ k := by
      rw [hI, List.length_map]
      have := List.length_filter_le (fun j => decide (L ≤ tabF l i j)) (List.range k)
      simpa using this
    have hnext : ((List.range (k + 1)).filter fun j => decide (L ≤ tabF l i j)).map (sAt l) = s ++ (if L ≤ tabF l i k then [x] else []) := by
      rw [List.range_succ, List.filter_append, List.map_append, ← hI]
      by_cases h : L ≤ tabF l i k
      · rw [if_pos h]; simp [h, sAt_eq hx]
      · rw [if_neg h]; simp [h]
    simp only [GiCoverOf.l0, hxi, hv, Option.bind_some, unSighting, letK, appK, iteK_if]
    by_cases h : L ≤ tabF l i k
    · rw [if_pos (by simpa using h), guardK_pos (by omega)]
      refine hn' _ ?_
      rw [hnext, if_pos h]
    · rw [if_neg (by simpa using h)]
      refine hn' _ ?_
      rw [hnext, if_neg h, List.append_nil]
  · intro s hI
    simp only [GiCoverOf.e0, letK]
    rw [hI]; rfl
end Go.Proofs.Ytpaakpbbahbhcaa.Q13Tools

/- Chapter 13: censuses: the plain functions of the program and of the reference agree, and the laws answer true. (Q13Covers) No condition but those of each theorem. -/
namespace Go.Proofs.Ytpaakpbbahbhcaa.Q13Covers
set_option linter.unusedVariables false
set_option linter.unusedSimpArgs false
open Go.RowKit
open Go.Proofs.Ytpaakpbbahbhcaa.GoP Go.Proofs.Ytpaakpbbahbhcaa.PlainStamp Go.Proofs.Ytpaakpbbahbhcaa.QBase Go.Proofs.Ytpaakpbbahbhcaa.Q13Tools Go.Proofs.Ytpaakpbbahbhcaa.Q13Cover Go.Proofs.Ytpaakpbbahbhcaa.Q13Bonds Go.Proofs.Ytpaakpbbahbhcaa.Q13Ev Go.Proofs.Ytpaakpbbahbhcaa.Q13List Go.Proofs.Ytpaakpbbahbhcaa.Q13One Go.Proofs.Ytpaakpbbahbhcaa.QUp Go.Proofs.Ytpaakpbbahbhcaa.QLoop Go.Proofs.Ytpaakpbbahbhcaa.PSighting Go.Proofs.Ytpaakpbbahbhcaa.PIntA10

def coversL (l : List Sighting) (L : Int) : List (List Int) := ((List.range l.length).filter (isF l L)).map (idsOf l L)
def coversRes (l : List Sighting) (L : Int) : List (List Int) × Bool := if (okSis l && inB L (-30) 16) = true then (coversL l L, true) else ([], false)
theorem next_L {l : List Sighting} {L : Int} {k : Nat} {s : List (List Int)} (hI : s = ((List.range k).filter (isF l L)).map (idsOf l L)) : ((List.range (k + 1)).filter (isF l L)).map (idsOf l L) = if isF l L k = true then s ++ [idsOf l L k] else s := by
  rw [List.range_succ, List.filter_append, List.map_append, ← hI]
  cases hb : isF l L k <;> simp [hb]
theorem len_L {l : List Sighting} {L : Int} {k : Nat} : (((List.range k).filter (isF l L)).map (idsOf l L)).length ≤ k := by
  rw [List.length_map]
  have := List.length_filter_le (isF l L) (List.range k)
  simpa using this
theorem covers_impl (l : List Sighting) (L : Int) : GiCoversSeen.P l L = some (coversRes l L) := by
  simp only [GiCoversSeen.P, canJoin_eq, Option.bind_some, letK, iteK_if]
  unfold coversRes
  cases hok : (okSis l && inB L (-30) 16) with
  | false => simp
  | true =>
    rw [if_neg (by simp), if_pos rfl]
    simp only [Bool.and_eq_true] at hok
    obtain ⟨hk, hL⟩ := hok
    have hL := inB_of hL
    have hn := okSis_len hk
    obtain ⟨T, hT1, hT⟩ := bonds_eq l hk
    simp only [hT1, Option.bind_some]
    rw [guardK_pos hT.1]
    refine cnt_is _ (fun k (s : List (List Int)) => s = ((List.range k).filter (isF l L)).map (idsOf l L)) ?_ ?_ _ rfl
    · intro k s nx hkl hI hn'
      obtain ⟨x, hx, hxi⟩ := at_lt (l := l) (k := k) hkl
      have hsl : s.length ≤ k := by rw [hI]; exact len_L
      simp only [GiCoversSeen.l0, hxi, Option.bind_some, unSighting, letK, coverOf_eq hk hT hkl L]
      rw [guardK_pos (by omega)]
      have hcl : (covS l L k).length ≤ 10 := by unfold covS; rw [List.length_map]; have := covN_len l L k; omega
      refine cnt_is _ (fun q (s : List Int) => s = ((covS l L k).take q).map Sighting.id) ?_ ?_ _ rfl
      · intro q ids nx' hq hJ hn''
        obtain ⟨y, hy, hyi⟩ := at_lt (l := covS l L k) (k := q) hq
        have hil : ids.length ≤ q := by rw [hJ, List.length_map, List.length_take]; omega
        simp only [GiCoversSeen.l1, hyi, Option.bind_some, unSighting, letK, appK]
        rw [guardK_pos (by omega)]
        refine hn'' _ ?_
        rw [take_next hy, hJ]; simp
      · intro ids hJ
        rw [List.take_of_length_le (Nat.le_refl _), covS_ids] at hJ
        obtain ⟨h, t, he, hhk, hhl⟩ := covN_cons (l := l) (L := L) (by omega) hkl
        have hids : ids = (sAt l h).id :: t.map (fun j : Nat => (sAt l j).id) := by rw [hJ]; unfold idsOf; rw [he]; rfl
        have h0 : idx ids 0 = some (sAt l h).id := by rw [hids]; rfl
        have hxid : x.id = (sAt l k).id := by rw [sAt_eq hx]
        simp only [GiCoversSeen.e1, letK, h0, Option.bind_some, hxid, sAt_inj hk hhl hkl, iteK_if, appK]
        have hnx := next_L (l := l) (L := L) hI
        rw [isF_cons he] at hnx
        cases hb : (h == k) with
        | true =>
          rw [if_pos rfl, guardK_pos (by omega)]
          refine hn' _ ?_
          rw [hnx, hb, if_pos rfl, hJ]
        | false =>
          rw [if_neg (by simp)]
          refine hn' _ ?_
          rw [hnx, hb, if_neg (by simp)]
    · intro s hI
      simp only [GiCoversSeen.e0, letK]
      rw [hI]; rfl
theorem covers_spec (l : List Sighting) (L : Int) (hf : ∀ s ∈ l, sz13 s) (hl : l.length ≤ 9223372036854775807) (fuel : Nat) (hfu : 2000 ≤ fuel) : GsCoversSeen.P fuel l L = some (coversRes l L) := by
  simp only [GsCoversSeen.P, l13Good_eq l hf hl, l13Limit_eq, Option.bind_some, letK, joinK, appK, iteK_if]
  unfold coversRes
  cases hk : okSis l with
  | false => simp
  | true =>
    cases hL0 : inB L (-30) 16 with
    | false => simp
    | true =>
      have hL := inB_of hL0
      have hn := okSis_len hk
      simp only [Bool.not_true, Bool.false_eq_true, if_false, Bool.and_self, if_true]
      refine cnt_is _ (fun k (s : List (List Int)) => s = ((List.range k).filter (isF l L)).map (idsOf l L)) ?_ ?_ _ rfl
      · intro k s nx hkl hI hn'
        have hsl : s.length ≤ k := by rw [hI]; exact len_L
        obtain ⟨h, t, he, hhk, hhl⟩ := covN_cons (l := l) (L := L) (by omega) hkl
        have h0 : idx (cov l L k) 0 = some (h : Int) := by unfold cov; rw [he]; rfl
        have hnx := next_L (l := l) (L := L) hI
        rw [isF_cons he] at hnx
        simp only [GsCoversSeen.l0, cover_eq hk (by omega : L ≤ 16) hkl fuel hfu, h0, Option.bind_some, letK, iteK_if, appK]
        by_cases hlt : h < k
        · rw [if_pos (by simp; omega)]
          refine hn' _ ?_
          rw [hnx, if_neg (by simp; omega)]
        · rw [if_neg (by simp; omega)]
          have hcl : (cov l L k).length ≤ 10 := by unfold cov; rw [List.length_map]; have := covN_len l L k; omega
          refine cnt_is _ (fun q (s : List Int) => s = ((covN l L k).take q).map fun j : Nat => (sAt l j).id) ?_ ?_ _ rfl
          · intro q ids nx' hq hJ hn''
            have hq' : q < (covN l L k).length := by unfold cov at hq; rwa [List.length_map] at hq
            obtain ⟨j, hj, _⟩ := at_lt (l := covN l L k) (k := q) hq'
            have hjl := (covN_mem.1 (List.mem_of_getElem? hj)).1
            have hci : idx (cov l L k) (q : Int) = some (j : Int) := by rw [idx_nat]; unfold cov; rw [List.getElem?_map, hj]; rfl
            have hxi : idx l (j : Int) = some (sAt l j) := by rw [idx_nat]; exact sAt_at hjl
            have hil : ids.length ≤ q := by rw [hJ, List.length_map, List.length_take]; omega
            simp only [GsCoversSeen.l1, hci, hxi, Option.bind_some, unSighting, letK, appK]
            rw [guardK_pos (by omega)]
            refine hn'' _ ?_
            rw [take_next hj, hJ]; simp
          · intro ids hJ
            have hlen : (cov l L k).length = (covN l L k).length := by unfold cov; rw [List.length_map]
            rw [hlen, List.take_of_length_le (Nat.le_refl _)] at hJ
            simp only [GsCoversSeen.e1, letK, appK]
            rw [guardK_pos (by omega)]
            refine hn' _ ?_
            rw [hnx, if_pos (by simp; omega), hJ]; rfl
      · intro s hI
        simp only [GsCoversSeen.e0, letK]
        rw [hI]; rfl
theorem coversL_small {l : List Sighting} {L : Int} (hk : okSis l = true) : (∀ row ∈ coversL l L, row.length ≤ 1000) ∧ (coversL l L).length ≤ 1000 := by
  have hn := okSis_len hk
  refine ⟨fun row hr => ?_, ?_⟩
  · unfold coversL at hr
    obtain ⟨i, _, rfl⟩ := List.mem_map.1 hr
    unfold idsOf
    rw [List.length_map]
    have := covN_len l L i; omega
  · unfold coversL
    have := len_L (l := l) (L := L) (k := l.length); omega
theorem coversRes_small (l : List Sighting) (L : Int) : (∀ row ∈ (coversRes l L).1, row.length ≤ 1000) ∧ (coversRes l L).1.length ≤ 1000 := by
  unfold coversRes
  cases hok : (okSis l && inB L (-30) 16) with
  | false => simp
  | true =>
    simp only [Bool.and_eq_true] at hok
    simpa using coversL_small (L := L) hok.1
end Go.Proofs.Ytpaakpbbahbhcaa.Q13Covers

/- Combs of the same gauges: the plain functions of the program and of the reference agree, and the law answers true. (QHSS) No condition but those of each theorem. -/
namespace Go.Proofs.Ytpaakpbbahbhcaa.QHSS
set_option linter.unusedVariables false
set_option linter.unusedSimpArgs false
open Go.RowKit
open Go.Proofs.Ytpaakpbbahbhcaa.GoP Go.Proofs.Ytpaakpbbahbhcaa.PlainStamp Go.Proofs.Ytpaakpbbahbhcaa.QBase Go.Proofs.Ytpaakpbbahbhcaa.QLoop

theorem eqI3 (l : List Int) : GlEqIntS.P l l = some true := by
  simp only [GlEqIntS.P, letK, iteK_if]
  rw [if_neg (by simp)]
  refine cnt_is true (fun _ _ => True) ?_ (fun s _ => rfl) () trivial
  intro k s nx hk _ hn
  obtain ⟨x, hx, hi⟩ := at_lt (l := l) (k := k) hk
  simp only [GlEqIntS.l0, hi, Option.bind_some, letK, appK, iteK_if]
  rw [if_neg (by simp)]
  exact hn () trivial
theorem eqSS (l : List (List Int)) : GlEqIntSS.P l l = some true := by
  simp only [GlEqIntSS.P, letK, iteK_if]
  rw [if_neg (by simp)]
  refine cnt_is true (fun _ _ => True) ?_ (fun s _ => rfl) () trivial
  rintro k ⟨⟩ nx hk _ hn
  obtain ⟨x, hx, hi⟩ := at_lt (l := l) (k := k) hk
  simp only [GlEqIntSS.l0, hi, Option.bind_some, eqI3, letK, appK, iteK_if]
  rw [if_neg (by simp)]
  exact hn () trivial
/-- c, c + 1 .. -/
def upsF (c : Int) (n : Nat) : List Int := (List.range n).map fun i : Nat => c + (i : Int)
theorem upsF_at {c : Int} {n k : Nat} (h : k < n) : (upsF c n)[k]? = some (c + (k : Int)) := by unfold upsF; simp [h]
theorem upsF_len (c : Int) (n : Nat) : (upsF c n).length = n := by simp [upsF]
theorem markF (l : List Int) (c : Int) (h0 : 0 ≤ c) (h1 : c + l.length ≤ 1099511627776) : GlMarkIntS.P l c = some (c + (l.length : Int), upsF c l.length) := by
  simp only [GlMarkIntS.P]
  refine cnt_is _ (fun k (s : List Int × Int) => s.1.length = l.length ∧ s.2 = c + (k : Int) ∧ ∀ i : Nat, i < k → s.1[i]? = some (c + (i : Int))) ?_ ?_ (l, c) ⟨rfl, by simp, fun i hi => by omega⟩
  · rintro k ⟨a, b⟩ nx hk ⟨h1, h2, h3⟩ hn
    dsimp only at h1 h2 h3
    obtain ⟨x, hx, hi⟩ := at_lt (l := a) (k := k) (by omega)
    simp only [GlMarkIntS.l0, unp2, hi, Option.bind_some, letK, appK]
    rw [wrap_in (by omega) (by omega)]
    refine hn _ ⟨by simpa using h1, by dsimp only; omega, fun i hi2 => ?_⟩
    dsimp only
    by_cases he : i = k
    · subst he; rw [List.getElem?_set_self (by omega), h2]
    · rw [List.getElem?_set_ne (by omega)]; exact h3 i (by omega)
  · rintro ⟨a, b⟩ ⟨h1, h2, h3⟩
    dsimp only at h1 h2 h3
    have : a = upsF c l.length := by
      apply List.ext_getElem?
      intro i
      by_cases hi : i < l.length
      · rw [h3 i hi, upsF_at hi]
      · rw [List.getElem?_eq_none (by omega), List.getElem?_eq_none (by rw [upsF_len]; omega)]
    simp only [GlMarkIntS.e0, unp2]
    rw [this, h2]
theorem heldF (c : Int) (n : Nat) (h0 : 0 ≤ c) (h1 : c + n ≤ 1099511627776) : GlHeldIntS.P (upsF c n) c = some (c + (n : Int)) := by
  simp only [GlHeldIntS.P]
  refine cnt_is _ (fun k s => s = c + (k : Int)) ?_ ?_ c (by simp)
  · intro k s nx hk hI hn
    rw [upsF_len] at hk
    have hi : idx (upsF c n) (k : Int) = some (c + (k : Int)) := by rw [idx_nat, upsF_at hk]
    simp only [GlHeldIntS.l0, hi, Option.bind_some, letK, appK, iteK_if]
    rw [if_neg (by simp [hI]), wrap_in (by omega) (by omega)]
    exact hn _ (by omega)
  · intro s hI
    simp only [GlHeldIntS.e0, letK]
    rw [hI, upsF_len]
def st (g : List (List Int)) (i : Nat) : Nat := 1 + ((g.take i).map List.length).sum
theorem st_succ {g : List (List Int)} {k : Nat} {row : List Int} (h : g[k]? = some row) : st g (k + 1) = st g k + row.length := by
  unfold st
  rw [take_next h, List.map_append, List.sum_append]
  simp; omega
theorem st_le {g : List (List Int)} {m : Nat} (h : ∀ row ∈ g, row.length ≤ m) : ∀ i, i ≤ g.length → st g i ≤ 1 + m * i := by
  intro i
  induction i with
  | zero => intro _; simp [st]
  | succ i ih =>
    intro hi
    obtain ⟨row, hr, _⟩ := at_lt (l := g) (k := i) (by omega)
    have h1 := h row (List.mem_of_getElem? hr)
    have h2 := ih (by omega)
    rw [st_succ hr, Nat.mul_succ]
    omega
theorem markSS (g : List (List Int)) (hb : ∀ row ∈ g, row.length ≤ 1000) (hl : g.length ≤ 1000) : ∃ M, GlMarkIntSS.P g 1 = some ((st g g.length : Int), M) ∧ GlHeldIntSS.P M 1 = some (st g g.length : Int) := by
  have hst : ∀ i, i ≤ g.length → st g i ≤ 1000001 := by
    intro i hi
    have := st_le hb i hi
    have h2 : 1000 * i ≤ 1000 * 1000 := Nat.mul_le_mul_left 1000 (by omega)
    omega
  obtain ⟨⟨v, M⟩, h, hv, hM, hrow⟩ : ∃ r : Int × List (List Int), GlMarkIntSS.P g 1 = some r ∧ r.1 = (st g g.length : Int) ∧ r.2.length = g.length ∧ ∀ (i : Nat) (row : List Int), g[i]? = some row → r.2[i]? = some (upsF (st g i : Int) row.length) := by
    simp only [GlMarkIntSS.P]
    refine cnt_ex (n := g.length) (Q := fun r : Int × List (List Int) => r.1 = (st g g.length : Int) ∧ r.2.length = g.length ∧ ∀ (i : Nat) (row : List Int), g[i]? = some row → r.2[i]? = some (upsF (st g i : Int) row.length)) (fun k (s : List (List Int) × Int) => s.1.length = g.length ∧ s.2 = (st g k : Int) ∧ (∀ (i : Nat) (row : List Int), i < k → g[i]? = some row → s.1[i]? = some (upsF (st g i : Int) row.length)) ∧ ∀ i : Nat, k ≤ i → s.1[i]? = g[i]?) ?_ ?_ g.length 0 (g, 1) (by omega) ⟨rfl, by simp [st], fun i row hi _ => by omega, fun i _ => rfl⟩
    · rintro k ⟨a, b⟩ nx hk ⟨h1, h2, h3, h4⟩ hn
      dsimp only at h1 h2 h3 h4
      obtain ⟨row, hr, _⟩ := at_lt (l := g) (k := k) hk
      have ha := h4 k (Nat.le_refl _)
      rw [hr] at ha
      have hai : idx a (k : Int) = some row := by rw [idx_nat, ha]
      have hs := hst (k + 1) (by omega)
      rw [st_succ hr] at hs
      simp only [GlMarkIntSS.l0, unp2, hai, Option.bind_some, h2]
      rw [markF row (st g k : Int) (by omega) (by omega)]
      simp only [bind2_some, letK, appK]
      refine hn _ ⟨by dsimp only; rw [List.length_set]; exact h1, by dsimp only; rw [st_succ hr]; omega, fun i row' hi hr' => ?_, fun i hi => ?_⟩
      · dsimp only
        by_cases he : i = k
        · subst he
          obtain rfl := Option.some.inj (hr.symm.trans hr')
          rw [List.getElem?_set_self (by omega)]
        · rw [List.getElem?_set_ne (by omega)]
          exact h3 i row' (by omega) hr'
      · dsimp only
        rw [List.getElem?_set_ne (by omega)]
        exact h4 i (by omega)
    · rintro ⟨a, b⟩ ⟨h1, h2, h3, h4⟩
      dsimp only at h1 h2 h3 h4
      exact ⟨_, rfl, h2, h1, fun i row hr => h3 i row (List.getElem?_eq_some_iff.1 hr).1 hr⟩
  dsimp only at hv hM hrow
  refine ⟨M, by rw [h, hv], ?_⟩
  simp only [GlHeldIntSS.P]
  refine cnt_is _ (fun k s => s = (st g k : Int)) ?_ ?_ 1 (by simp [st])
  · intro k s nx hk hI hn
    obtain ⟨row, hr, _⟩ := at_lt (l := g) (k := k) (by omega)
    have hMi : idx M (k : Int) = some (upsF (st g k : Int) row.length) := by rw [idx_nat, hrow k row hr]
    have hs := hst (k + 1) (by omega)
    rw [st_succ hr] at hs
    simp only [GlHeldIntSS.l0, letK, hMi, Option.bind_some, hI]
    rw [heldF (st g k : Int) row.length (by omega) (by omega)]
    simp only [Option.bind_some, appK, iteK_if]
    rw [if_neg (by simp; omega)]
    exact hn _ (by rw [st_succ hr]; omega)
  · intro s hI
    simp only [GlHeldIntSS.e0, letK]
    rw [hI, hM]
end Go.Proofs.Ytpaakpbbahbhcaa.QHSS

/- The laws' helper that marks a slice of Sighting as a plain function. No condition but those of each theorem. -/
namespace Go.Proofs.Ytpaakpbbahbhcaa.QHVSighting
set_option linter.unusedVariables false
set_option linter.unusedSimpArgs false
open Go.RowKit
open Go.Proofs.Ytpaakpbbahbhcaa.GoP Go.Proofs.Ytpaakpbbahbhcaa.QBase Go.Proofs.Ytpaakpbbahbhcaa.QLoop Go.Proofs.Ytpaakpbbahbhcaa.QInt Go.Proofs.Ytpaakpbbahbhcaa.QToI Go.Proofs.Ytpaakpbbahbhcaa.PSighting Go.Proofs.Ytpaakpbbahbhcaa.QHVSightingE
theorem set_at {α : Type} {l : List α} {k : Nat} (x : α) (h : k < l.length) : idx (l.set k x) (k : Int) = some x := by rw [idx_nat, List.getElem?_set_self h]
theorem mark_ok (k : Int) (h : 1 ≤ k ∧ k ≤ 1000000000) : ∃ t, GlMarkText.P k = some t := by
  unfold GlMarkText.P; rw [if_pos h]; exact ⟨_, rfl⟩
theorem markI1 (l : List Int) (k0 : Int) (h0 : 0 ≤ k0) (h1 : k0 ≤ 1000000000) (hl : l.length ≤ 1048576) : ∃ v m, GlMarkIntS.P l k0 = some (v, m) ∧ v = k0 + (l.length : Int) ∧ m.length = l.length := by
  obtain ⟨⟨v, m⟩, h, hv⟩ : ∃ r : Int × List Int, GlMarkIntS.P l k0 = some r ∧ r.1 = k0 + (l.length : Int) ∧ r.2.length = l.length := by
    simp only [GlMarkIntS.P]
    refine cnt_ex (n := l.length) (Q := fun r : Int × List Int => r.1 = k0 + (l.length : Int) ∧ r.2.length = l.length) (fun k (s : List Int × Int) => s.1.length = l.length ∧ s.2 = k0 + (k : Int)) ?_ ?_ l.length 0 (l, k0) (by omega) ⟨rfl, by simp⟩
    · rintro k ⟨a, b⟩ nx hk ⟨h2, h3⟩ hn
      dsimp only at h2 h3
      obtain ⟨x, hx, hi⟩ := at_lt (l := a) (k := k) (by omega)
      simp only [GlMarkIntS.l0, unp2, hi, Option.bind_some, letK, appK]
      rw [wrap_in (by omega) (by omega)]
      exact hn _ ⟨by simpa using h2, by dsimp only; omega⟩
    · rintro ⟨a, b⟩ ⟨h2, h3⟩
      exact ⟨_, rfl, h3, h2⟩
  exact ⟨v, m, h, hv⟩
theorem markF (l : List Sighting) (k0 : Int) (hk0 : 1 ≤ k0) (hk1 : k0 ≤ 100000000) (hl : small l) : ∃ v l', GlMarkSightingS.P l k0 = some (v, l') ∧ v = k0 + 3 * (l.length : Int) + (tot l l.length : Int) := by
  have hsm := hl
  unfold small at hsm
  obtain ⟨⟨v, l'⟩, h, hv⟩ : ∃ r : Int × List Sighting, GlMarkSightingS.P l k0 = some r ∧ r.1 = k0 + 3 * (l.length : Int) + (tot l l.length : Int) := by
    simp only [GlMarkSightingS.P]
    refine cnt_ex (n := l.length) (Q := fun r : Int × List Sighting => r.1 = k0 + 3 * (l.length : Int) + (tot l l.length : Int)) (fun k (s : List Sighting × Int) => s.1.length = l.length ∧ (∀ i, k ≤ i → s.1[i]? = l[i]?) ∧ s.2 = 3 * (k : Int) + k0 + (tot l k : Int)) ?_ ?_ l.length 0 (l, k0) (by omega) ⟨rfl, fun _ _ => rfl, by rw [tot_zero]; simp⟩
    · rintro k ⟨a, b⟩ nx hk ⟨h1, h3, h2⟩ hn
      dsimp only at h1 h2 h3
      obtain ⟨x, hx, hi⟩ := at_lt (l := a) (k := k) (by omega)
      have hxl : l[k]? = some x := by rw [← h3 k (Nat.le_refl _)]; exact hx
      have hm := tot_next hxl
      have hm2 := tot_mono l (l.length - (k + 1)) (k + 1)
      rw [show k + 1 + (l.length - (k + 1)) = l.length by omega] at hm2
      have hxr := small_row hl (List.mem_of_getElem? hxl)
      have ha : k < a.length := by omega
      have w0 : IntKind.i64.wrap (b + 1) = b + 1 := wrap_in (by omega) (by omega)
      have w1 : IntKind.i64.wrap (b + 1 + 1) = b + 1 + 1 := wrap_in (by omega) (by omega)
      obtain ⟨t2, m2⟩ := mark_ok (b + 1 + 1) (by omega)
      have w2 : IntKind.i64.wrap (b + 1 + 1 + 1) = b + 1 + 1 + 1 := wrap_in (by omega) (by omega)
      obtain ⟨q, r, hq, hq1, hq2⟩ := markI1 x.traits (b + 1 + 1 + 1) (by omega) (by omega) (by omega)
      simp (disch := simp [ha]) only [GlMarkSightingS.l0, unp2, hi, set_at, Option.bind_some, bind2, unSighting, letK, appK, w0, w1, m2, w2, hq]
      refine hn _ ⟨by simpa using h1, fun i hi2 => ?_, by dsimp only; omega⟩
      dsimp only
      simp only [List.set_set]
      rw [List.getElem?_set_ne (by omega)]
      exact h3 i (by omega)
    · rintro ⟨a, b⟩ ⟨h1, _, h2⟩
      exact ⟨_, rfl, by dsimp only at h2 ⊢; omega⟩
  exact ⟨v, l', h, hv⟩
theorem markS (l : List Sighting) (hl : small l) : ∃ v l', GlMarkSightingS.P l 1 = some (v, l') ∧ 0 ≤ v := by
  obtain ⟨v, l', h, hv⟩ := markF l 1 (by omega) (by omega) hl
  exact ⟨v, l', h, by omega⟩
end Go.Proofs.Ytpaakpbbahbhcaa.QHVSighting

/- loop.example/g01062/impl.coverWith as a plain function, and the contract of the program's: where the plain one has an answer, the program has it. Conditions: slices read as lists. -/
namespace Go.Proofs.Ytpaakpbbahbhcaa.GiCoverWith
set_option linter.unusedVariables false
set_option linter.unusedSimpArgs false
open Go.RowKit
open Go.Proofs.Ytpaakpbbahbhcaa.Rowed Go.Proofs.Ytpaakpbbahbhcaa.Turn Go.Proofs.Ytpaakpbbahbhcaa.Aid Go.Proofs.Ytpaakpbbahbhcaa.GoP Go.Proofs.Ytpaakpbbahbhcaa.GoM

def P (list : (List Go.Proofs.Ytpaakpbbahbhcaa.PSighting.Sighting)) (limit : Int) (id : Int) : Option ((List Go.Proofs.Ytpaakpbbahbhcaa.PSighting.Sighting)) :=
  Option.bind (Go.Proofs.Ytpaakpbbahbhcaa.GiIndexOfSighting.P list id) fun (t_3 : Int) =>
  Option.bind (Go.Proofs.Ytpaakpbbahbhcaa.GiCanJoin.P list limit) fun (t_7 : Bool) =>
  letK (!t_7) fun (t_8 : Bool) =>
  joinK (fun (t_12 : Bool) =>
  iteK t_12
  (some ([] : List Go.Proofs.Ytpaakpbbahbhcaa.PSighting.Sighting))
  (Option.bind (Go.Proofs.Ytpaakpbbahbhcaa.GiBondsOf.P list) fun (t_17 : (List Int)) =>
  guardK ((0 : Int) ≤ t_3 ∧ (t_3 : Int) < 10) <|
  guardK (t_17.length = 100) <|
  letK (Go.Proofs.Ytpaakpbbahbhcaa.GoA.nth t_17 ((Int.toNat t_3) * 10 + 0)) fun (t_19_0 : Int) =>
  letK (Go.Proofs.Ytpaakpbbahbhcaa.GoA.nth t_17 ((Int.toNat t_3) * 10 + 1)) fun (t_19_1 : Int) =>
  letK (Go.Proofs.Ytpaakpbbahbhcaa.GoA.nth t_17 ((Int.toNat t_3) * 10 + 2)) fun (t_19_2 : Int) =>
  letK (Go.Proofs.Ytpaakpbbahbhcaa.GoA.nth t_17 ((Int.toNat t_3) * 10 + 3)) fun (t_19_3 : Int) =>
  letK (Go.Proofs.Ytpaakpbbahbhcaa.GoA.nth t_17 ((Int.toNat t_3) * 10 + 4)) fun (t_19_4 : Int) =>
  letK (Go.Proofs.Ytpaakpbbahbhcaa.GoA.nth t_17 ((Int.toNat t_3) * 10 + 5)) fun (t_19_5 : Int) =>
  letK (Go.Proofs.Ytpaakpbbahbhcaa.GoA.nth t_17 ((Int.toNat t_3) * 10 + 6)) fun (t_19_6 : Int) =>
  letK (Go.Proofs.Ytpaakpbbahbhcaa.GoA.nth t_17 ((Int.toNat t_3) * 10 + 7)) fun (t_19_7 : Int) =>
  letK (Go.Proofs.Ytpaakpbbahbhcaa.GoA.nth t_17 ((Int.toNat t_3) * 10 + 8)) fun (t_19_8 : Int) =>
  letK (Go.Proofs.Ytpaakpbbahbhcaa.GoA.nth t_17 ((Int.toNat t_3) * 10 + 9)) fun (t_19_9 : Int) =>
  Option.bind (Go.Proofs.Ytpaakpbbahbhcaa.GiCoverOf.P list (Go.Proofs.Ytpaakpbbahbhcaa.PIntA10.IntA10.mk t_19_0 t_19_1 t_19_2 t_19_3 t_19_4 t_19_5 t_19_6 t_19_7 t_19_8 t_19_9) limit) fun (t_21 : (List Go.Proofs.Ytpaakpbbahbhcaa.PSighting.Sighting)) =>
  some t_21)) fun jt_12 => iteK t_8 (appK jt_12 true) (letK (decide (t_3 < 0)) fun (t_11 : Bool) =>
  appK jt_12 t_11)

set_option maxRecDepth 100000 in
set_option maxHeartbeats 2000000 in
theorem C (list : (List Go.Proofs.Ytpaakpbbahbhcaa.PSighting.Sighting)) (limit : Int) (id : Int) (A0 : Option Addr) (c0 : Nat)  (v_ : World) (w : World) (HV : Hid (Below v_.heap.size v_ w)) (M0 : Hid (Go.Proofs.Ytpaakpbbahbhcaa.GoV.ReadNest v_ Go.Proofs.Ytpaakpbbahbhcaa.GoVSighting.lay A0 list)) (N0 : Hid (list.length ≤ 9223372036854775807)) (Q0 : Hid (Room A0 list.length c0))  {r : (List Go.Proofs.Ytpaakpbbahbhcaa.PSighting.Sighting)} (H : Hid (P list limit id = some r)) :
    Calls Try.prog 74 #[.slice A0 list.length c0, .int .i64 limit, .int .i64 id] w (fun e w' => ∃ A_r c_r, e = .returned (.slice A_r r.length c_r) ∧ (∃ B_, Go.Proofs.Ytpaakpbbahbhcaa.GoV.PartNest w' v_ (w.heap.size) 67 3 Go.Proofs.Ytpaakpbbahbhcaa.GoVSighting.lay (fun _ => false) A_r c_r r B_) ∧ Below w.heap.size w w') := by
  have HB := Lib.hid (Below.refl w.heap.size w)
  unfold P at H
  have N0o := N0.out
  obtain ⟨i0_67, hi_67, hz0_67, hz1_67, hz2_67⟩ := Aid.info_parts (P := Try.prog) (T := 67) (z := .agg #[.int .i64 0, .int .i64 0, .string ByteArray.empty, .slice none 0 0]) (s := 4) (b := 56) (by kernel_rfl)
  go_enter Try.func74, Try.ntmps74
  replace H := bind_hid H
  obtain ⟨t_3, qt_3, H⟩ := H
  go_wp2_with fail
  go_at_call 53
  refine (Go.Proofs.Ytpaakpbbahbhcaa.GiIndexOfSighting.C (list) (id) A0 c0 _   (Lib.hid (Go.Proofs.Ytpaakpbbahbhcaa.GoV.read_below M0.out (Below.step HV.out HB.out))) N0 qt_3).mono ?_
  rintro e_t_3 wt_3 ⟨rfl, bt_3⟩
  have HBwt_3 := Lib.hid (Below.step HB.out bt_3)
  clear bt_3
  replace H := bind_hid H
  obtain ⟨t_7, qt_7, H⟩ := H
  go_wp2_with fail
  go_at_call 61
  refine (Go.Proofs.Ytpaakpbbahbhcaa.GiCanJoin.C (list) (limit) A0 c0 _   (Lib.hid (Go.Proofs.Ytpaakpbbahbhcaa.GoV.read_below M0.out (Below.step HV.out HBwt_3.out))) N0 qt_7).mono ?_
  rintro e_t_7 wt_7 ⟨rfl, bt_7⟩
  have HBwt_7 := Lib.hid (Below.step HBwt_3.out bt_7)
  clear bt_7
  cases t_7 with
  | false =>
    replace H := let_hid H
    obtain ⟨t_8, ht_8, H⟩ := H
    obtain rfl : t_8 = true := ht_8.symm
    replace H := join_hid H
    replace H := ite_t H
    replace H := app_hid H
    replace H := ite_t H
    obtain ⟨w_t_13, hw_t_13⟩ : ∃ x, wt_7.alloc (.cells #[] 67) = x := ⟨_, rfl⟩
    have bw_t_13 : Below wt_7.heap.size wt_7 w_t_13 := by rw [← hw_t_13]; exact (Below.refl _ _).alloc (Nat.le_refl _) _
    have Ot_13 : Hid (Go.Proofs.Ytpaakpbbahbhcaa.GoV.PartNest w_t_13 v_ (w.heap.size) 67 3 Go.Proofs.Ytpaakpbbahbhcaa.GoVSighting.lay (fun _ => false) (some ⟨wt_7.heap.size, 0, none⟩) 0 ([] : List Go.Proofs.Ytpaakpbbahbhcaa.PSighting.Sighting) [some ⟨wt_7.heap.size, 0, none⟩]) := Lib.hid (by rw [← hw_t_13]; exact Go.Proofs.Ytpaakpbbahbhcaa.GoV.part_empty HBwt_7.out.size)
    have HBw_t_13 := Lib.hid (Below.step HBwt_7.out bw_t_13)
    clear bw_t_13
    obtain rfl := ret_hid H
    go_wp2_with fail
    go_ret
    exact ⟨(some ⟨wt_7.heap.size, 0, none⟩), 0, rfl, ⟨_, Ot_13.out⟩, HBw_t_13.out⟩
  | true =>
    replace H := let_hid H
    obtain ⟨t_8, ht_8, H⟩ := H
    obtain rfl : t_8 = false := ht_8.symm
    replace H := join_hid H
    replace H := ite_f H
    replace H := let_hid H
    obtain ⟨t_11, ht_11, H⟩ := H
    replace H := app_hid H
    cases t_11 with
    | false =>
      replace H := ite_f H
      replace H := bind_hid H
      obtain ⟨t_17, qt_17, H⟩ := H
      go_wp2_with fail
      go_at_call 54
      refine (Go.Proofs.Ytpaakpbbahbhcaa.GiBondsOf.C (list) A0 c0 _   (Lib.hid (Go.Proofs.Ytpaakpbbahbhcaa.GoV.read_below M0.out (Below.step HV.out HBwt_7.out))) N0 qt_17).mono ?_
      rintro e_t_17 wt_17 ⟨rfl, bt_17⟩
      have HBwt_17 := Lib.hid (Below.step HBwt_7.out bt_17)
      clear bt_17
      replace H := guard_hid H
      obtain ⟨hgt_19, H⟩ := H
      obtain ⟨Nt_19, eNt_19⟩ : ∃ N : Nat, t_3 = (N : Int) := ⟨(t_3).toNat, by omega⟩
      subst eNt_19
      have b0t_19 : (0 : Int) ≤ (Nt_19 : Int) := by omega
      have b1t_19 : (Nt_19 : Int) < ((10 : Nat) : Int) := by omega
      have b4t_19 : (Nt_19 : Int) < (10 : Int) := by omega
      have b2t_19 : ((Nt_19 : Int)).toNat = Nt_19 := by omega
      have b3t_19 : Nt_19 < 10 := by omega
      replace H := guard_hid H
      obtain ⟨hzt_19, H⟩ := H
      replace H := let_hid H
      obtain ⟨t_19_0, ht_19_0, H⟩ := H
      try simp only [Int.toNat_natCast] at ht_19_0
      replace ht_19_0 := Lib.hid ht_19_0
      replace H := let_hid H
      obtain ⟨t_19_1, ht_19_1, H⟩ := H
      try simp only [Int.toNat_natCast] at ht_19_1
      replace ht_19_1 := Lib.hid ht_19_1
      replace H := let_hid H
      obtain ⟨t_19_2, ht_19_2, H⟩ := H
      try simp only [Int.toNat_natCast] at ht_19_2
      replace ht_19_2 := Lib.hid ht_19_2
      replace H := let_hid H
      obtain ⟨t_19_3, ht_19_3, H⟩ := H
      try simp only [Int.toNat_natCast] at ht_19_3
      replace ht_19_3 := Lib.hid ht_19_3
      replace H := let_hid H
      obtain ⟨t_19_4, ht_19_4, H⟩ := H
      try simp only [Int.toNat_natCast] at ht_19_4
      replace ht_19_4 := Lib.hid ht_19_4
      replace H := let_hid H
      obtain ⟨t_19_5, ht_19_5, H⟩ := H
      try simp only [Int.toNat_natCast] at ht_19_5
      replace ht_19_5 := Lib.hid ht_19_5
      replace H := let_hid H
      obtain ⟨t_19_6, ht_19_6, H⟩ := H
      try simp only [Int.toNat_natCast] at ht_19_6
      replace ht_19_6 := Lib.hid ht_19_6
      replace H := let_hid H
      obtain ⟨t_19_7, ht_19_7, H⟩ := H
      try simp only [Int.toNat_natCast] at ht_19_7
      replace ht_19_7 := Lib.hid ht_19_7
      replace H := let_hid H
      obtain ⟨t_19_8, ht_19_8, H⟩ := H
      try simp only [Int.toNat_natCast] at ht_19_8
      replace ht_19_8 := Lib.hid ht_19_8
      replace H := let_hid H
      obtain ⟨t_19_9, ht_19_9, H⟩ := H
      try simp only [Int.toNat_natCast] at ht_19_9
      replace ht_19_9 := Lib.hid ht_19_9
      have it_19 : ∀ W_, (Instr.index 62 (.agg (Go.Proofs.Ytpaakpbbahbhcaa.HelpInt.iv t_17).toArray) (.int .i64 (Nt_19 : Int))).run Try.prog W_ = .ok (.agg #[.int .i64 t_19_0, .int .i64 t_19_1, .int .i64 t_19_2, .int .i64 t_19_3, .int .i64 t_19_4, .int .i64 t_19_5, .int .i64 t_19_6, .int .i64 t_19_7, .int .i64 t_19_8, .int .i64 t_19_9]) W_ := by
        intro W_
        rw [Go.Proofs.Ytpaakpbbahbhcaa.GoX.run_index_mat (m := 10) Try.underlying62 Try.underlying61 (by kernel_rfl) (by omega) hzt_19 W_]
        rw [← ht_19_0.out, ← ht_19_1.out, ← ht_19_2.out, ← ht_19_3.out, ← ht_19_4.out, ← ht_19_5.out, ← ht_19_6.out, ← ht_19_7.out, ← ht_19_8.out, ← ht_19_9.out]
        rfl
      replace H := bind_hid H
      obtain ⟨t_21, qt_21, H⟩ := H
      go_wp2_with fail
      go_at_call 62
      refine (Go.Proofs.Ytpaakpbbahbhcaa.GiCoverOf.C (list) ((Go.Proofs.Ytpaakpbbahbhcaa.PIntA10.IntA10.mk t_19_0 t_19_1 t_19_2 t_19_3 t_19_4 t_19_5 t_19_6 t_19_7 t_19_8 t_19_9)) (limit) A0 c0 v_ _ (Lib.hid (Below.step HV.out HBwt_17.out))   M0 N0 Q0 qt_21).mono ?_
      rintro e_t_21 wt_21 ⟨At_21, ct_21, rfl, ⟨Bt_21, ot_21⟩, bt_21⟩
      have Ot_21 := Lib.hid (Go.Proofs.Ytpaakpbbahbhcaa.GoV.part_lower ot_21 HBwt_17.out.size)
      clear ot_21
      have HBwt_21 := Lib.hid (Below.step HBwt_17.out bt_21)
      clear bt_21
      obtain rfl := ret_hid H
      go_wp2_with fail
      go_ret
      exact ⟨At_21, ct_21, rfl, ⟨_, Ot_21.out⟩, HBwt_21.out⟩
    | true =>
      replace H := ite_t H
      obtain ⟨w_t_13, hw_t_13⟩ : ∃ x, wt_7.alloc (.cells #[] 67) = x := ⟨_, rfl⟩
      have bw_t_13 : Below wt_7.heap.size wt_7 w_t_13 := by rw [← hw_t_13]; exact (Below.refl _ _).alloc (Nat.le_refl _) _
      have Ot_13 : Hid (Go.Proofs.Ytpaakpbbahbhcaa.GoV.PartNest w_t_13 v_ (w.heap.size) 67 3 Go.Proofs.Ytpaakpbbahbhcaa.GoVSighting.lay (fun _ => false) (some ⟨wt_7.heap.size, 0, none⟩) 0 ([] : List Go.Proofs.Ytpaakpbbahbhcaa.PSighting.Sighting) [some ⟨wt_7.heap.size, 0, none⟩]) := Lib.hid (by rw [← hw_t_13]; exact Go.Proofs.Ytpaakpbbahbhcaa.GoV.part_empty HBwt_7.out.size)
      have HBw_t_13 := Lib.hid (Below.step HBwt_7.out bw_t_13)
      clear bw_t_13
      obtain rfl := ret_hid H
      go_wp2_with fail
      go_ret
      exact ⟨(some ⟨wt_7.heap.size, 0, none⟩), 0, rfl, ⟨_, Ot_13.out⟩, HBw_t_13.out⟩
end Go.Proofs.Ytpaakpbbahbhcaa.GiCoverWith

/- Chapter 13: censuses: the plain functions of the program and of the reference agree, and the laws answer true. (Q13With) No condition but those of each theorem. -/
namespace Go.Proofs.Ytpaakpbbahbhcaa.Q13With
set_option linter.unusedVariables false
set_option linter.unusedSimpArgs false
open Go.RowKit
open Go.Proofs.Ytpaakpbbahbhcaa.GoP Go.Proofs.Ytpaakpbbahbhcaa.PlainStamp Go.Proofs.Ytpaakpbbahbhcaa.QBase Go.Proofs.Ytpaakpbbahbhcaa.Q13Find Go.Proofs.Ytpaakpbbahbhcaa.Q13Tools Go.Proofs.Ytpaakpbbahbhcaa.Q13Cover Go.Proofs.Ytpaakpbbahbhcaa.Q13Bonds Go.Proofs.Ytpaakpbbahbhcaa.Q13Ev Go.Proofs.Ytpaakpbbahbhcaa.Q13List Go.Proofs.Ytpaakpbbahbhcaa.Q13One Go.Proofs.Ytpaakpbbahbhcaa.QUp Go.Proofs.Ytpaakpbbahbhcaa.QLoop Go.Proofs.Ytpaakpbbahbhcaa.PSighting Go.Proofs.Ytpaakpbbahbhcaa.PIntA10

def okW (l : List Sighting) (L id : Int) : Bool := (okSis l && inB L (-30) 16) && decide (0 ≤ fnd l id)
def withS (l : List Sighting) (L id : Int) : List Sighting := if okW l L id = true then covS l L (fnd l id).toNat else []
theorem fnd_lt {l : List Sighting} {id : Int} (h : 0 ≤ fnd l id) : (fnd l id).toNat < l.length ∧ fnd l id = ((fnd l id).toNat : Int) := by
  rcases find_cases l id with ⟨i, x, h1, h2, _⟩ | ⟨h1, _⟩
  · rw [h1, Int.toNat_natCast]; exact ⟨(List.getElem?_eq_some_iff.1 h2).1, rfl⟩
  · omega
theorem with_eq (l : List Sighting) (L id : Int) : GiCoverWith.P l L id = some (withS l L id) := by
  simp only [GiCoverWith.P, indexOf_eq, canJoin_eq, Option.bind_some, letK, joinK, appK, iteK_if]
  unfold withS okW
  cases hok : (okSis l && inB L (-30) 16) with
  | false => simp
  | true =>
    simp only [Bool.and_eq_true] at hok
    obtain ⟨hk, hL⟩ := hok
    have hn := okSis_len hk
    rw [if_neg (by simp)]
    simp only [hk, if_true, Bool.true_and, decide_eq_true_eq]
    by_cases h0 : 0 ≤ fnd l id
    · obtain ⟨h1, h2⟩ := fnd_lt h0
      rw [if_neg (by omega), if_pos h0]
      obtain ⟨T, hT1, hT⟩ := bonds_eq l hk
      simp only [hT1, Option.bind_some]
      rw [guardK_pos (by omega), guardK_pos hT.1, coverOf_eq hk hT h1 L]
      rfl
    · rw [if_pos (by omega), if_neg h0]
theorem withS_len (l : List Sighting) (L id : Int) : (withS l L id).length ≤ 10 := by
  unfold withS
  cases h : okW l L id with
  | false => simp
  | true =>
    unfold okW at h
    simp only [Bool.and_eq_true] at h
    have hn := okSis_len h.1.1
    have := covN_len l L (fnd l id).toNat
    simp only [if_true]
    unfold covS
    rw [List.length_map]; omega
theorem withS_some {l : List Sighting} {L id : Int} (h : okW l L id = true) : 0 < (withS l L id).length := by
  have h0 := h
  unfold okW at h
  simp only [Bool.and_eq_true, decide_eq_true_eq] at h
  have hL := inB_of h.1.2
  obtain ⟨h1, h2⟩ := fnd_lt h.2
  unfold withS
  rw [if_pos h0]
  have := covN_self (l := l) (L := L) (by omega) h1
  unfold covS
  rw [List.length_map]
  exact List.length_pos_of_mem this
end Go.Proofs.Ytpaakpbbahbhcaa.Q13With

