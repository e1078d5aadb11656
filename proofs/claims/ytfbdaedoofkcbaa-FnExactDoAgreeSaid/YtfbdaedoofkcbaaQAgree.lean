/- DoAgree: the law's plain function answers true. Condition: the strings that come in are strings. -/
import Derived.Test.YtfbdaedoofkcbaaQSheetLaws
import Derived.Test.YtfbdaedoofkcbaaGlFnExactDoAgree
namespace Go.Proofs.Ytfbdaedoofkcbaa.QAgree
set_option linter.unusedVariables false
set_option linter.unusedSimpArgs false
open Go.RowKit
open Go.Proofs.Ytfbdaedoofkcbaa.GoP Go.Proofs.Ytfbdaedoofkcbaa.PlainStamp Go.Proofs.Ytfbdaedoofkcbaa.QBase Go.Proofs.Ytfbdaedoofkcbaa.QLoop Go.Proofs.Ytfbdaedoofkcbaa.QStrs Go.Proofs.Ytfbdaedoofkcbaa.QSheet Go.Proofs.Ytfbdaedoofkcbaa.QSheetLaws

/-- what is seen at a place, a point beside the rows -/
def see (l : List ByteArray) (r c : Int) : Int :=
  if 0 ≤ r ∧ r < (l.length : Int) ∧ 0 ≤ c ∧ c < ((rw_ l r.toNat).size : Int) then ((ch (rw_ l r.toNat) c.toNat).toNat : Int) else 46
theorem see_in {l : List ByteArray} {i j : Nat} (h1 : i < l.length) (h2 : j < (rw_ l i).size) : see l (i : Int) (j : Int) = ((ch (rw_ l i) j).toNat : Int) := by
  unfold see
  rw [Int.toNat_natCast, Int.toNat_natCast, if_pos ⟨by omega, by omega, by omega, by omega⟩]
theorem row_size {l : List ByteArray} (hs : ∀ s ∈ l, s.size ≤ 1048576) {i : Nat} (h : i < l.length) : (rw_ l i).size ≤ 1048576 := by
  obtain ⟨r, hr, hi, hd⟩ := at_row h
  rw [show rw_ l i = r from hd]; exact hs r (List.mem_of_getElem? hr)
theorem inB_of2 {n a b : Int} : inB n a b = decide (a ≤ n ∧ n ≤ b) := by
  unfold inB; rfl
theorem seenAt_eq (l : List ByteArray) (r c : Int) (hl : l.length ≤ 1048576) (hs : ∀ s ∈ l, s.size ≤ 1048576) : GiSeenAt.P l r c = some (see l r c) := by
  simp only [GiSeenAt.P, within_eq, Option.bind_some, letK, joinK, appK, iteK_if]
  rw [wrap_in (by omega) (by omega)]
  by_cases hr : 0 ≤ r ∧ r < (l.length : Int)
  · obtain ⟨i, rfl⟩ : ∃ i : Nat, r = i := ⟨r.toNat, by omega⟩
    have hi : i < l.length := by omega
    obtain ⟨y, hy, hiy, hd⟩ := at_row hi
    have hsz := hs y (List.mem_of_getElem? hy)
    have e1 : inB (i : Int) 0 ((l.length : Int) - 1) = true := by unfold inB; simp; omega
    simp only [e1, hiy, Option.bind_some, Bool.not_true, Bool.false_eq_true, if_false]
    rw [wrap_in (by omega) (by omega)]
    by_cases hc : 0 ≤ c ∧ c < (y.size : Int)
    · obtain ⟨j, rfl⟩ : ∃ j : Nat, c = j := ⟨c.toNat, by omega⟩
      obtain ⟨b, hb, hib, hdb⟩ := at_list (s := y) (k := j) (by omega)
      have e2 : inB (j : Int) 0 ((y.size : Int) - 1) = true := by unfold inB; simp; omega
      simp only [e2, hib, Option.bind_some, Bool.not_true, Bool.false_eq_true, if_false]
      rw [see_in hi (by rw [show rw_ l i = y from hd]; omega), show rw_ l i = y from hd, show ch y j = b from hdb]
    · have e2 : inB c 0 ((y.size : Int) - 1) = false := by unfold inB; simp; omega
      simp only [e2, Bool.not_false, if_true]
      unfold see
      rw [Int.toNat_natCast, show rw_ l i = y from hd, if_neg (by omega)]
  · have e1 : inB r 0 ((l.length : Int) - 1) = false := by unfold inB; simp; omega
    simp only [e1, Bool.not_false, if_true]
    unfold see
    rw [if_neg (by omega)]
def okp (x y : Int) : Bool := x == 46 || (y == 46 || x == y)
def agreeB (l m : List ByteArray) (d r : Int) : Bool := allN m.length fun i => allN (rw_ m i).size fun j => okp (see l (d + i) (r + j)) ((ch (rw_ m i) j).toNat : Int)
theorem agree_eq (l m : List ByteArray) (d r : Int) (hl : l.length ≤ 1048576) (hs : ∀ s ∈ l, s.size ≤ 1048576) (hm : m.length ≤ 1048576) (hms : ∀ s ∈ m, s.size ≤ 1048576) (hd : -5 ≤ d ∧ d ≤ 1048576) (hr : -5 ≤ r ∧ r ≤ 1048576) :
    GiAgree.P l m d r = some (agreeB l m d r) := by
  simp only [GiAgree.P]
  rw [all_cnt (p := fun i => allN (rw_ m i).size fun j => okp (see l (d + i) (r + j)) ((ch (rw_ m i) j).toNat : Int)) (no := false)]
  · unfold agreeB
    cases allN m.length _ <;> rfl
  · intro k nx hk
    obtain ⟨y, hy, hi, hdy⟩ := at_row hk
    have hsz := hms y (List.mem_of_getElem? hy)
    simp only [GiAgree.l0, hi, Option.bind_some, show rw_ m k = y from hdy]
    rw [guardK_pos (by omega), all_cnt (p := fun j => okp (see l (d + k) (r + j)) ((ch y j).toNat : Int)) (no := false)]
    · cases allN y.size _ <;> simp [GiAgree.e1, appK]
    · intro j nx2 hj
      obtain ⟨b, hb, hib, hdb⟩ := at_list hj
      simp only [GiAgree.l1, hib, Option.bind_some, letK, joinK, appK, iteK_if]
      rw [wrap_in (by omega) (by omega), wrap_in (by omega) (by omega), seenAt_eq l _ _ hl hs, show ch y j = b from hdb]
      simp only [Option.bind_some]
      unfold okp
      by_cases h1 : see l (d + k) (r + j) = 46
      · simp [h1]
      · by_cases h2 : (b.toNat : Int) = 46
        · simp [h1, h2]
        · by_cases h3 : see l (d + k) (r + j) = (b.toNat : Int)
          · simp [h1, h2, h3]
          · simp [h1, h2, h3]
theorem rowsB_parts {l : List ByteArray} {m : Nat} (h : rowsB l (m : Int) = true) : 1 ≤ l.length ∧ l.length ≤ m ∧ 1 ≤ (rw_ l 0).size ∧ (rw_ l 0).size ≤ m ∧ ∀ i, i < l.length → (rw_ l i).size = (rw_ l 0).size := by
  unfold rowsB at h
  simp only [Bool.and_eq_true] at h
  obtain ⟨h1, h2, h3⟩ := h
  have p1 := inB_pos h1; have p2 := inB_pos h2
  refine ⟨by omega, by omega, by omega, by omega, fun i hi => ?_⟩
  have := allN_iff.1 h3 i hi
  unfold rowB at this
  simp only [Bool.and_eq_true, decide_eq_true_eq] at this
  exact this.1
def specB (a b : List ByteArray) (d r : Int) : Bool := allN a.length fun i => allN (rw_ a 0).size fun k => okp ((ch (rw_ a i) k).toNat : Int) (see b (i - d) (k - r))
theorem okp_pt (x : Int) : okp x 46 = true := by unfold okp; simp
theorem okp_pt2 (x : Int) : okp 46 x = true := by unfold okp; simp
theorem both {a b : List ByteArray} {d r : Int} (ha : rowsB a (3 : Nat) = true) (hb : rowsB b (3 : Nat) = true) : agreeB a b d r = specB a b d r := by
  obtain ⟨a1, a2, a3, a4, a5⟩ := rowsB_parts ha
  obtain ⟨b1, b2, b3, b4, b5⟩ := rowsB_parts hb
  unfold agreeB specB
  apply allN_eq
  constructor
  · intro h i hi
    rw [allN_iff]
    intro k hk
    by_cases hin : 0 ≤ (i : Int) - d ∧ (i : Int) - d < (b.length : Int) ∧ 0 ≤ (k : Int) - r ∧ (k : Int) - r < ((rw_ b 0).size : Int)
    · obtain ⟨i2, hi2⟩ : ∃ i2 : Nat, (i : Int) - d = i2 := ⟨((i : Int) - d).toNat, by omega⟩
      obtain ⟨k2, hk2⟩ : ∃ k2 : Nat, (k : Int) - r = k2 := ⟨((k : Int) - r).toNat, by omega⟩
      have hs2 := b5 i2 (by omega)
      have h2 := allN_iff.1 (h i2 (by omega)) k2 (by omega)
      rw [show d + (i2 : Int) = (i : Int) by omega, show r + (k2 : Int) = (k : Int) by omega, see_in hi (by have := a5 i hi; omega)] at h2
      rw [hi2, hk2, see_in (by omega) (by omega)]
      exact h2
    · have : see b ((i : Int) - d) ((k : Int) - r) = 46 := by
        unfold see
        rw [if_neg]
        rintro ⟨q1, q2, q3, q4⟩
        have := b5 ((i : Int) - d).toNat (by omega)
        exact hin ⟨q1, q2, q3, by omega⟩
      rw [this]; exact okp_pt _
  · intro h i hi
    rw [allN_iff]
    intro j hj
    by_cases hin : 0 ≤ d + (i : Int) ∧ d + (i : Int) < (a.length : Int) ∧ 0 ≤ r + (j : Int) ∧ r + (j : Int) < ((rw_ a 0).size : Int)
    · obtain ⟨i2, hi2⟩ : ∃ i2 : Nat, d + (i : Int) = i2 := ⟨(d + (i : Int)).toNat, by omega⟩
      obtain ⟨k2, hk2⟩ : ∃ k2 : Nat, r + (j : Int) = k2 := ⟨(r + (j : Int)).toNat, by omega⟩
      have hs2 := a5 i2 (by omega)
      have h2 := allN_iff.1 (h i2 (by omega)) k2 (by omega)
      rw [show (i2 : Int) - d = (i : Int) by omega, show (k2 : Int) - r = (j : Int) by omega, see_in hi hj] at h2
      rw [hi2, hk2, see_in (by omega) (by omega)]
      exact h2
    · have : see a (d + (i : Int)) (r + (j : Int)) = 46 := by
        unfold see
        rw [if_neg]
        rintro ⟨q1, q2, q3, q4⟩
        have := a5 (d + (i : Int)).toNat (by omega)
        exact hin ⟨q1, q2, q3, by omega⟩
      rw [this]; exact okp_pt2 _
theorem specD (a b : List ByteArray) (d r : Int) (fuel : Nat) (hf : 1048577 ≤ fuel) (hal : a.length ≤ 1048576) (has : ∀ s ∈ a, s.size ≤ 1048576) (hbl : b.length ≤ 1048576) (hbs : ∀ s ∈ b, s.size ≤ 1048576) :
    GsDoAgree.P fuel a b d r = some (if rowsB a 3 && (rowsB b 3 && (inB d (-2) 2 && inB r (-2) 2)) then (specB a b d r, true) else (false, false)) := by
  simp only [GsDoAgree.P, GsIsBlock.P, spec_eq a 3 fuel hf has, spec_eq b 3 fuel hf hbs, l1In_eq, Option.bind_some, letK, joinK, appK, iteK_if]
  cases h1 : rowsB a 3 with
  | false => simp
  | true =>
    cases h2 : rowsB b 3 with
    | false => simp
    | true =>
      cases h3 : inB d (-2) 2 with
      | false => simp
      | true =>
        cases h4 : inB r (-2) 2 with
        | false => simp
        | true =>
          obtain ⟨a1, a2, a3, a4, a5⟩ := rowsB_parts (m := 3) h1
          obtain ⟨b1, b2, b3, b4, b5⟩ := rowsB_parts (m := 3) h2
          have p3 := inB_pos h3; have p4 := inB_pos h4
          simp only [Bool.not_true, Bool.false_eq_true, if_false, Bool.and_self, if_true]
          obtain ⟨x0, hx0, hix0, hdx0⟩ := at_row (l := a) (k := 0) (by omega)
          obtain ⟨y0, hy0, hiy0, hdy0⟩ := at_row (l := b) (k := 0) (by omega)
          simp only [Int.ofNat_zero] at hix0 hiy0
          have sx0 : (rw_ a 0).size = x0.size := by rw [show rw_ a 0 = x0 from hdx0]
          have sy0 : (rw_ b 0).size = y0.size := by rw [show rw_ b 0 = y0 from hdy0]
          rw [all_lp (n := a.length) (p := fun i => allN (rw_ a 0).size fun k => okp ((ch (rw_ a i) k).toNat : Int) (see b (i - d) (k - r))) (no := (false, true)) _ _ fuel (by omega)]
          · unfold specB
            cases allN a.length _ <;> rfl
          · intro i nx hi
            obtain ⟨x, hx, hix, hdx⟩ := at_row hi
            have hxs := a5 i hi
            simp only [GsDoAgree.l0, letK, appK, iteK_if]
            rw [if_pos (by simp; omega), all_lp (n := (rw_ a 0).size) (p := fun k => okp ((ch (rw_ a i) k).toNat : Int) (see b (i - d) (k - r))) (no := (false, true)) _ _ fuel (by omega)]
            · cases allN (rw_ a 0).size _ <;> simp [GsDoAgree.e1, letK, appK, next_i (show i ≤ 9223372036854775806 by omega)]
            · intro k nx2 hk
              have sx : (rw_ a i).size = x.size := by rw [show rw_ a i = x from hdx]
              have hkx : k < x.size := by omega
              obtain ⟨cx, hcx, hicx, hdcx⟩ := at_list hkx
              simp only [GsDoAgree.l1, hix0, hix, hicx, Option.bind_some, letK, joinK, appK, iteK_if, l1In_eq, hiy0]
              rw [if_pos (decide_eq_true (by omega)), wrap_in (x := (i : Int) - d) (by omega) (by omega), wrap_in (x := (k : Int) - r) (by omega) (by omega), wrap_in (x := (b.length : Int) - 1) (by omega) (by omega), next_i (by omega), wrap_in (x := (y0.size : Int) - 1) (by omega) (by omega),
                show rw_ a i = x from hdx, show ch x k = cx from hdcx]
              by_cases hq1 : 0 ≤ (i : Int) - d ∧ (i : Int) - d < (b.length : Int)
              · have e1 : inB ((i : Int) - d) 0 ((b.length : Int) - 1) = true := by unfold inB; simp; omega
                simp only [e1, Bool.not_true, Bool.false_eq_true, if_false]
                by_cases hq2 : 0 ≤ (k : Int) - r ∧ (k : Int) - r < (y0.size : Int)
                · have e2 : inB ((k : Int) - r) 0 ((y0.size : Int) - 1) = true := by unfold inB; simp; omega
                  simp only [e2, Bool.not_true, Bool.false_eq_true, if_false]
                  obtain ⟨i2, hi2⟩ : ∃ i2 : Nat, (i : Int) - d = i2 := ⟨((i : Int) - d).toNat, by omega⟩
                  obtain ⟨k2, hk2⟩ : ∃ k2 : Nat, (k : Int) - r = k2 := ⟨((k : Int) - r).toNat, by omega⟩
                  obtain ⟨y, hy, hiy, hdy⟩ := at_row (l := b) (k := i2) (by omega)
                  have hys := b5 i2 (by omega)
                  have sy : (rw_ b i2).size = y.size := by rw [show rw_ b i2 = y from hdy]
                  obtain ⟨cy, hcy, hicy, hdcy⟩ := at_list (s := y) (k := k2) (by omega)
                  rw [hi2, hk2, hiy]
                  simp only [Option.bind_some, hicy]
                  rw [see_in (by omega) (by rw [show rw_ b i2 = y from hdy]; omega), show rw_ b i2 = y from hdy, show ch y k2 = cy from hdcy]
                  unfold okp
                  by_cases w1 : (cx.toNat : Int) = 46
                  · simp [w1]
                  · by_cases w2 : (cy.toNat : Int) = 46
                    · simp [w1, w2]
                    · by_cases w3 : (cx.toNat : Int) = (cy.toNat : Int)
                      · simp [w1, w2, w3]
                      · simp [w1, w2, w3]
                · have e2 : inB ((k : Int) - r) 0 ((y0.size : Int) - 1) = false := by unfold inB; simp; omega
                  have e3 : see b ((i : Int) - d) ((k : Int) - r) = 46 := by
                    unfold see
                    rw [if_neg]
                    rintro ⟨q1, q2, q3, q4⟩
                    have := b5 ((i : Int) - d).toNat (by omega)
                    exact hq2 ⟨q3, by omega⟩
                  rw [e3, okp_pt]
                  simp [e2]
              · have e1 : inB ((i : Int) - d) 0 ((b.length : Int) - 1) = false := by unfold inB; simp; omega
                have e3 : see b ((i : Int) - d) ((k : Int) - r) = 46 := by
                  unfold see
                  rw [if_neg]
                  rintro ⟨q1, q2, q3, q4⟩
                  exact hq1 ⟨q1, q2⟩
                rw [e3, okp_pt]
                simp [e1]
            · intro nx2
              simp only [GsDoAgree.l1, hix0, Option.bind_some, letK, appK, iteK_if]
              rw [if_neg (by rw [decide_eq_false (by omega)]; simp)]
          · intro nx
            simp only [GsDoAgree.l0, letK, appK, iteK_if]
            rw [if_neg (by simp)]
theorem implD (a b : List ByteArray) (d r : Int) (hal : a.length ≤ 1048576) (has : ∀ s ∈ a, s.size ≤ 1048576) (hbl : b.length ≤ 1048576) (hbs : ∀ s ∈ b, s.size ≤ 1048576) :
    GiDoAgree.P a b d r = some (if rowsB a 3 && (rowsB b 3 && (inB d (-2) 2 && inB r (-2) 2)) then (specB a b d r, true) else (false, false)) := by
  simp only [GiDoAgree.P, GiIsBlock.P, impl_eq a 3 has, impl_eq b 3 hbs, within_eq, Option.bind_some, letK, joinK, appK, iteK_if]
  cases h1 : rowsB a 3 with
  | false => simp
  | true =>
    cases h2 : rowsB b 3 with
    | false => simp
    | true =>
      cases h3 : inB d (-2) 2 with
      | false => simp
      | true =>
        cases h4 : inB r (-2) 2 with
        | false => simp
        | true =>
          have p3 := inB_pos h3; have p4 := inB_pos h4
          rw [agree_eq a b d r hal has hbl hbs (by omega) (by omega), both h1 h2]
          simp
theorem doAgree (a b : List ByteArray) (d r : Int) (hfa : ∀ s ∈ a, s.size ≤ maxLen) (hla : a.length ≤ 9223372036854775807) (hfb : ∀ s ∈ b, s.size ≤ maxLen) (hlb : b.length ≤ 9223372036854775807) : GlFnExactDoAgree.P 1048577 a b d r = some true := by
  obtain ⟨v, e, h2, h3⟩ := szB a 1048576 (by omega) (by omega) hfa hla
  simp only [GlFnExactDoAgree.P, e, Option.bind_some, letK, joinK, appK, iteK_if]
  by_cases hv : v < 0
  · simp [hv]
  · obtain ⟨h4, h5⟩ := h3 (by omega)
    obtain ⟨v2, e2, h6, h7⟩ := szB b v (by omega) h2 hfb hlb
    simp only [hv, decide_false, Bool.false_eq_true, if_false, e2, Option.bind_some]
    by_cases hv2 : v2 < 0
    · simp [hv2]
    · obtain ⟨h8, h9⟩ := h7 (by omega)
      simp only [hv2, decide_false, Bool.false_eq_true, if_false, toB a h4, toB b h8, unBlock, eqB, Option.bind_some, specD a b d r 1048577 (by omega) h4 h5 h8 h9, implD a b d r h4 h5 h8 h9]
      cases hc : (rowsB a 3 && (rowsB b 3 && (inB d (-2) 2 && inB r (-2) 2))) <;> simp [bind2]
end Go.Proofs.Ytfbdaedoofkcbaa.QAgree
