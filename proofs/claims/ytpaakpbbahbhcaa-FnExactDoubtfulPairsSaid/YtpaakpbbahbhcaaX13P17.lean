/- Texts on which the proofs of several laws stand, one behind the other (17 of 20). No condition of their own. -/
import Derived.Test.YtpaakpbbahbhcaaX13P9
import Derived.Test.YtpaakpbbahbhcaaX13P5
import Derived.Test.YtpaakpbbahbhcaaX13P8
import Derived.Test.YtpaakpbbahbhcaaX13P3
import Derived.Test.YtpaakpbbahbhcaaX13P1
import Derived.Test.YtpaakpbbahbhcaaX13P16
import Derived.Test.YtpaakpbbahbhcaaX13P4
/- Chapter 13: censuses: the plain functions of the program and of the reference agree, and the laws answer true. (Q13Doubt) No condition but those of each theorem. -/
namespace Go.Proofs.Ytpaakpbbahbhcaa.Q13Doubt
set_option linter.unusedVariables false
set_option linter.unusedSimpArgs false
open Go.RowKit
open Go.Proofs.Ytpaakpbbahbhcaa.GoP Go.Proofs.Ytpaakpbbahbhcaa.PlainStamp Go.Proofs.Ytpaakpbbahbhcaa.QBase Go.Proofs.Ytpaakpbbahbhcaa.Q13Tools Go.Proofs.Ytpaakpbbahbhcaa.Q13Cover Go.Proofs.Ytpaakpbbahbhcaa.Q13Has Go.Proofs.Ytpaakpbbahbhcaa.Q13Bonds Go.Proofs.Ytpaakpbbahbhcaa.Q13Ev Go.Proofs.Ytpaakpbbahbhcaa.Q13List Go.Proofs.Ytpaakpbbahbhcaa.Q13One Go.Proofs.Ytpaakpbbahbhcaa.QUp Go.Proofs.Ytpaakpbbahbhcaa.QLoop Go.Proofs.Ytpaakpbbahbhcaa.PSighting

def isD (l : List Sighting) (L : Int) (i j : Nat) : Bool := decide (i < j) && (decide (L ≤ tabF l i j) && decide (eAt l i j < L))
def prD (l : List Sighting) (i j : Nat) : List Int := [(sAt l i).id, (sAt l j).id]
def rowD (l : List Sighting) (L : Int) (i m : Nat) : List (List Int) := ((List.range m).filter (isD l L i)).map (prD l i)
def allD (l : List Sighting) (L : Int) (k : Nat) : List (List Int) := (List.range k).flatMap fun i => rowD l L i l.length
theorem rowD_next (l : List Sighting) (L : Int) (i m : Nat) : rowD l L i (m + 1) = rowD l L i m ++ (if isD l L i m = true then [prD l i m] else []) := by
  unfold rowD
  rw [List.range_succ, List.filter_append, List.map_append]
  cases hb : isD l L i m <;> simp [hb]
theorem rowD_low (l : List Sighting) (L : Int) (i : Nat) : rowD l L i (i + 1) = [] := by
  unfold rowD
  rw [List.filter_eq_nil_iff.2, List.map_nil]
  intro j hj
  have := List.mem_range.1 hj
  unfold isD
  simp; omega
theorem rowD_len (l : List Sighting) (L : Int) (i m : Nat) : (rowD l L i m).length ≤ m := by
  unfold rowD
  rw [List.length_map]
  have := List.length_filter_le (isD l L i) (List.range m)
  simpa using this
theorem allD_next (l : List Sighting) (L : Int) (k : Nat) : allD l L (k + 1) = allD l L k ++ rowD l L k l.length := by unfold allD; rw [List.range_succ, List.flatMap_append]; simp
theorem allD_len (l : List Sighting) (L : Int) : ∀ k, (allD l L k).length ≤ k * l.length := by
  intro k
  induction k with
  | zero => simp [allD]
  | succ k ih =>
    have := rowD_len l L k l.length
    rw [allD_next, List.length_append, Nat.add_mul]; omega
def doubtRes (l : List Sighting) (L : Int) : List (List Int) × Bool := if (okSis l && inB L (-30) 16) = true then (allD l L l.length, true) else ([], false)
theorem doubt_impl (l : List Sighting) (L : Int) (fuel : Nat) (hfu : 2000 ≤ fuel) : GiDoubtfulPairs.P fuel l L = some (doubtRes l L) := by
  simp only [GiDoubtfulPairs.P, canJoin_eq, Option.bind_some, letK, iteK_if]
  unfold doubtRes
  cases hok : (okSis l && inB L (-30) 16) with
  | false => simp
  | true =>
    rw [if_neg (by simp), if_pos rfl]
    simp only [Bool.and_eq_true] at hok
    obtain ⟨hk, hL⟩ := hok
    have hn := okSis_len hk
    have htr : ∀ {i : Nat}, i < l.length → (sAt l i).traits.length ≤ 1000 := fun hi => by have := (okSi_of (okSis_at hk (List.mem_of_getElem? (sAt_at hi)))).2.2.2.1; omega
    obtain ⟨T, hT1, hT⟩ := bonds_eq l hk
    simp only [hT1, Option.bind_some]
    rw [guardK_pos hT.1]
    refine cnt_is _ (fun k (s : List (List Int)) => s = allD l L k) ?_ ?_ _ rfl
    · intro k s nx hkl hI hn'
      have hxi : idx l (k : Int) = some (sAt l k) := by rw [idx_nat]; exact sAt_at hkl
      have w0 := wrap_in (x := (k : Int) + 1) (by omega) (by omega)
      have hal := allD_len l L k
      have hal2 : k * l.length ≤ 10 * 10 := Nat.mul_le_mul (by omega) hn
      simp only [GiDoubtfulPairs.l0, hxi, Option.bind_some, unSighting, letK, w0]
      refine lp_is (n := l.length - (k + 1)) _ (fun q (s : List (List Int) × Int) => s.2 = ((k + 1 + q : Nat) : Int) ∧ s.1 = allD l L k ++ rowD l L k (k + 1 + q)) ?_ ?_ fuel 0 _ (by omega) (by omega) ⟨by show ((k : Int) + 1) = _; omega, by rw [hI]; show allD l L k = _; rw [Nat.add_zero, rowD_low, List.append_nil]⟩
      · rintro q ⟨a, b⟩ nx' hq ⟨h1, h2⟩ hn''
        dsimp only at h1 h2
        subst h1
        have hjl : k + 1 + q < l.length := by omega
        have hyi : idx l ((k + 1 + q : Nat) : Int) = some (sAt l (k + 1 + q)) := by rw [idx_nat]; exact sAt_at hjl
        have w1 := wrap_in (x := ((k + 1 + q : Nat) : Int) + 1) (by omega) (by omega)
        have hal3 := rowD_len l L k (k + 1 + q)
        have hlen : a.length ≤ 200 := by rw [h2, List.length_append]; omega
        have hnx := rowD_next l L k (k + 1 + q)
        have hd : isD l L k (k + 1 + q) = (decide (L ≤ tabF l k (k + 1 + q)) && decide (eAt l k (k + 1 + q) < L)) := by unfold isD; rw [decide_eq_true (by omega : k < k + 1 + q)]; simp
        simp only [GiDoubtfulPairs.l1, unp2, letK, joinK, appK, iteK_if]
        rw [if_pos (by simp; omega), guardK_pos (by omega), guardK_pos (by omega), Int.toNat_natCast, hT.2 k _ hkl hjl]
        simp only [hyi, Option.bind_some, unSighting, evidence_eq (sAt l k) (sAt l (k + 1 + q)) (htr hkl) (htr hjl), ← eAt_eq (sAt_at hkl) (sAt_at hjl), w1]
        have fin : ∀ b : Bool, isD l L k (k + 1 + q) = b → nx' (if b = true then (a ++ [prD l k (k + 1 + q)]) else a, ((k + 1 + q : Nat) : Int) + 1) = some (allD l L l.length, true) := by
          intro b hb
          refine hn'' _ ⟨by dsimp only; omega, ?_⟩
          rw [hb] at hnx
          dsimp only
          rw [show k + 1 + (q + 1) = k + 1 + q + 1 by omega, hnx, ← List.append_assoc, ← h2]
          cases b <;> simp
        cases hc1 : decide (L ≤ tabF l k (k + 1 + q)) with
        | false =>
          rw [hc1, Bool.false_and] at hd
          have := fin false hd
          simpa using this
        | true =>
          rw [hc1, Bool.true_and] at hd
          rw [if_pos rfl]
          cases hc2 : decide (eAt l k (k + 1 + q) < L) with
          | false => rw [hc2] at hd; have := fin false hd; simpa using this
          | true =>
            rw [hc2] at hd; have := fin true hd
            rw [if_pos rfl, guardK_pos (by omega)]
            simpa [prD] using this
      · rintro ⟨a, b⟩ nx' ⟨h1, h2⟩
        dsimp only at h1 h2
        subst h1
        simp only [GiDoubtfulPairs.l1, unp2, letK, iteK_if, appK, GiDoubtfulPairs.e1]
        rw [if_neg (by simp; omega)]
        refine hn' _ ?_
        rw [h2, allD_next, show k + 1 + (l.length - (k + 1)) = l.length by omega]
    · intro s hI
      simp only [GiDoubtfulPairs.e0, letK]
      rw [hI]
theorem doubt_spec (l : List Sighting) (L : Int) (hf : ∀ s ∈ l, sz13 s) (hl : l.length ≤ 9223372036854775807) (fuel : Nat) (hfu : 2000 ≤ fuel) : GsDoubtfulPairs.P fuel l L = some (doubtRes l L) := by
  simp only [GsDoubtfulPairs.P, l13Good_eq l hf hl, l13Limit_eq, Option.bind_some, letK, joinK, appK, iteK_if]
  unfold doubtRes
  cases hk : okSis l with
  | false => simp
  | true =>
    cases hL0 : inB L (-30) 16 with
    | false => simp
    | true =>
      have hL := inB_of hL0
      have hn := okSis_len hk
      have htr : ∀ {i : Nat}, i < l.length → (sAt l i).traits.length ≤ 1000 := fun hi => by have := (okSi_of (okSis_at hk (List.mem_of_getElem? (sAt_at hi)))).2.2.2.1; omega
      simp only [Bool.not_true, Bool.false_eq_true, if_false, Bool.and_self, if_true]
      refine cnt_is _ (fun k (s : List (List Int)) => s = allD l L k) ?_ ?_ _ rfl
      · intro k s nx hkl hI hn'
        have hxi : idx l (k : Int) = some (sAt l k) := by rw [idx_nat]; exact sAt_at hkl
        have w0 := wrap_in (x := (k : Int) + 1) (by omega) (by omega)
        have hal := allD_len l L k
        have hal2 : k * l.length ≤ 10 * 10 := Nat.mul_le_mul (by omega) hn
        simp only [GsDoubtfulPairs.l0, cover_eq hk (by omega : L ≤ 16) hkl fuel hfu, Option.bind_some, letK, w0]
        refine lp_is (n := l.length - (k + 1)) _ (fun q (s : List (List Int) × Int) => s.2 = ((k + 1 + q : Nat) : Int) ∧ s.1 = allD l L k ++ rowD l L k (k + 1 + q)) ?_ ?_ fuel 0 _ (by omega) (by omega) ⟨by show ((k : Int) + 1) = _; omega, by rw [hI]; show allD l L k = _; rw [Nat.add_zero, rowD_low, List.append_nil]⟩
        · rintro q ⟨a, b⟩ nx' hq ⟨h1, h2⟩ hn''
          dsimp only at h1 h2
          subst h1
          have hjl : k + 1 + q < l.length := by omega
          have hyi : idx l ((k + 1 + q : Nat) : Int) = some (sAt l (k + 1 + q)) := by rw [idx_nat]; exact sAt_at hjl
          have w1 := wrap_in (x := ((k + 1 + q : Nat) : Int) + 1) (by omega) (by omega)
          have hal3 := rowD_len l L k (k + 1 + q)
          have hlen : a.length ≤ 200 := by rw [h2, List.length_append]; omega
          have hnx := rowD_next l L k (k + 1 + q)
          have hd : isD l L k (k + 1 + q) = (decide (L ≤ tabF l k (k + 1 + q)) && decide (eAt l k (k + 1 + q) < L)) := by unfold isD; rw [decide_eq_true (by omega : k < k + 1 + q)]; simp
          have hin : decide (((k + 1 + q : Nat) : Int) ∈ cov l L k) = decide (L ≤ tabF l k (k + 1 + q)) := by
            rw [decide_eq_decide, cov_mem]
            constructor
            · rintro ⟨j', e, _, h⟩
              obtain rfl : k + 1 + q = j' := by omega
              exact h
            · intro h; exact ⟨_, rfl, hjl, h⟩
          simp only [GsDoubtfulPairs.l1, unp2, letK, joinK, appK, iteK_if, has_eq, hin, Option.bind_some, hxi, hyi, unSighting, l13Evidence_eq (sAt l k) (sAt l (k + 1 + q)) (htr hkl) (htr hjl) fuel hfu, ← eAt_eq (sAt_at hkl) (sAt_at hjl), w1]
          rw [if_pos (by simp; omega)]
          have fin : ∀ b : Bool, isD l L k (k + 1 + q) = b → nx' (if b = true then (a ++ [prD l k (k + 1 + q)]) else a, ((k + 1 + q : Nat) : Int) + 1) = some (allD l L l.length, true) := by
            intro b hb
            refine hn'' _ ⟨by dsimp only; omega, ?_⟩
            rw [hb] at hnx
            dsimp only
            rw [show k + 1 + (q + 1) = k + 1 + q + 1 by omega, hnx, ← List.append_assoc, ← h2]
            cases b <;> simp
          cases hc1 : decide (L ≤ tabF l k (k + 1 + q)) with
          | false =>
            rw [hc1, Bool.false_and] at hd
            have := fin false hd
            simpa using this
          | true =>
            rw [hc1, Bool.true_and] at hd
            rw [if_pos rfl]
            cases hc2 : decide (eAt l k (k + 1 + q) < L) with
            | false => rw [hc2] at hd; have := fin false hd; simpa using this
            | true =>
              rw [hc2] at hd; have := fin true hd
              rw [if_pos rfl, guardK_pos (by omega)]
              simpa [prD] using this
        · rintro ⟨a, b⟩ nx' ⟨h1, h2⟩
          dsimp only at h1 h2
          subst h1
          simp only [GsDoubtfulPairs.l1, unp2, letK, iteK_if, appK, GsDoubtfulPairs.e1]
          rw [if_neg (by simp; omega)]
          refine hn' _ ?_
          rw [h2, allD_next, show k + 1 + (l.length - (k + 1)) = l.length by omega]
      · intro s hI
        simp only [GsDoubtfulPairs.e0, letK]
        rw [hI]
theorem doubtRes_small (l : List Sighting) (L : Int) : (∀ row ∈ (doubtRes l L).1, row.length ≤ 1000) ∧ (doubtRes l L).1.length ≤ 1000 := by
  unfold doubtRes
  cases hok : (okSis l && inB L (-30) 16) with
  | false => simp
  | true =>
    simp only [Bool.and_eq_true] at hok
    have hn := okSis_len hok.1
    have h1 := allD_len l L l.length
    have h2 : l.length * l.length ≤ 10 * 10 := Nat.mul_le_mul hn hn
    refine ⟨fun row hr => ?_, by simp only [if_true]; omega⟩
    simp only [if_true] at hr
    unfold allD at hr
    obtain ⟨i, _, hr⟩ := List.mem_flatMap.1 hr
    unfold rowD at hr
    obtain ⟨j, _, rfl⟩ := List.mem_map.1 hr
    simp [prD]
end Go.Proofs.Ytpaakpbbahbhcaa.Q13Doubt

/- Chapter 13: censuses: the plain functions of the program and of the reference agree, and the laws answer true. (QL13Doubt) No condition but those of each theorem. -/
namespace Go.Proofs.Ytpaakpbbahbhcaa.QL13Doubt
set_option linter.unusedVariables false
set_option linter.unusedSimpArgs false
open Go.RowKit
open Go.Proofs.Ytpaakpbbahbhcaa.GoP Go.Proofs.Ytpaakpbbahbhcaa.PlainStamp Go.Proofs.Ytpaakpbbahbhcaa.QBase Go.Proofs.Ytpaakpbbahbhcaa.Q13Doubt Go.Proofs.Ytpaakpbbahbhcaa.Q13One Go.Proofs.Ytpaakpbbahbhcaa.QF13 Go.Proofs.Ytpaakpbbahbhcaa.QLoop Go.Proofs.Ytpaakpbbahbhcaa.PSighting Go.Proofs.Ytpaakpbbahbhcaa.QHSS Go.Proofs.Ytpaakpbbahbhcaa.QHVSightingE Go.Proofs.Ytpaakpbbahbhcaa.QHVSighting

theorem law_doubtfulPairs (fuel : Nat) (hfu : 2000 ≤ fuel) (l : List Sighting) (L : Int) (hF : ∀ s ∈ l, Go.Proofs.Ytpaakpbbahbhcaa.OVSighting.Fits s) (hl : l.length ≤ 9223372036854775807) : GlFnExactDoubtfulPairs.P fuel l L = some true := by
  have hf : ∀ s ∈ l, sz13 s := fun s hs => fits_sz (hF s hs)
  obtain ⟨v, hv, hn⟩ := szS l hf hl
  simp only [GlFnExactDoubtfulPairs.P, hv, Option.bind_some, letK, iteK_if]
  by_cases hb : v < 0
  · rw [if_pos (by simpa using hb)]
  · rw [if_neg (by simpa using hb)]
    have hsm := hn (by omega)
    have hs := doubtRes_small l L
    obtain ⟨⟨p, q⟩, hr⟩ : ∃ x, x = doubtRes l L := ⟨_, rfl⟩
    rw [← hr] at hs
    obtain ⟨M, hM, hH⟩ := markSS p hs.1 hs.2
    obtain ⟨v', l', hm, hv2⟩ := markS l hsm
    have hv3 : ¬ v' < 0 := by omega
    have e1 : ¬ ((Go.Proofs.Ytpaakpbbahbhcaa.QHSS.st p p.length : Int) < 0) := by omega
    simp [toS l hsm, doubt_spec l L hf hl fuel hfu, doubt_impl l L fuel hfu, ← hr, eqSS, eqS, hm, hv3, hM, hH, e1, bind2, joinK, appK, iteK_if]
end Go.Proofs.Ytpaakpbbahbhcaa.QL13Doubt

