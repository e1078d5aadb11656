/- The texts on which the proof of FnExactOverlapPairs stands, one behind the other (3 of 3). No condition of their own. -/
import Derived.Test.YtpbbechgpgnpbaaFnExactOverlapPairsP2
import Derived.Test.YtpbbechgpgnpbaaFnExactOverlapPairsP1
/- Chapter 7: hues and shades: the plain functions of the program and of the reference agree, and the laws answer true. (Q7Pairs) No condition but those of each theorem. -/
namespace Go.Proofs.Ytpbbechgpgnpbaa.Q7Pairs
set_option linter.unusedVariables false
set_option linter.unusedSimpArgs false
open Go.RowKit
open Go.Proofs.Ytpbbechgpgnpbaa.GoP Go.Proofs.Ytpbbechgpgnpbaa.PlainStamp Go.Proofs.Ytpbbechgpgnpbaa.QBase Go.Proofs.Ytpbbechgpgnpbaa.QOrd Go.Proofs.Ytpbbechgpgnpbaa.QCount Go.Proofs.Ytpbbechgpgnpbaa.Q7Meet Go.Proofs.Ytpbbechgpgnpbaa.Q7List Go.Proofs.Ytpbbechgpgnpbaa.Q7Shade Go.Proofs.Ytpbbechgpgnpbaa.QLoop Go.Proofs.Ytpbbechgpgnpbaa.PShade

def rowP (l : List Shade) (k : Nat) : List (List ByteArray) := match l[k]? with | none => [] | some x => ((l.drop (k + 1)).filter (fun y => meetB x y)).map fun y => [x.name, y.name]
def allP (l : List Shade) (k : Nat) : List (List ByteArray) := (List.range k).flatMap (rowP l)
theorem allP_succ (l : List Shade) (k : Nat) : allP l (k + 1) = allP l k ++ rowP l k := by simp [allP, List.range_succ]
theorem rowP_len {l : List Shade} (h : l.length ≤ 12) (k : Nat) : (rowP l k).length ≤ 12 := by
  unfold rowP
  split
  · simp
  · rename_i x hx
    rw [List.length_map]
    have := List.length_filter_le (fun y => meetB x y) (l.drop (k + 1))
    rw [List.length_drop] at this
    omega
theorem allP_len {l : List Shade} (h : l.length ≤ 12) : ∀ k, (allP l k).length ≤ 12 * k := by
  intro k
  induction k with
  | zero => simp [allP]
  | succ k ih =>
    have := rowP_len h k
    rw [allP_succ, List.length_append]; omega
theorem allP_two (l : List Shade) (k : Nat) : ∀ row ∈ allP l k, row.length = 2 := by
  intro row hr
  obtain ⟨i, _, hi⟩ := List.mem_flatMap.1 hr
  unfold rowP at hi
  split at hi
  · simp at hi
  · obtain ⟨y, _, rfl⟩ := List.mem_map.1 hi; rfl
def pairRes (l : List Shade) : List (List ByteArray) × Bool := if okShs l = true then (allP l l.length, true) else ([], false)
theorem pairs_impl (l : List Shade) (hl : l.length ≤ 9223372036854775807) : GiOverlapPairs.P l = some (pairRes l) := by
  simp only [GiOverlapPairs.P, areShades_eq l hl, Option.bind_some, letK, iteK_if, pairRes]
  cases hc : okShs l with
  | false => simp
  | true =>
    have h12 := riseL_len hc
    simp only [Bool.not_true, Bool.false_eq_true, if_false, if_true]
    refine cnt_is _ (fun k s => s = allP l k) ?_ ?_ [] rfl
    · intro k s nx hk hI hn
      obtain ⟨x, hx, hi⟩ := at_lt (l := l) (k := k) hk
      have hox := shs_mem hc (List.mem_of_getElem? hx)
      have hal := allP_len h12 k
      simp only [GiOverlapPairs.l0, letK, hi, Option.bind_some, unShade]
      rw [wrap_in (by omega) (by omega), guardK_pos (by omega), show Int.toNat ((k : Int) + 1) = k + 1 by omega]
      rw [gatherA (p := fun y => meetB x y) (g := fun y => [x.name, y.name]) (by rw [hI, List.length_drop]; omega)]
      · simp only [GiOverlapPairs.e1, letK, appK]
        refine hn _ ?_
        rw [hI, allP_succ]
        unfold rowP
        rw [hx]
      · intro k1 nx1 y s1 hy hs
        have hoy := shs_mem hc (List.mem_of_mem_drop (List.mem_of_getElem? hy))
        have hov := overlaps_eq hox hoy
        simp only [GiOverlapPairs.l1, letK, idx_nat, hy, Option.bind_some, unShade, hov, appK, iteK_if]
        rw [guardK_pos hs]; cases meetB x y <;> rfl
    · intro s hI
      simp only [GiOverlapPairs.e0, letK, hI]
theorem pairs_spec (fuel : Nat) (hfu : 100 ≤ fuel) (l : List Shade) (hf : ∀ s ∈ l, s.fits) (hl : l.length ≤ 9223372036854775807) : GsOverlapPairs.P fuel l = some (pairRes l) := by
  simp only [GsOverlapPairs.P, l7Good_eq l hf hl, Option.bind_some, letK, iteK_if, pairRes]
  cases hc : okShs l with
  | false => simp
  | true =>
    have h12 := riseL_len hc
    simp only [Bool.not_true, Bool.false_eq_true, if_false, if_true]
    refine cnt_is _ (fun k s => s = allP l k) ?_ ?_ [] rfl
    · intro k s nx hk hI hn
      obtain ⟨x, hx, hi⟩ := at_lt (l := l) (k := k) hk
      have hox := shs_mem hc (List.mem_of_getElem? hx)
      have hal := allP_len h12 k
      simp only [GsOverlapPairs.l0, letK]
      rw [wrap_in (by omega) (by omega), show (k : Int) + 1 = ((k + 1 : Nat) : Int) by omega]
      rw [gatherL (l := l) (p := fun y => meetB x y) (g := fun y => [x.name, y.name]) ?_ ?_ fuel (k + 1) s (by omega) (by omega) (by rw [hI]; omega)]
      · simp only [GsOverlapPairs.e1, unp2, appK]
        refine hn _ ?_
        rw [hI, allP_succ]
        unfold rowP
        rw [hx]
      · intro k1 nx1 y s1 hy hs
        have hoy := shs_mem hc (List.mem_of_getElem? hy)
        have hov := l7Meet_eq hox hoy
        have hk1 := (List.getElem?_eq_some_iff.1 hy).1
        simp only [GsOverlapPairs.l1, unp2, letK, hi, idx_nat, hy, Option.bind_some, unShade, hov, appK, iteK_if]
        rw [if_pos (by simp; omega), wrap_in (by omega) (by omega), guardK_pos hs]
        cases meetB x y <;> rfl
      · intro s1 nx1
        simp only [GsOverlapPairs.l1, unp2, letK, appK, iteK_if]
        rw [if_neg (by simp)]
    · intro s hI
      simp only [GsOverlapPairs.e0, letK, hI]
end Go.Proofs.Ytpbbechgpgnpbaa.Q7Pairs

/- The laws' helpers on Shade and on slices of it as plain functions: copied, equal, their bulk. No condition. -/
namespace Go.Proofs.Ytpbbechgpgnpbaa.QHShadeE
set_option linter.unusedVariables false
set_option linter.unusedSimpArgs false
open Go.RowKit
open Go.Proofs.Ytpbbechgpgnpbaa.GoP Go.Proofs.Ytpbbechgpgnpbaa.QBase Go.Proofs.Ytpbbechgpgnpbaa.QLoop Go.Proofs.Ytpbbechgpgnpbaa.PShade

theorem toOne (s : Shade) : GlToShade.P s = some s := by cases s; rfl
theorem eqOne (s : Shade) : GlEqShade.P s s = some true := by
  obtain ⟨x0, x1, x2, x3, x4⟩ := s
  simp [GlEqShade.P, unShade, letK, joinK, appK, iteK_if]
theorem toS (l : List Shade) (hl : l.length ≤ 1048576) : GlToShadeS.P l = some l := by
  simp only [GlToShadeS.P, letK]
  rw [guardK_pos (by omega)]
  refine cnt_is l (fun k s => s = l.take k ++ List.replicate (l.length - k) (Shade.mk ByteArray.empty 0 0 0 0)) ?_ ?_ _ (by simp)
  · intro k s nx hk hI hn
    obtain ⟨x, hx, hi⟩ := at_lt (l := l) (k := k) hk
    have hlen : s.length = l.length := by rw [hI]; simp; omega
    obtain ⟨z, hz, hj⟩ := at_lt (l := s) (k := k) (by omega)
    simp only [GlToShadeS.l0, hi, hj, toOne, Option.bind_some, unShade, letK, appK]
    refine hn _ ?_
    rw [hI, take_next hx, List.set_append_right _ _ (by simp; omega)]
    have hr : l.length - k = (l.length - (k + 1)) + 1 := by omega
    rw [hr, List.replicate_succ, List.append_assoc]
    simp [show k - min k l.length = 0 by omega]
  · intro s hI
    rw [hI]; simp [GlToShadeS.e0, letK]
theorem eqS (l : List Shade) : GlEqShadeS.P l l = some true := by
  simp only [GlEqShadeS.P, letK, iteK_if]
  rw [if_neg (by simp)]
  refine cnt_is true (fun _ _ => True) ?_ (fun s _ => rfl) () trivial
  intro k s nx hk _ hn
  obtain ⟨x, hx, hi⟩ := at_lt (l := l) (k := k) hk
  simp only [GlEqShadeS.l0, hi, Option.bind_some, unShade, eqOne, letK, appK, iteK_if]
  exact hn () trivial
theorem fits_max {s : Shade} (h : s.fits) : s.name.size ≤ 9223372036854775807 := by
  obtain ⟨x0, x1, x2, x3, x4⟩ := s
  obtain ⟨hx0, hx1, hx2, hx3, hx4⟩ := h
  unfold maxLen at hx0
  exact hx0
theorem szOne (s : Shade) (left : Int) (h : s.fits) (h0 : 0 ≤ left) (h1 : left ≤ 1048576) : ∃ v, GlSzShade.P s left = some v ∧ v ≤ left := by
  have hm := fits_max h
  simp only [GlSzShade.P, unShade, letK, iteK_if]
  rw [wrap_in (x := left - (s.name.size : Int)) (by omega) (by omega)]
  by_cases hd0 : left - (s.name.size : Int) < 0
  · exact ⟨-1, by rw [if_pos (by simpa using hd0)], by omega⟩
  rw [if_neg (by simpa using hd0)]
  exact ⟨_, rfl, by omega⟩
theorem szS (l : List Shade) (hf : ∀ s ∈ l, s.fits) (hl : l.length ≤ 9223372036854775807) : ∃ v, GlSzShadeS.P l 1048576 = some v ∧ (0 ≤ v → l.length ≤ 1048576) := by
  simp only [GlSzShadeS.P, letK, iteK_if]
  rw [wrap_in (by omega) (by omega)]
  by_cases h : (1048576 : Int) - (l.length : Int) < 0
  · exact ⟨-1, by rw [if_pos (by simp; omega)], by omega⟩
  · rw [if_neg (by simp; omega)]
    refine cnt_ex (n := l.length) (Q := fun v => 0 ≤ v → l.length ≤ 1048576) (fun _ (s : Int) => 0 ≤ s ∧ s ≤ 1048576) ?_ ?_ l.length 0 _ (by omega) ⟨by omega, by omega⟩
    · intro k s nx hk hI hn
      obtain ⟨x, hx, hi⟩ := at_lt (l := l) (k := k) hk
      simp only [GlSzShadeS.l0, hi, Option.bind_some, unShade, letK, appK, iteK_if]
      obtain ⟨v, hv, hv1⟩ := szOne x s (hf x (List.mem_of_getElem? hx)) hI.1 hI.2
      have hv' : GlSzShade.P ⟨x.name, x.hue, x.width, x.dark, x.light⟩ s = some v := hv
      rw [hv']
      simp only [Option.bind_some]
      by_cases hb : v < 0
      · rw [if_pos (by simpa using hb)]; exact ⟨-1, by simp, by omega⟩
      · rw [if_neg (by simpa using hb)]
        exact hn _ ⟨by omega, by omega⟩
    · intro s hI; exact ⟨s, rfl, fun _ => by omega⟩
end Go.Proofs.Ytpbbechgpgnpbaa.QHShadeE

/- The laws' helper that marks a slice of Shade as a plain function. No condition. -/
namespace Go.Proofs.Ytpbbechgpgnpbaa.QHShade
set_option linter.unusedVariables false
set_option linter.unusedSimpArgs false
open Go.RowKit
open Go.Proofs.Ytpbbechgpgnpbaa.GoP Go.Proofs.Ytpbbechgpgnpbaa.QBase Go.Proofs.Ytpbbechgpgnpbaa.QLoop Go.Proofs.Ytpbbechgpgnpbaa.PShade 
theorem set_at {α : Type} {l : List α} {k : Nat} (x : α) (h : k < l.length) : idx (l.set k x) (k : Int) = some x := by rw [idx_nat, List.getElem?_set_self h]
theorem mark_ok (k : Int) (h : 1 ≤ k ∧ k ≤ 1000000000) : ∃ t, GlMarkText.P k = some t := by
  unfold GlMarkText.P; rw [if_pos h]; exact ⟨_, rfl⟩
theorem markS (l : List Shade) (hl : l.length ≤ 1048576) : ∃ v l', GlMarkShadeS.P l 1 = some (v, l') ∧ 0 ≤ v := by
  obtain ⟨⟨v, l'⟩, h, hv⟩ : ∃ r : Int × List Shade, GlMarkShadeS.P l 1 = some r ∧ 0 ≤ r.1 := by
    simp only [GlMarkShadeS.P]
    refine cnt_ex (n := l.length) (Q := fun r : Int × List Shade => 0 ≤ r.1) (fun k (s : List Shade × Int) => s.1.length = l.length ∧ s.2 = 5 * (k : Int) + 1) ?_ ?_ l.length 0 (l, 1) (by omega) ⟨rfl, rfl⟩
    · rintro k ⟨a, b⟩ nx hk ⟨h1, h2⟩ hn
      dsimp only at h1 h2
      obtain ⟨x, hx, hi⟩ := at_lt (l := a) (k := k) (by omega)
      have ha : k < a.length := by omega
      have w1 : IntKind.i64.wrap (b + 1) = b + 1 := wrap_in (by omega) (by omega)
      have w2 : IntKind.i64.wrap (b + 1 + 1) = b + 1 + 1 := wrap_in (by omega) (by omega)
      have w3 : IntKind.i64.wrap (b + 1 + 1 + 1) = b + 1 + 1 + 1 := wrap_in (by omega) (by omega)
      have w4 : IntKind.i64.wrap (b + 1 + 1 + 1 + 1) = b + 1 + 1 + 1 + 1 := wrap_in (by omega) (by omega)
      have w5 : IntKind.i64.wrap (b + 1 + 1 + 1 + 1 + 1) = b + 1 + 1 + 1 + 1 + 1 := wrap_in (by omega) (by omega)
      obtain ⟨t0, m0⟩ := mark_ok (b) (by omega)
      simp (disch := simp [ha]) only [GlMarkShadeS.l0, unp2, hi, set_at, Option.bind_some, unShade, letK, appK, w1, w2, w3, w4, w5, m0]
      exact hn _ ⟨by simpa using h1, by dsimp only; omega⟩
    · rintro ⟨a, b⟩ ⟨h1, h2⟩
      exact ⟨_, rfl, by dsimp only at h2 ⊢; omega⟩
  exact ⟨v, l', h, hv⟩
end Go.Proofs.Ytpbbechgpgnpbaa.QHShade

/- The laws' helpers on rows of texts, and on rows of those, as plain functions: equal, marked, held. (QHT) No condition but those of each theorem. -/
namespace Go.Proofs.Ytpbbechgpgnpbaa.QHT
set_option linter.unusedVariables false
set_option linter.unusedSimpArgs false
open Go.RowKit
open Go.Proofs.Ytpbbechgpgnpbaa.GoP Go.Proofs.Ytpbbechgpgnpbaa.PlainStamp Go.Proofs.Ytpbbechgpgnpbaa.QBase Go.Proofs.Ytpbbechgpgnpbaa.QLoop

theorem eqT (l : List ByteArray) : GlEqStringS.P l l = some true := by
  simp only [GlEqStringS.P, letK, iteK_if]
  rw [if_neg (by simp)]
  refine cnt_is true (fun _ _ => True) ?_ (fun s _ => rfl) () trivial
  intro k s nx hk _ hn
  obtain ⟨x, hx, hi⟩ := at_lt (l := l) (k := k) hk
  simp only [GlEqStringS.l0, hi, Option.bind_some, letK, appK, iteK_if]
  rw [if_neg (by simp)]
  exact hn () trivial
/-- the marks from c on -/
def mtL (c : Int) (n : Nat) : List ByteArray := (List.range n).map fun i : Nat => Go.Proofs.Ytpbbechgpgnpbaa.MarkStr.mt (c + (i : Int)).toNat
theorem mtL_at {c : Int} {n k : Nat} (h : k < n) : (mtL c n)[k]? = some (Go.Proofs.Ytpbbechgpgnpbaa.MarkStr.mt (c + (k : Int)).toNat) := by unfold mtL; simp [h]
theorem mtL_len (c : Int) (n : Nat) : (mtL c n).length = n := by simp [mtL]
theorem mark_is {k : Int} (h : 1 ≤ k ∧ k ≤ 1000000000) : GlMarkText.P k = some (Go.Proofs.Ytpbbechgpgnpbaa.MarkStr.mt k.toNat) := by unfold GlMarkText.P; rw [if_pos h]
theorem markT (l : List ByteArray) (c : Int) (h0 : 1 ≤ c) (h1 : c + l.length ≤ 1000000000) : GlMarkStringS.P l c = some (c + (l.length : Int), mtL c l.length) := by
  simp only [GlMarkStringS.P]
  refine cnt_is _ (fun k (s : List ByteArray × Int) => s.1.length = l.length ∧ s.2 = c + (k : Int) ∧ ∀ i : Nat, i < k → s.1[i]? = some (Go.Proofs.Ytpbbechgpgnpbaa.MarkStr.mt (c + (i : Int)).toNat)) ?_ ?_ (l, c) ⟨rfl, by simp, fun i hi => by omega⟩
  · rintro k ⟨a, b⟩ nx hk ⟨h1, h2, h3⟩ hn
    dsimp only at h1 h2 h3
    obtain ⟨x, hx, hi⟩ := at_lt (l := a) (k := k) (by omega)
    simp only [GlMarkStringS.l0, unp2]
    rw [mark_is (by omega)]
    simp only [hi, Option.bind_some, letK, appK]
    rw [wrap_in (by omega) (by omega)]
    refine hn _ ⟨by simpa using h1, by dsimp only; omega, fun i hi2 => ?_⟩
    dsimp only
    by_cases he : i = k
    · subst he; rw [List.getElem?_set_self (by omega), h2]
    · rw [List.getElem?_set_ne (by omega)]; exact h3 i (by omega)
  · rintro ⟨a, b⟩ ⟨h1, h2, h3⟩
    dsimp only at h1 h2 h3
    have : a = mtL c l.length := by
      apply List.ext_getElem?
      intro i
      by_cases hi : i < l.length
      · rw [h3 i hi, mtL_at hi]
      · rw [List.getElem?_eq_none (by omega), List.getElem?_eq_none (by rw [mtL_len]; omega)]
    simp only [GlMarkStringS.e0, unp2]
    rw [this, h2]
theorem heldT (c : Int) (n : Nat) (h0 : 1 ≤ c) (h1 : c + n ≤ 1000000000) : GlHeldStringS.P (mtL c n) c = some (c + (n : Int)) := by
  simp only [GlHeldStringS.P]
  refine cnt_is _ (fun k s => s = c + (k : Int)) ?_ ?_ c (by simp)
  · intro k s nx hk hI hn
    rw [mtL_len] at hk
    have hi : idx (mtL c n) (k : Int) = some (Go.Proofs.Ytpbbechgpgnpbaa.MarkStr.mt (c + (k : Int)).toNat) := by rw [idx_nat, mtL_at hk]
    simp only [GlHeldStringS.l0, hi, Option.bind_some, letK, appK, iteK_if]
    rw [mark_is (by omega)]
    simp only [Option.bind_some]
    rw [if_neg (by simp [hI]), wrap_in (by omega) (by omega)]
    exact hn _ (by omega)
  · intro s hI
    simp only [GlHeldStringS.e0, letK]
    rw [hI, mtL_len]
end Go.Proofs.Ytpbbechgpgnpbaa.QHT

/- The laws' helpers on rows of texts, and on rows of those, as plain functions: equal, marked, held. (QHTT) No condition but those of each theorem. -/
namespace Go.Proofs.Ytpbbechgpgnpbaa.QHTT
set_option linter.unusedVariables false
set_option linter.unusedSimpArgs false
open Go.RowKit
open Go.Proofs.Ytpbbechgpgnpbaa.GoP Go.Proofs.Ytpbbechgpgnpbaa.PlainStamp Go.Proofs.Ytpbbechgpgnpbaa.QBase Go.Proofs.Ytpbbechgpgnpbaa.QHT Go.Proofs.Ytpbbechgpgnpbaa.QLoop

theorem eqTT (l : List (List ByteArray)) : GlEqStringSS.P l l = some true := by
  simp only [GlEqStringSS.P, letK, iteK_if]
  rw [if_neg (by simp)]
  refine cnt_is true (fun _ _ => True) ?_ (fun s _ => rfl) () trivial
  rintro k ⟨⟩ nx hk _ hn
  obtain ⟨x, hx, hi⟩ := at_lt (l := l) (k := k) hk
  simp only [GlEqStringSS.l0, hi, Option.bind_some, eqT, letK, appK, iteK_if]
  rw [if_neg (by simp)]
  exact hn () trivial
def stT (g : List (List ByteArray)) (i : Nat) : Nat := 1 + ((g.take i).map List.length).sum
theorem stT_succ {g : List (List ByteArray)} {k : Nat} {row : List ByteArray} (h : g[k]? = some row) : stT g (k + 1) = stT g k + row.length := by
  unfold stT
  rw [take_next h, List.map_append, List.sum_append]
  simp; omega
theorem stT_le {g : List (List ByteArray)} {m : Nat} (h : ∀ row ∈ g, row.length ≤ m) : ∀ i, i ≤ g.length → stT g i ≤ 1 + m * i := by
  intro i
  induction i with
  | zero => intro _; simp [stT]
  | succ i ih =>
    intro hi
    obtain ⟨row, hr, _⟩ := at_lt (l := g) (k := i) (by omega)
    have h1 := h row (List.mem_of_getElem? hr)
    have h2 := ih (by omega)
    rw [stT_succ hr, Nat.mul_succ]
    omega
theorem stT_pos (g : List (List ByteArray)) (i : Nat) : 1 ≤ stT g i := by unfold stT; omega
theorem markTT (g : List (List ByteArray)) (hb : ∀ row ∈ g, row.length ≤ 1000) (hl : g.length ≤ 1000) : ∃ M, GlMarkStringSS.P g 1 = some ((stT g g.length : Int), M) ∧ GlHeldStringSS.P M 1 = some (stT g g.length : Int) := by
  have hst : ∀ i, i ≤ g.length → stT g i ≤ 1000001 := by
    intro i hi
    have := stT_le hb i hi
    have h2 : 1000 * i ≤ 1000 * 1000 := Nat.mul_le_mul_left 1000 (by omega)
    omega
  obtain ⟨⟨v, M⟩, h, hv, hM, hrow⟩ : ∃ r : Int × List (List ByteArray), GlMarkStringSS.P g 1 = some r ∧ r.1 = (stT g g.length : Int) ∧ r.2.length = g.length ∧ ∀ (i : Nat) (row : List ByteArray), g[i]? = some row → r.2[i]? = some (mtL (stT g i : Int) row.length) := by
    simp only [GlMarkStringSS.P]
    refine cnt_ex (n := g.length) (Q := fun r : Int × List (List ByteArray) => r.1 = (stT g g.length : Int) ∧ r.2.length = g.length ∧ ∀ (i : Nat) (row : List ByteArray), g[i]? = some row → r.2[i]? = some (mtL (stT g i : Int) row.length)) (fun k (s : List (List ByteArray) × Int) => s.1.length = g.length ∧ s.2 = (stT g k : Int) ∧ (∀ (i : Nat) (row : List ByteArray), i < k → g[i]? = some row → s.1[i]? = some (mtL (stT g i : Int) row.length)) ∧ ∀ i : Nat, k ≤ i → s.1[i]? = g[i]?) ?_ ?_ g.length 0 (g, 1) (by omega) ⟨rfl, by simp [stT], fun i _ hi => by omega, fun i hi => rfl⟩
    · rintro k ⟨a, b⟩ nx hk ⟨h1, h2, h3, h4⟩ hn
      dsimp only at h1 h2 h3 h4
      obtain ⟨row, hr, _⟩ := at_lt (l := g) (k := k) hk
      have ha := h4 k (Nat.le_refl _)
      rw [hr] at ha
      have hai : idx a (k : Int) = some row := by rw [idx_nat, ha]
      have hs := hst (k + 1) (by omega)
      have hp := stT_pos g k
      rw [stT_succ hr] at hs
      simp only [GlMarkStringSS.l0, unp2, hai, Option.bind_some, h2]
      rw [markT row (stT g k : Int) (by omega) (by omega)]
      simp only [bind2_some, letK, appK]
      refine hn _ ⟨by dsimp only; rw [List.length_set]; exact h1, by dsimp only; rw [stT_succ hr]; omega, fun i row' hi hr' => ?_, fun i hi => ?_⟩
      · dsimp only
        by_cases he : i = k
        · subst he
          obtain rfl := Option.some.inj (hr.symm.trans hr')
          rw [List.getElem?_set_self (by omega)]
        · rw [List.getElem?_set_ne (by omega)]
          exact h3 i row' (by omega) hr'
      · dsimp only
        rw [List.getElem?_set_ne (by omega)]
        exact h4 i (by omega)
    · rintro ⟨a, b⟩ ⟨h1, h2, h3, h4⟩
      dsimp only at h1 h2 h3 h4
      exact ⟨_, rfl, h2, h1, fun i row hr => h3 i row (List.getElem?_eq_some_iff.1 hr).1 hr⟩
  dsimp only at hv hM hrow
  refine ⟨M, by rw [h, hv], ?_⟩
  simp only [GlHeldStringSS.P]
  refine cnt_is _ (fun k s => s = (stT g k : Int)) ?_ ?_ 1 (by simp [stT])
  · intro k s nx hk hI hn
    obtain ⟨row, hr, _⟩ := at_lt (l := g) (k := k) (by omega)
    have hMi : idx M (k : Int) = some (mtL (stT g k : Int) row.length) := by rw [idx_nat, hrow k row hr]
    have hs := hst (k + 1) (by omega)
    have hp := stT_pos g k
    rw [stT_succ hr] at hs
    simp only [GlHeldStringSS.l0, letK, hMi, Option.bind_some, hI]
    rw [heldT (stT g k : Int) row.length (by omega) (by omega)]
    simp only [Option.bind_some, appK, iteK_if]
    rw [if_neg (by simp; omega)]
    exact hn _ (by rw [stT_succ hr]; omega)
  · intro s hI
    simp only [GlHeldStringSS.e0, letK]
    rw [hI, hM]
end Go.Proofs.Ytpbbechgpgnpbaa.QHTT

/- Chapter 7: hues and shades: the plain functions of the program and of the reference agree, and the laws answer true. (QL7Pairs) No condition but those of each theorem. -/
namespace Go.Proofs.Ytpbbechgpgnpbaa.QL7Pairs
set_option linter.unusedVariables false
set_option linter.unusedSimpArgs false
open Go.RowKit
open Go.Proofs.Ytpbbechgpgnpbaa.GoP Go.Proofs.Ytpbbechgpgnpbaa.PlainStamp Go.Proofs.Ytpbbechgpgnpbaa.QBase Go.Proofs.Ytpbbechgpgnpbaa.QOrd Go.Proofs.Ytpbbechgpgnpbaa.Q7Pairs Go.Proofs.Ytpbbechgpgnpbaa.Q7List Go.Proofs.Ytpbbechgpgnpbaa.QLoop Go.Proofs.Ytpbbechgpgnpbaa.PShade Go.Proofs.Ytpbbechgpgnpbaa.QHShadeE Go.Proofs.Ytpbbechgpgnpbaa.QHShade Go.Proofs.Ytpbbechgpgnpbaa.QHTT

theorem law_pairs (fuel : Nat) (hfu : 100 ≤ fuel) (l : List Shade) (hf : ∀ s ∈ l, s.fits) (hl : l.length ≤ 9223372036854775807) : GlFnExactOverlapPairs.P fuel l = some true := by
  obtain ⟨v, hv, hn⟩ := szS l hf hl
  simp only [GlFnExactOverlapPairs.P, hv, Option.bind_some, letK, iteK_if]
  by_cases hb : v < 0
  · rw [if_pos (by simp; omega)]
  · rw [if_neg (by simp; omega)]
    have hle := hn (by omega)
    obtain ⟨⟨a, b⟩, hr, h1, h2⟩ : ∃ x, x = pairRes l ∧ x.1.length ≤ 144 ∧ ∀ row ∈ x.1, row.length ≤ 1000 := by
      refine ⟨_, rfl, ?_⟩
      unfold pairRes
      split
      · rename_i hc
        have h12 := riseL_len hc
        have := allP_len h12 l.length
        exact ⟨by dsimp only; omega, fun row hr => by rw [allP_two l l.length row hr]; omega⟩
      · exact ⟨by simp, by simp⟩
    dsimp only at h1 h2
    obtain ⟨v2, l2, hm, hv2⟩ := markS l hle
    have hv3 : ¬ v2 < 0 := by omega
    obtain ⟨M, hM, hH⟩ := markTT a h2 (by omega)
    have hv4 : ¬ (stT a a.length : Int) < 0 := by omega
    simp [toS l hle, pairs_spec fuel hfu l hf hl, pairs_impl l hl, ← hr, bind2, joinK, appK, iteK_if, eqS, eqTT, hm, hv3, hM, hH, hv4]
end Go.Proofs.Ytpbbechgpgnpbaa.QL7Pairs

