/- Chapter 5: combs, holes, gauges: the plain functions of the program and of the reference agree, and the laws answer true. (Q5Even) No condition but those of each theorem. -/
import Derived.Test.YtgfepdfamhnppaaQ5Distances
import Derived.Test.YtgfepdfamhnppaaQ5Dist
import Derived.Test.YtgfepdfamhnppaaQ5Holes
import Derived.Test.YtgfepdfamhnppaaQ5Most
import Derived.Test.YtgfepdfamhnppaaQUp
import Derived.Test.YtgfepdfamhnppaaQLoop
import Derived.Test.YtgfepdfamhnppaaQAll
import Derived.Test.YtgfepdfamhnppaaQToI
import Derived.Test.YtgfepdfamhnppaaQInt
import Derived.Test.YtgfepdfamhnppaaGlFnExactAreEven
namespace Go.Proofs.Ytgfepdfamhnppaa.Q5Even
set_option linter.unusedVariables false
set_option linter.unusedSimpArgs false
open Go.RowKit
open Go.Proofs.Ytgfepdfamhnppaa.GoP Go.Proofs.Ytgfepdfamhnppaa.PlainStamp Go.Proofs.Ytgfepdfamhnppaa.QBase Go.Proofs.Ytgfepdfamhnppaa.Q5Distances Go.Proofs.Ytgfepdfamhnppaa.Q5Dist Go.Proofs.Ytgfepdfamhnppaa.Q5Holes Go.Proofs.Ytgfepdfamhnppaa.Q5Most Go.Proofs.Ytgfepdfamhnppaa.QUp Go.Proofs.Ytgfepdfamhnppaa.QLoop Go.Proofs.Ytgfepdfamhnppaa.QAll Go.Proofs.Ytgfepdfamhnppaa.QToI Go.Proofs.Ytgfepdfamhnppaa.QInt

theorem fold_in {l : List Int} {a lo hi : Int} (ha : lo ≤ a ∧ a ≤ hi) (hl : ∀ x ∈ l, lo ≤ x ∧ x ≤ hi) : (lo ≤ l.foldl max a ∧ l.foldl max a ≤ hi) ∧ (lo ≤ l.foldl min a ∧ l.foldl min a ≤ hi) := by
  have key : ∀ (l : List Int) (a b : Int), lo ≤ a ∧ a ≤ hi → lo ≤ b ∧ b ≤ hi → (∀ x ∈ l, lo ≤ x ∧ x ≤ hi) → (lo ≤ l.foldl max a ∧ l.foldl max a ≤ hi) ∧ (lo ≤ l.foldl min b ∧ l.foldl min b ≤ hi) := by
    intro l
    induction l with
    | nil => intro a b h1 h2 _; exact ⟨h1, h2⟩
    | cons x l ih =>
      intro a b h1 h2 hl
      have hx := hl x (by simp)
      exact ih _ _ (by omega) (by omega) (fun y hy => hl y (by simp [hy]))
  exact key l a a ha ha hl
theorem max_eq {d : List Int} {d0 : Int} (h0 : d[0]? = some d0) (hn : d.length ≤ 100) {fuel : Nat} (hf : 1048577 ≤ fuel) : GxSlicesMaxIntInt.P fuel d = some (d.foldl max d0) := by
  have hlen := (List.getElem?_eq_some_iff.1 h0).1
  have hi0 : idx d 0 = some d0 := by rw [show (0 : Int) = ((0 : Nat) : Int) from rfl, idx_nat, h0]
  have ht : decide ((d.length : Int) < 1) = false := by simp; omega
  simp only [GxSlicesMaxIntInt.P, letK, ht, iteK_if, Bool.false_eq_true, if_false, GxSlicesMaxIntInt.j0, hi0, Option.bind_some]
  refine lp_is (n := d.length) _ (fun k s => s = ((d.take k).foldl max d0, (k : Int))) ?_ ?_ fuel 1 _ (by omega) (by omega) ?_
  · rintro k s nx hk rfl hnx
    obtain ⟨x, hx, hxi⟩ := at_lt (l := d) (k := k) hk
    have ht : decide ((k : Int) < (d.length : Int)) = true := by simp; omega
    simp only [GxSlicesMaxIntInt.l0, unp2, letK, ht, iteK_if, if_true, hxi, Option.bind_some, appK]
    rw [next_i (by omega)]
    exact hnx _ (by rw [take_next hx, List.foldl_append]; rfl)
  · rintro s nx rfl
    have ht : decide ((d.length : Int) < (d.length : Int)) = false := by simp
    simp only [GxSlicesMaxIntInt.l0, unp2, letK, ht, iteK_if, appK, GxSlicesMaxIntInt.e0]
    simp
  · rw [show (1 : Nat) = 0 + 1 from rfl, take_next h0]; simp
theorem min_eq {d : List Int} {d0 : Int} (h0 : d[0]? = some d0) (hn : d.length ≤ 100) {fuel : Nat} (hf : 1048577 ≤ fuel) : GxSlicesMinIntInt.P fuel d = some (d.foldl min d0) := by
  have hlen := (List.getElem?_eq_some_iff.1 h0).1
  have hi0 : idx d 0 = some d0 := by rw [show (0 : Int) = ((0 : Nat) : Int) from rfl, idx_nat, h0]
  have ht : decide ((d.length : Int) < 1) = false := by simp; omega
  simp only [GxSlicesMinIntInt.P, letK, ht, iteK_if, Bool.false_eq_true, if_false, GxSlicesMinIntInt.j0, hi0, Option.bind_some]
  refine lp_is (n := d.length) _ (fun k s => s = ((d.take k).foldl min d0, (k : Int))) ?_ ?_ fuel 1 _ (by omega) (by omega) ?_
  · rintro k s nx hk rfl hnx
    obtain ⟨x, hx, hxi⟩ := at_lt (l := d) (k := k) hk
    have ht : decide ((k : Int) < (d.length : Int)) = true := by simp; omega
    simp only [GxSlicesMinIntInt.l0, unp2, letK, ht, iteK_if, if_true, hxi, Option.bind_some, appK]
    rw [next_i (by omega)]
    exact hnx _ (by rw [take_next hx, List.foldl_append]; rfl)
  · rintro s nx rfl
    have ht : decide ((d.length : Int) < (d.length : Int)) = false := by simp
    simp only [GxSlicesMinIntInt.l0, unp2, letK, ht, iteK_if, appK, GxSlicesMinIntInt.e0]
    simp
  · rw [show (1 : Nat) = 0 + 1 from rfl, take_next h0]; simp
theorem least_is (a b : Int) : GsL1Least.P a b = some (min a b) := by
  simp only [GsL1Least.P, letK, iteK_if]
  by_cases h : a < b
  · rw [if_pos (by simpa using h)]; congr 1; omega
  · rw [if_neg (by simpa using h)]; congr 1; omega
def evenRes (l : List Int) : Bool × Bool := if holesB l = true then (decide ((dist l).foldl max (dAt l 0) - (dist l).foldl min (dAt l 0) ≤ 10), true) else (false, false)
theorem even_bounds {l : List Int} (h : holesB l = true) : (1 ≤ (dist l).foldl max (dAt l 0) ∧ (dist l).foldl max (dAt l 0) ≤ 9999) ∧ (1 ≤ (dist l).foldl min (dAt l 0) ∧ (dist l).foldl min (dAt l 0) ≤ 9999) := by
  have hn := holes_len h
  exact fold_in (dist_in h (by omega)) (fun x hx => dist_mem h hx)
theorem even_impl (l : List Int) (hl : l.length ≤ 9223372036854775807) {fuel : Nat} (hf : 1048577 ≤ fuel) : GiAreEven.P fuel l = some (evenRes l) := by
  simp only [GiAreEven.P, areHoles_eq l hl, Option.bind_some, letK, iteK_if, evenRes]
  cases h : holesB l with
  | false => simp
  | true =>
    have hn := holes_len h
    have h0 : (dist l)[0]? = some (dAt l 0) := dist_at (by omega)
    have hb := even_bounds h
    have hd := dist_len l
    simp only [Bool.not_true, Bool.false_eq_true, if_false, distances_eq h hf, Option.bind_some, max_eq h0 (by omega) hf, min_eq h0 (by omega) hf, if_true]
    rw [wrap_in (by omega) (by omega)]
theorem even_spec (l : List Int) (hl : l.length ≤ 9223372036854775807) {fuel : Nat} (hf : 1048577 ≤ fuel) : GsAreEven.P fuel l = some (evenRes l) := by
  simp only [GsAreEven.P, l5Holes_eq l hl, Option.bind_some, letK, iteK_if, evenRes]
  cases h : holesB l with
  | false => simp
  | true =>
    have hn := holes_len h
    have hb := even_bounds h
    obtain ⟨x, hx, hxi⟩ := at_lt (l := l) (k := 0) (by omega)
    obtain ⟨y, hy, hyi⟩ := at_lt (l := l) (k := 1) (by omega)
    have hx0 : idx l 0 = some x := hxi
    have hy0 : idx l 1 = some y := hyi
    have h1 := holes_in h hx
    have h2 := holes_in h hy
    simp only [Bool.not_true, Bool.false_eq_true, if_false, Option.bind_some, hx0, hy0, if_true]
    rw [wrap_in (x := y - x) (by omega) (by omega), ← dAt_is hx hy]
    have hd := dist_len l
    refine lp_is (n := l.length - 1) _ (fun k s => s = (((dist l).take k).foldl min (dAt l 0), ((dist l).take k).foldl max (dAt l 0), (k : Int) + 1)) ?_ ?_ fuel 0 _ (by omega) (by omega) (by simp)
    · rintro k s nx hk rfl hnx
      obtain ⟨x, y, hy, hx, hw⟩ := two_at h hk
      have ht : decide ((k : Int) + 1 < (l.length : Int)) = true := by simp; omega
      simp only [GsAreEven.l0, unp3, letK, ht, iteK_if, if_true, hy, hx, hw, Option.bind_some, appK, most_is, least_is]
      rw [wrap_in (by omega) (by omega)]
      exact hnx _ (by rw [take_next (dist_at hk), List.foldl_append, List.foldl_append]; simp)
    · rintro s nx rfl
      have ht : decide (((l.length - 1 : Nat) : Int) + 1 < (l.length : Int)) = false := by simp; omega
      simp only [GsAreEven.l0, unp3, letK, ht, iteK_if, appK, GsAreEven.e0]
      rw [← hd, List.take_of_length_le (Nat.le_refl _), wrap_in (x := (dist l).foldl max (dAt l 0) - (dist l).foldl min (dAt l 0)) (by omega) (by omega)]
      simp
theorem law_even (fuel : Nat) (hf : 1048577 ≤ fuel) (l : List Int) (hl : l.length ≤ 9223372036854775807) : GlFnExactAreEven.P fuel l = some true := by
  simp only [GlFnExactAreEven.P, letK, iteK_if]
  by_cases hb : (1048576 : Int) < (l.length : Int)
  · rw [if_pos (by simpa using hb)]
  · rw [if_neg (by simpa using hb)]
    obtain ⟨⟨a, b⟩, hr⟩ : ∃ x, x = evenRes l := ⟨_, rfl⟩
    simp [toI l (by omega), even_impl l hl hf, even_spec l hl hf, ← hr, bind2, joinK, appK, iteK_if, eqI]
end Go.Proofs.Ytgfepdfamhnppaa.Q5Even
