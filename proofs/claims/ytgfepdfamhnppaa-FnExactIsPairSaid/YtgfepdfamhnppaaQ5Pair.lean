/- Chapter 5: combs, holes, gauges: the plain functions of the program and of the reference agree, and the laws answer true. (Q5Pair) No condition but those of each theorem. -/
import Derived.Test.YtgfepdfamhnppaaQ5Holes
import Derived.Test.YtgfepdfamhnppaaQUp
import Derived.Test.YtgfepdfamhnppaaQLoop
import Derived.Test.YtgfepdfamhnppaaQAll
import Derived.Test.YtgfepdfamhnppaaQToI
import Derived.Test.YtgfepdfamhnppaaQInt
import Derived.Test.YtgfepdfamhnppaaGlFnExactIsPair
namespace Go.Proofs.Ytgfepdfamhnppaa.Q5Pair
set_option linter.unusedVariables false
set_option linter.unusedSimpArgs false
open Go.RowKit
open Go.Proofs.Ytgfepdfamhnppaa.GoP Go.Proofs.Ytgfepdfamhnppaa.PlainStamp Go.Proofs.Ytgfepdfamhnppaa.QBase Go.Proofs.Ytgfepdfamhnppaa.Q5Holes Go.Proofs.Ytgfepdfamhnppaa.QUp Go.Proofs.Ytgfepdfamhnppaa.QLoop Go.Proofs.Ytgfepdfamhnppaa.QAll Go.Proofs.Ytgfepdfamhnppaa.QToI Go.Proofs.Ytgfepdfamhnppaa.QInt

/-- each number from c on and below n is good, found by a loop with fuel -/
theorem all_from {ρ : Type} {n c : Nat} {p : Nat → Bool} {no yes : ρ} {f : Int → (Int → Option ρ) → (Int → Option ρ) → Option ρ} {fin : Int → Option ρ}
    (step : ∀ (k : Nat) nx, c ≤ k → k < n → (p k = false → f (k : Int) nx fin = some no) ∧ (p k = true → f (k : Int) nx fin = nx ((k + 1 : Nat) : Int))) (stop : ∀ nx, f (n : Int) nx fin = some yes)
    (fuel : Nat) (hf : n < fuel) (hc : c ≤ n) : loopK f fuel (c : Int) fin = some (if allN n (fun i => decide (i < c) || p i) = true then yes else no) := by
  have key : ∀ fuel k, c ≤ k → k ≤ n → n - k < fuel → (∀ i, i < k → (decide (i < c) || p i) = true) → loopK f fuel (k : Int) fin = some (if allN n (fun i => decide (i < c) || p i) = true then yes else no) := by
    intro fuel
    induction fuel with
    | zero => intro k hc hk hf; omega
    | succ m ih =>
      intro k hc hk hf hu
      show f (k : Int) _ fin = _
      by_cases he : k = n
      · subst he; rw [stop, allN_iff.2 hu]; rfl
      · obtain ⟨h1, h2⟩ := step k (fun s' => loopK f m s' fin) hc (by omega)
        cases hp : p k with
        | false => rw [h1 hp, allN_no (k := k) (by omega) (by simp [hp, hc])]; rfl
        | true =>
          rw [h2 hp]
          refine ih (k + 1) (by omega) (by omega) (by omega) (fun i hi => ?_)
          by_cases he : i = k
          · rw [he]; simp [hp]
          · exact hu i (by omega)
  exact key fuel c (Nat.le_refl _) hc (by omega) (fun i hi => by simp [hi])
def pairAt (a b : List Int) (o : Int) (k : Nat) : Bool := inB (a.getD k 0 - a.getD 0 0 - (b.getD k 0 - b.getD 0 0)) (-o) o
def pairRes (a b : List Int) (o : Int) : Bool × Bool := if (holesB a && holesB b && (a.length == b.length) && inB o 0 50) = true then (allN a.length (pairAt a b o), true) else (false, false)
theorem getD_is {l : List Int} {k : Nat} {x : Int} (h : l[k]? = some x) : l.getD k 0 = x := by rw [List.getD_eq_getElem?_getD, h]; rfl
theorem pair_impl (a b : List Int) (o : Int) (hla : a.length ≤ 9223372036854775807) (hlb : b.length ≤ 9223372036854775807) : GiIsPair.P a b o = some (pairRes a b o) := by
  simp only [GiIsPair.P, areHoles_eq a hla, areHoles_eq b hlb, within_eq, Option.bind_some, letK, joinK, appK, iteK_if, pairRes]
  cases ha : holesB a with
  | false => simp
  | true =>
    cases hb : holesB b with
    | false => simp
    | true =>
      by_cases hn : a.length = b.length
      · cases ho : inB o 0 50 with
        | false => simp
        | true =>
          have hob := inB_of ho
          have hna := holes_len ha
          obtain ⟨x0, hx0, hx0i⟩ := at_lt (l := a) (k := 0) (by omega)
          obtain ⟨y0, hy0, hy0i⟩ := at_lt (l := b) (k := 0) (by omega)
          have bx := holes_in ha hx0
          have bY := holes_in hb hy0
          have hx0j : idx a 0 = some x0 := hx0i
          have hy0j : idx b 0 = some y0 := hy0i
          have e1 : ((a.length : Int) != (b.length : Int)) = false := by rw [hn]; simp
          have e2 : (a.length == b.length) = true := by rw [hn]; simp
          simp only [e1, e2, Bool.not_true, Bool.false_eq_true, if_false, Bool.and_self, if_true]
          rw [all_cnt (p := pairAt a b o) (no := (false, true))]
          · cases allN a.length (pairAt a b o) <;> simp [GiIsPair.e0]
          · intro k nx hk
            obtain ⟨x, hx, hxi⟩ := at_lt (l := a) (k := k) hk
            obtain ⟨y, hy, hyi⟩ := at_lt (l := b) (k := k) (by omega)
            have b1 := holes_in ha hx
            have b2 := holes_in hb hy
            simp only [GiIsPair.l0, hxi, hyi, hx0j, hy0j, Option.bind_some, letK, appK, iteK_if, within_eq]
            rw [wrap_in (x := x - x0) (by omega) (by omega), wrap_in (x := y - y0) (by omega) (by omega), wrap_in (x := x - x0 - (y - y0)) (by omega) (by omega), wrap_in (x := -o) (by omega) (by omega)]
            unfold pairAt
            rw [getD_is hx, getD_is hx0, getD_is hy, getD_is hy0]
            exact ⟨fun h => by simp [h], fun h => by simp [h]⟩
      · have e1 : ((a.length : Int) != (b.length : Int)) = true := by simp; omega
        have e2 : (a.length == b.length) = false := by simp; omega
        simp [e1, e2]
theorem pair_spec (a b : List Int) (o : Int) (hla : a.length ≤ 9223372036854775807) (hlb : b.length ≤ 9223372036854775807) {fuel : Nat} (hf : 1048577 ≤ fuel) : GsIsPair.P fuel a b o = some (pairRes a b o) := by
  simp only [GsIsPair.P, l5Holes_eq a hla, l5Holes_eq b hlb, l1In_eq, Option.bind_some, letK, joinK, appK, iteK_if, pairRes]
  cases ha : holesB a with
  | false => simp
  | true =>
    cases hb : holesB b with
    | false => simp
    | true =>
      by_cases hn : a.length = b.length
      · cases ho : inB o 0 50 with
        | false => simp
        | true =>
          have hob := inB_of ho
          have hna := holes_len ha
          obtain ⟨x0, hx0, hx0i⟩ := at_lt (l := a) (k := 0) (by omega)
          obtain ⟨y0, hy0, hy0i⟩ := at_lt (l := b) (k := 0) (by omega)
          have bx := holes_in ha hx0
          have bY := holes_in hb hy0
          have hx0j : idx a 0 = some x0 := hx0i
          have hy0j : idx b 0 = some y0 := hy0i
          have e1 : ((a.length : Int) != (b.length : Int)) = false := by rw [hn]; simp
          have e2 : (a.length == b.length) = true := by rw [hn]; simp
          simp only [e1, e2, Bool.not_true, Bool.false_eq_true, if_false, Bool.and_self, if_true]
          have key := all_from (n := a.length) (c := 1) (p := pairAt a b o) (no := (false, true)) (yes := (true, true)) (f := GsIsPair.l0 a b o) (fin := GsIsPair.e0) ?_ ?_ fuel (by omega) (by omega)
          · have eA : allN a.length (fun i => decide (i < 1) || pairAt a b o i) = allN a.length (pairAt a b o) := by
              refine allN_eq ⟨fun h i hi => ?_, fun h i hi => by simp [h i hi]⟩
              by_cases h0 : i = 0
              · subst h0
                unfold pairAt
                exact inB_yes (by omega) (by omega)
              · have := h i hi
                simpa [h0] using this
            rw [eA] at key
            refine Eq.trans key ?_
            cases allN a.length (pairAt a b o) <;> simp
          · intro k nx hk1 hk
            obtain ⟨x, hx, hxi⟩ := at_lt (l := a) (k := k) hk
            obtain ⟨y, hy, hyi⟩ := at_lt (l := b) (k := k) (by omega)
            have b1 := holes_in ha hx
            have b2 := holes_in hb hy
            have ht : decide ((k : Int) < (a.length : Int)) = true := by simp; omega
            simp only [GsIsPair.l0, ht, if_true, hxi, hyi, hx0j, hy0j, Option.bind_some, letK, appK, iteK_if, l1In_eq]
            rw [wrap_in (x := x - x0) (by omega) (by omega), wrap_in (x := x - x0 - y) (by omega) (by omega), wrap_in (x := x - x0 - y + y0) (by omega) (by omega), wrap_in (x := -o) (by omega) (by omega), next_i (by omega), show x - x0 - y + y0 = x - x0 - (y - y0) by omega]
            unfold pairAt
            rw [getD_is hx, getD_is hx0, getD_is hy, getD_is hy0]
            exact ⟨fun h => by simp [h], fun h => by simp [h]⟩
          · intro nx
            have ht : decide ((a.length : Int) < (a.length : Int)) = false := by simp
            simp only [GsIsPair.l0, ht, letK, iteK_if, appK]
            rfl
      · have e1 : ((a.length : Int) != (b.length : Int)) = true := by simp; omega
        have e2 : (a.length == b.length) = false := by simp; omega
        simp [e1, e2]
theorem law_pair (fuel : Nat) (hf : 1048577 ≤ fuel) (a b : List Int) (o : Int) (hla : a.length ≤ 9223372036854775807) (hlb : b.length ≤ 9223372036854775807) : GlFnExactIsPair.P fuel a b o = some true := by
  simp only [GlFnExactIsPair.P, letK, iteK_if]
  by_cases hb : (1048576 : Int) < (a.length : Int)
  · rw [if_pos (by simpa using hb)]
  · rw [if_neg (by simpa using hb)]
    by_cases hc : (1048576 : Int) < (b.length : Int)
    · rw [if_pos (by simpa using hc)]
    · rw [if_neg (by simpa using hc)]
      obtain ⟨⟨x, y⟩, hr⟩ : ∃ x, x = pairRes a b o := ⟨_, rfl⟩
      simp [toI a (by omega), toI b (by omega), pair_impl a b o hla hlb, pair_spec a b o hla hlb hf, ← hr, bind2, joinK, appK, iteK_if, eqI]
end Go.Proofs.Ytgfepdfamhnppaa.Q5Pair
