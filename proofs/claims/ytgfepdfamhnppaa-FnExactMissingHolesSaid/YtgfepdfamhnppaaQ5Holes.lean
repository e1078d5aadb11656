/- Chapter 5: combs, holes, gauges: the plain functions of the program and of the reference agree, and the laws answer true. (Q5Holes) No condition but those of each theorem. -/
import Derived.Test.YtgfepdfamhnppaaQUp
import Derived.Test.YtgfepdfamhnppaaQLoop
import Derived.Test.YtgfepdfamhnppaaGiAreHoles
import Derived.Test.YtgfepdfamhnppaaGsL5Holes
namespace Go.Proofs.Ytgfepdfamhnppaa.Q5Holes
set_option linter.unusedVariables false
set_option linter.unusedSimpArgs false
open Go.RowKit
open Go.Proofs.Ytgfepdfamhnppaa.GoP Go.Proofs.Ytgfepdfamhnppaa.PlainStamp Go.Proofs.Ytgfepdfamhnppaa.QBase Go.Proofs.Ytgfepdfamhnppaa.QUp Go.Proofs.Ytgfepdfamhnppaa.QLoop

def rise (lo hi : Int) (l : List Int) : Bool := upTo (fun n => inB n lo hi) (fun n => n) l l.length
theorem rising_eq (l : List Int) (lo hi : Int) (hl : l.length ≤ 9223372036854775807) : GsL1Rising.P l lo hi = some (rise lo hi l) := by
  simp only [GsL1Rising.P]
  rw [up_loop (ok := fun n => inB n lo hi) (id := fun n => n) (no := false)]
  · unfold rise; cases upTo (fun n => inB n lo hi) (fun n => n) l l.length <;> simp [GsL1Rising.e0]
  · intro k nx s hs
    have hi' : idx l (k : Int) = some s := by rw [idx_nat, hs]
    have hk : k < l.length := (List.getElem?_eq_some_iff.1 hs).1
    simp only [GsL1Rising.l0, hi', Option.bind_some, l1In_eq, letK, joinK, appK, iteK_if]
    refine ⟨fun h => by simp [h], fun h => ⟨fun h0 => by subst h0; simp [h], fun h0 r hr => ?_⟩⟩
    rw [idx_pred h0 (by omega) hr]
    have hk0 : (0 : Int) < (k : Int) := by omega
    have hk1 : ¬ k = 0 := by omega
    exact ⟨fun hlt => by (have hc : ¬ s ≤ r := by omega); simp [h, hk0, hk1, hc], fun hge => by simp [h, hk0, hk1, hge]⟩
def holesB (l : List Int) : Bool := inB l.length 2 40 && rise 0 9999 l
theorem l5Holes_eq (l : List Int) (hl : l.length ≤ 9223372036854775807) : GsL5Holes.P l = some (holesB l) := by
  simp only [GsL5Holes.P, l1In_eq, rising_eq l 0 9999 hl, Option.bind_some, joinK, appK, iteK_if, holesB]
  cases inB l.length 2 40 <;> simp
theorem areHoles_eq (l : List Int) (hl : l.length ≤ 9223372036854775807) : GiAreHoles.P l = some (holesB l) := by
  simp only [GiAreHoles.P, within_eq, Option.bind_some, letK, iteK_if, holesB]
  cases hn : inB l.length 2 40 with
  | false => simp
  | true =>
    simp only [Bool.not_true, Bool.false_eq_true, if_false, Bool.true_and]
    rw [up_loop (ok := fun n => inB n 0 9999) (id := fun n => n) (no := false)]
    · unfold rise; cases upTo (fun n => inB n 0 9999) (fun n => n) l l.length <;> simp [GiAreHoles.e0]
    · intro k nx s hs
      have hi' : idx l (k : Int) = some s := by rw [idx_nat, hs]
      have hk : k < l.length := (List.getElem?_eq_some_iff.1 hs).1
      simp only [GiAreHoles.l0, hi', Option.bind_some, within_eq, letK, joinK, appK, iteK_if]
      refine ⟨fun h => by simp [h], fun h => ⟨fun h0 => by subst h0; simp [h], fun h0 r hr => ?_⟩⟩
      rw [idx_pred h0 (by omega) hr]
      have hk0 : (0 : Int) < (k : Int) := by omega
      have hk1 : ¬ k = 0 := by omega
      exact ⟨fun hlt => by (have hc : ¬ s ≤ r := by omega); simp [h, hk0, hk1, hc], fun hge => by simp [h, hk0, hk1, hge]⟩
theorem holes_len {l : List Int} (h : holesB l = true) : 2 ≤ l.length ∧ l.length ≤ 40 := by
  unfold holesB at h; simp only [Bool.and_eq_true] at h
  have := inB_of h.1; omega
theorem holes_in {l : List Int} (h : holesB l = true) {k : Nat} {x : Int} (hx : l[k]? = some x) : 0 ≤ x ∧ x ≤ 9999 := by
  unfold holesB rise at h; simp only [Bool.and_eq_true] at h
  exact inB_of (upTo_ok h.2 (List.getElem?_eq_some_iff.1 hx).1 hx)
theorem holes_up {l : List Int} (h : holesB l = true) {i j : Nat} {x y : Int} (hij : i < j) (hx : l[i]? = some x) (hy : l[j]? = some y) : x < y := by
  unfold holesB rise at h; simp only [Bool.and_eq_true] at h
  exact up_less (id := fun n => n) h.2 hij hx hy
end Go.Proofs.Ytgfepdfamhnppaa.Q5Holes
