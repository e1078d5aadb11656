/- Chapter 13: censuses: the plain functions of the program and of the reference agree, and the laws answer true. (Q13One) No condition but those of each theorem. -/
import Derived.Test.YtpaakpbbahbhcaaDoorQ1Rise
import Derived.Test.YtpaakpbbahbhcaaDoorQUp
import Derived.Test.YtpaakpbbahbhcaaDoorQLoop
import Derived.Test.YtpaakpbbahbhcaaDoorQWord
import Derived.Test.YtpaakpbbahbhcaaDoorPSighting
import Derived.Test.YtpaakpbbahbhcaaDoorGoRSighting
import Derived.Test.YtpaakpbbahbhcaaDoorGiIsSighting
import Derived.Test.YtpaakpbbahbhcaaDoorGsL13One
namespace Go.Proofs.YtpaakpbbahbhcaaDoor.Q13One
set_option linter.unusedVariables false
set_option linter.unusedSimpArgs false
open Go.RowKit
open Go.Proofs.YtpaakpbbahbhcaaDoor.GoP Go.Proofs.YtpaakpbbahbhcaaDoor.PlainStamp Go.Proofs.YtpaakpbbahbhcaaDoor.QBase Go.Proofs.YtpaakpbbahbhcaaDoor.Q1Rise Go.Proofs.YtpaakpbbahbhcaaDoor.QUp Go.Proofs.YtpaakpbbahbhcaaDoor.QLoop Go.Proofs.YtpaakpbbahbhcaaDoor.QWord Go.Proofs.YtpaakpbbahbhcaaDoor.PSighting

/-- what a machine can hold -/
def sz13 (s : Sighting) : Prop := s.town.size ≤ 9223372036854775807 ∧ s.traits.length ≤ 9223372036854775807
def trB (l : List Int) : Bool := decide (l.length ≤ 8) && rise 1 50 l
theorem isTrait_eq (n : Int) : GiIsTrait.P n = some (inB n 1 50) := by simp only [GiIsTrait.P, within_eq, Option.bind_some]
theorem areTraits_eq (l : List Int) : GiAreTraits.P l = some (trB l) := by
  simp only [GiAreTraits.P, GiAreByKeyIntIntiIsTraitiAreTraits1.P, letK, iteK_if]
  by_cases hl : l.length ≤ 8
  · rw [if_neg (by simp; omega), up_loop (ok := fun n => inB n 1 50) (id := fun n => n) (no := false)]
    · unfold trB rise; cases upTo (fun n => inB n 1 50) (fun n => n) l l.length <;> simp [hl, GiAreByKeyIntIntiIsTraitiAreTraits1.e0]
    · intro k nx s hs
      have hi : idx l (k : Int) = some s := by rw [idx_nat, hs]
      have hk : k < l.length := (List.getElem?_eq_some_iff.1 hs).1
      simp only [GiAreByKeyIntIntiIsTraitiAreTraits1.l0, hi, Option.bind_some, isTrait_eq, GiAreTraits1.P, letK, joinK, appK, iteK_if]
      refine ⟨fun h => by simp [h], fun h => ⟨fun h0 => by subst h0; simp [h], fun h0 r hr => ?_⟩⟩
      rw [idx_pred h0 (by omega) hr]
      have hk0 : (0 : Int) < (k : Int) := by omega
      have hk1 : ¬ k = 0 := by omega
      exact ⟨fun hlt => by (have hc : ¬ s ≤ r := by omega); simp [h, hk0, hk1, hc], fun hge => by simp [h, hk0, hk1, hge]⟩
  · rw [if_pos (by simp; omega)]; unfold trB; simp [hl]
def okSi (x : Sighting) : Bool := inB x.id 1 999 && inB x.year 1840 2100 && wordB x.town && trB x.traits
theorem isSighting_eq (a b : Int) (c : ByteArray) (d : List Int) : GiIsSighting.P a b c d = some (okSi ⟨a, b, c, d⟩) := by
  simp only [GiIsSighting.P, within_eq, isWord_eq, areTraits_eq, Option.bind_some, letK, joinK, appK, iteK_if, okSi]
  cases inB a 1 999 <;> cases inB b 1840 2100 <;> cases wordB c <;> cases trB d <;> simp
theorem l13One_eq (a b : Int) (c : ByteArray) (d : List Int) (h : sz13 ⟨a, b, c, d⟩) : GsL13One.P a b c d = some (okSi ⟨a, b, c, d⟩) := by
  have h8 : decide ((d.length : Int) ≤ 8) = decide (d.length ≤ 8) := by rw [decide_eq_decide]; omega
  simp only [GsL13One.P, l1In_eq, l2Word_eq c h.1, rising_eq d 1 50 h.2, h8, Option.bind_some, letK, joinK, appK, iteK_if, okSi, trB]
  cases inB a 1 999 <;> cases inB b 1840 2100 <;> cases wordB c <;> cases decide (d.length ≤ 8) <;> cases rise 1 50 d <;> simp
theorem okSi_of {x : Sighting} (h : okSi x = true) : (1 ≤ x.id ∧ x.id ≤ 999) ∧ (1840 ≤ x.year ∧ x.year ≤ 2100) ∧ wordB x.town = true ∧ x.traits.length ≤ 8 ∧ rise 1 50 x.traits = true := by
  unfold okSi trB at h
  simp only [Bool.and_eq_true, decide_eq_true_eq] at h
  exact ⟨inB_of h.1.1.1, inB_of h.1.1.2, h.1.2, h.2.1, h.2.2⟩
end Go.Proofs.YtpaakpbbahbhcaaDoor.Q13One
