/- Chapter 13: a sighting's text: the plain functions of the program and of the reference agree, and the law answers true. (Q13TOne) No condition but those of each theorem. -/
import Derived.Test.YtpaakpbbahbhcaaDoorQLoop
import Derived.Test.YtpaakpbbahbhcaaDoorQToI
import Derived.Test.YtpaakpbbahbhcaaDoorPSighting
import Derived.Test.YtpaakpbbahbhcaaDoorGoRSighting
import Derived.Test.YtpaakpbbahbhcaaDoorGlToSighting
import Derived.Test.YtpaakpbbahbhcaaDoorGlEqSighting
import Derived.Test.YtpaakpbbahbhcaaDoorGlSzSighting
import Derived.Test.YtpaakpbbahbhcaaDoorGlEqIntS
import Derived.Test.YtpaakpbbahbhcaaDoorGlSzIntS
namespace Go.Proofs.YtpaakpbbahbhcaaDoor.Q13TOne
set_option linter.unusedVariables false
set_option linter.unusedSimpArgs false
open Go.RowKit
open Go.Proofs.YtpaakpbbahbhcaaDoor.GoP Go.Proofs.YtpaakpbbahbhcaaDoor.PlainStamp Go.Proofs.YtpaakpbbahbhcaaDoor.QBase Go.Proofs.YtpaakpbbahbhcaaDoor.QLoop Go.Proofs.YtpaakpbbahbhcaaDoor.QToI Go.Proofs.YtpaakpbbahbhcaaDoor.PSighting

theorem eqI (l : List Int) : GlEqIntS.P l l = some true := by
  simp only [GlEqIntS.P, letK, iteK_if]
  rw [if_neg (by simp)]
  refine cnt_is true (fun _ _ => True) ?_ (fun s _ => rfl) () trivial
  intro k s nx hk _ hn
  obtain ⟨x, hx, hi⟩ := at_lt (l := l) (k := k) hk
  simp only [GlEqIntS.l0, hi, Option.bind_some, letK, appK, iteK_if]
  rw [if_neg (by simp)]
  exact hn () trivial
/-- what a machine can hold -/
def szOkT (s : Sighting) : Prop := s.town.size ≤ 9223372036854775807 ∧ s.traits.length ≤ 9223372036854775807
theorem toOne (s : Sighting) (h : s.traits.length ≤ 1048576) : GlToSighting.P s.id s.year s.town s.traits = some s := by
  simp only [GlToSighting.P, toI s.traits h, Option.bind_some]
theorem eqOne (s : Sighting) : GlEqSighting.P s.id s.year s.town s.traits s.id s.year s.town s.traits = some true := by
  simp [GlEqSighting.P, eqI, letK, joinK, appK, iteK_if]
theorem szI_eq (l : List Int) (left : Int) (h0 : 0 ≤ left) (h1 : left ≤ 1048576) (hl : l.length ≤ 9223372036854775807) : GlSzIntS.P l left = some (if left - (l.length : Int) < 0 then -1 else left - (l.length : Int)) := by
  simp only [GlSzIntS.P, letK, iteK_if]
  rw [wrap_in (by omega) (by omega)]
  by_cases h : left - (l.length : Int) < 0
  · rw [if_pos (by simpa using h), if_pos h]
  · rw [if_neg (by simpa using h), if_neg h]
theorem szOne (s : Sighting) (left : Int) (h : szOkT s) (h0 : 0 ≤ left) (h1 : left ≤ 1048576) : ∃ v, GlSzSighting.P s.id s.year s.town s.traits left = some v ∧ v ≤ left ∧ (0 ≤ v → v + (s.traits.length : Int) ≤ left) := by
  have hm := h
  unfold szOkT at hm
  simp only [GlSzSighting.P, letK, iteK_if]
  rw [wrap_in (x := left - (s.town.size : Int)) (by omega) (by omega)]
  by_cases hd0 : left - (s.town.size : Int) < 0
  · exact ⟨-1, by rw [if_pos (by simpa using hd0)], by omega, by omega⟩
  rw [if_neg (by simpa using hd0)]
  rw [szI_eq s.traits (left - (s.town.size : Int)) (by omega) (by omega) (by omega)]
  simp only [Option.bind_some]
  by_cases hd1 : left - (s.town.size : Int) - (s.traits.length : Int) < 0
  · rw [if_pos hd1]; exact ⟨-1, by simp, by omega, by omega⟩
  rw [if_neg hd1, if_neg (by simpa using hd1)]
  exact ⟨_, rfl, by omega, by omega⟩
end Go.Proofs.YtpaakpbbahbhcaaDoor.Q13TOne
