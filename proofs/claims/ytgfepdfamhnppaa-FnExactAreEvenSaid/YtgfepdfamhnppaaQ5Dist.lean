/- Chapter 5: combs, holes, gauges: the plain functions of the program and of the reference agree, and the laws answer true. (Q5Dist) No condition but those of each theorem. -/
import Derived.Test.YtgfepdfamhnppaaQ5Holes
import Derived.Test.YtgfepdfamhnppaaQUp
import Derived.Test.YtgfepdfamhnppaaQLoop
import Derived.Test.YtgfepdfamhnppaaQAll
namespace Go.Proofs.Ytgfepdfamhnppaa.Q5Dist
set_option linter.unusedVariables false
set_option linter.unusedSimpArgs false
open Go.RowKit
open Go.Proofs.Ytgfepdfamhnppaa.GoP Go.Proofs.Ytgfepdfamhnppaa.PlainStamp Go.Proofs.Ytgfepdfamhnppaa.QBase Go.Proofs.Ytgfepdfamhnppaa.Q5Holes Go.Proofs.Ytgfepdfamhnppaa.QUp Go.Proofs.Ytgfepdfamhnppaa.QLoop Go.Proofs.Ytgfepdfamhnppaa.QAll

def dAt (l : List Int) (i : Nat) : Int := l.getD (i + 1) 0 - l.getD i 0
def dist (l : List Int) : List Int := (List.range (l.length - 1)).map (dAt l)
theorem dist_len (l : List Int) : (dist l).length = l.length - 1 := by simp [dist]
theorem dist_at {l : List Int} {k : Nat} (h : k < l.length - 1) : (dist l)[k]? = some (dAt l k) := by simp [dist, h]
theorem dAt_is {l : List Int} {k : Nat} {x y : Int} (hx : l[k]? = some x) (hy : l[k + 1]? = some y) : dAt l k = y - x := by
  unfold dAt; rw [List.getD_eq_getElem?_getD, List.getD_eq_getElem?_getD, hx, hy]; rfl
theorem dist_in {l : List Int} (h : holesB l = true) {k : Nat} (hk : k < l.length - 1) : 1 ≤ dAt l k ∧ dAt l k ≤ 9999 := by
  obtain ⟨x, hx, _⟩ := at_lt (l := l) (k := k) (by omega)
  obtain ⟨y, hy, _⟩ := at_lt (l := l) (k := k + 1) (by omega)
  have h1 := holes_in h hx
  have h2 := holes_in h hy
  have h3 := holes_up h (i := k) (j := k + 1) (by omega) hx hy
  rw [dAt_is hx hy]; omega
theorem dist_mem {l : List Int} (h : holesB l = true) {d : Int} (hd : d ∈ dist l) : 1 ≤ d ∧ d ≤ 9999 := by
  obtain ⟨k, hk, rfl⟩ := List.mem_map.1 hd
  exact dist_in h (List.mem_range.1 hk)
/-- both neighbours, as the loops read them -/
theorem two_at {l : List Int} (h : holesB l = true) {k : Nat} (hk : k < l.length - 1) : ∃ x y, idx l ((k : Int) + 1) = some y ∧ idx l (IntKind.i64.wrap ((k : Int) + 1 - 1)) = some x ∧ IntKind.i64.wrap (y - x) = dAt l k := by
  have hn := holes_len h
  obtain ⟨x, hx, hxi⟩ := at_lt (l := l) (k := k) (by omega)
  obtain ⟨y, hy, hyi⟩ := at_lt (l := l) (k := k + 1) (by omega)
  have h1 := holes_in h hx
  have h2 := holes_in h hy
  refine ⟨x, y, by rw [← hyi]; rfl, ?_, ?_⟩
  · rw [show (k : Int) + 1 - 1 = (k : Int) by omega, wrap_in (by omega) (by omega)]; exact hxi
  · rw [wrap_in (by omega) (by omega), dAt_is hx hy]
end Go.Proofs.Ytgfepdfamhnppaa.Q5Dist
