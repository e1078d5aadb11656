/- Chapter 5: combs, holes, gauges: the plain functions of the program and of the reference agree, and the laws answer true. (Q5Distances) No condition but those of each theorem. -/
import Derived.Test.YtgfepdfamhnppaaQ5Dist
import Derived.Test.YtgfepdfamhnppaaQ5Holes
import Derived.Test.YtgfepdfamhnppaaQUp
import Derived.Test.YtgfepdfamhnppaaQLoop
import Derived.Test.YtgfepdfamhnppaaQAll
import Derived.Test.YtgfepdfamhnppaaGiDistances
namespace Go.Proofs.Ytgfepdfamhnppaa.Q5Distances
set_option linter.unusedVariables false
set_option linter.unusedSimpArgs false
open Go.RowKit
open Go.Proofs.Ytgfepdfamhnppaa.GoP Go.Proofs.Ytgfepdfamhnppaa.PlainStamp Go.Proofs.Ytgfepdfamhnppaa.QBase Go.Proofs.Ytgfepdfamhnppaa.Q5Dist Go.Proofs.Ytgfepdfamhnppaa.Q5Holes Go.Proofs.Ytgfepdfamhnppaa.QUp Go.Proofs.Ytgfepdfamhnppaa.QLoop Go.Proofs.Ytgfepdfamhnppaa.QAll

theorem distances_eq {l : List Int} (h : holesB l = true) {fuel : Nat} (hf : 1048577 ≤ fuel) : GiDistances.P fuel l = some (dist l) := by
  have hn := holes_len h
  simp only [GiDistances.P]
  refine lp_is (n := l.length - 1) _ (fun k s => s = ((List.range k).map (dAt l), (k : Int) + 1)) ?_ ?_ fuel 0 _ (by omega) (by omega) (by simp)
  · rintro k s nx hk rfl hnx
    obtain ⟨x, y, hy, hx, hw⟩ := two_at h hk
    have ht : decide ((k : Int) + 1 < (l.length : Int)) = true := by simp; omega
    simp only [GiDistances.l0, unp2, letK, ht, iteK_if, if_true, hy, hx, hw, Option.bind_some, appK]
    rw [guardK_pos (by simp; omega), wrap_in (by omega) (by omega)]
    exact hnx _ (by rw [List.range_succ, List.map_append]; simp)
  · rintro s nx rfl
    have ht : decide (((l.length - 1 : Nat) : Int) + 1 < (l.length : Int)) = false := by simp; omega
    simp only [GiDistances.l0, unp2, letK, ht, iteK_if, appK, GiDistances.e0]
    simp [dist]
end Go.Proofs.Ytgfepdfamhnppaa.Q5Distances
