/- How an array of one-cell elements that comes in as data is opened. No condition. -/
import Derived.Test.YtihibckijdfidaaChecked
import Derived.Lib.SmallJoins
import Derived.Deep.Slices
import Derived.Deep.Fields
import Derived.ChangeSame
import Derived.OpenShut
namespace Go.Proofs.Ytihibckijdfidaa.OpenArr
set_option linter.unusedVariables false
open Go.Joins Go.ChangeShapes Go.WideShapes Go.RowKit Go.Deep

section
variable {H : Type} {enc : TypeId × Value → H} {P : Program} {w : World} {base : Nat} {spare : Nat → Bool} {held : Bool}
/-- an array that comes in reads as its cells do -/
theorem agg_arr {r : Reach} {b0 : Nat} {t e : TypeId} {k : Nat} {v : Value} {d : DataW H} {p : List MemPlace} (hs : P.underlying t = some (.array k e)) (hv : Value.okWide P w r b0 t v) (h : DataW.Trod enc P w base spare held t v d p) :
    ∃ (cs : Array Value) (n : Nat) (x : DataW H × List MemPlace), v = .agg cs ∧ DataW.trod enc P w base spare held n t cs.toList = some x := by
  simp only [Value.okWide, hs] at hv
  obtain ⟨cs, rfl, _⟩ := hv
  obtain ⟨fuel, hf⟩ := h
  exact ⟨cs, fuel, _, rfl, hf⟩
/-- each element reads on its own -/
theorem read_items {t e : TypeId} {k fuel : Nat} {cs : List Value} {x : DataW H × List MemPlace} (hs : P.underlying t = some (.array k e)) (h1 : P.cellsOf e = 1) (hC : P.cellsOf t = k)
    (h : DataW.trod enc P w base spare held fuel t cs = some x) :
    cs.length = P.cellsOf t ∧ ∀ (j : Nat), j < k → ∃ (u : Value) (n : Nat) (y : DataW H × List MemPlace), cs[j]? = some u ∧ DataW.trod enc P w base spare held n e [u] = some y := by
  obtain ⟨xs, m, _, _, hlen, hxl, hg⟩ := DataW.trod_array hs h
  refine ⟨hlen, fun j hj => ?_⟩
  have h2 := hg j hj
  rw [h1, Nat.mul_one, List.getElem?_eq_getElem (by omega : j < xs.length)] at h2
  have hc : j < cs.length := by omega
  rw [List.drop_eq_getElem_cons hc] at h2
  exact ⟨cs[j], m, _, List.getElem?_eq_getElem hc, h2⟩
end
end Go.Proofs.Ytihibckijdfidaa.OpenArr
