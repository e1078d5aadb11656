/- Chapter 5: combs, holes, gauges: the plain functions of the program and of the reference agree, and the laws answer true. (Q5On) No condition but those of each theorem. -/
import Derived.Test.YtgfepdfamhnppaaQ5Gauge
import Derived.Test.YtgfepdfamhnppaaQLoop
import Derived.Test.YtgfepdfamhnppaaGlFnExactHolesOn
namespace Go.Proofs.Ytgfepdfamhnppaa.Q5On
set_option linter.unusedVariables false
set_option linter.unusedSimpArgs false
open Go.RowKit
open Go.Proofs.Ytgfepdfamhnppaa.GoP Go.Proofs.Ytgfepdfamhnppaa.PlainStamp Go.Proofs.Ytgfepdfamhnppaa.QBase Go.Proofs.Ytgfepdfamhnppaa.Q5Gauge Go.Proofs.Ytgfepdfamhnppaa.QLoop

theorem on_same (n g : Int) : GiHolesOn.P n g = GsHolesOn.P n g := by
  simp only [GiHolesOn.P, GsHolesOn.P, within_eq, l1In_eq, isGauge_eq, l5Gauge_eq, Option.bind_some]
theorem on_some (n g : Int) : ∃ a b, GsHolesOn.P n g = some (a, b) := by
  simp only [GsHolesOn.P, l1In_eq, l5Gauge_eq, Option.bind_some, letK, joinK, appK, iteK_if]
  cases inB n 500 9999 <;> cases inB g 500 2000 <;> simp
theorem law_on (n g : Int) : GlFnExactHolesOn.P n g = some true := by
  obtain ⟨a, b, h⟩ := on_some n g
  simp [GlFnExactHolesOn.P, on_same, h, bind2, letK, joinK, appK, iteK_if]
end Go.Proofs.Ytgfepdfamhnppaa.Q5On
