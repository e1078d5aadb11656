/- Texts of gauges and combs: the plain functions of the program and of the reference agree, and the laws answer true. (Q5GaugeText) No condition but those of each theorem. -/
import Derived.Test.YtgfepdfamhnppaaDoorQ5GText
import Derived.Test.YtgfepdfamhnppaaDoorQText
import Derived.Test.YtgfepdfamhnppaaDoorQNum
import Derived.Test.YtgfepdfamhnppaaDoorPlainFace
import Derived.Test.YtgfepdfamhnppaaDoorGlFnExactGaugeText
namespace Go.Proofs.YtgfepdfamhnppaaDoor.Q5GaugeText
set_option linter.unusedVariables false
set_option linter.unusedSimpArgs false
open Go.RowKit
open Go.Proofs.YtgfepdfamhnppaaDoor.GoP Go.Proofs.YtgfepdfamhnppaaDoor.PlainStamp Go.Proofs.YtgfepdfamhnppaaDoor.QBase Go.Proofs.YtgfepdfamhnppaaDoor.Q5GText Go.Proofs.YtgfepdfamhnppaaDoor.QText Go.Proofs.YtgfepdfamhnppaaDoor.QNum Go.Proofs.YtgfepdfamhnppaaDoor.PlainFace

theorem law_gaugeText (g : Int) : GlFnExactGaugeText.P g = some true := by
  have hs : GsGaugeText.P g = some (if inB g 500 2000 = true then (str (gL g), true) else (⟨#[]⟩, false)) := by
    simp only [GsGaugeText.P, GsL5Gauge.P, l1In_eq, Option.bind_some, letK, iteK_if]
    cases hg : inB g 500 2000 with
    | false => simp
    | true => obtain ⟨h0, h⟩ := inB_of hg; simp [text_spec h0 h]
  simp only [GlFnExactGaugeText.P, hs, gauge_impl, letK, joinK, appK, iteK_if]
  cases inB g 500 2000 <;> simp [bind2]
end Go.Proofs.YtgfepdfamhnppaaDoor.Q5GaugeText
