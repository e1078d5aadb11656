/- Chapter 5: combs, holes, gauges: the plain functions of the program and of the reference agree, and the laws answer true. (Q5Gauge) No condition but those of each theorem. -/
import Derived.Test.YtdgbigkcophjoaaQLoop
import Derived.Test.YtdgbigkcophjoaaGiIsGauge
import Derived.Test.YtdgbigkcophjoaaGsL5Gauge
namespace Go.Proofs.Ytdgbigkcophjoaa.Q5Gauge
set_option linter.unusedVariables false
set_option linter.unusedSimpArgs false
open Go.RowKit
open Go.Proofs.Ytdgbigkcophjoaa.GoP Go.Proofs.Ytdgbigkcophjoaa.PlainStamp Go.Proofs.Ytdgbigkcophjoaa.QBase Go.Proofs.Ytdgbigkcophjoaa.QLoop

theorem isGauge_eq (g : Int) : GiIsGauge.P g = some (inB g 500 2000) := by simp only [GiIsGauge.P, within_eq, Option.bind_some]
theorem l5Gauge_eq (g : Int) : GsL5Gauge.P g = some (inB g 500 2000) := by simp only [GsL5Gauge.P, l1In_eq, Option.bind_some]
end Go.Proofs.Ytdgbigkcophjoaa.Q5Gauge
