/- Chapter 5: combs, holes, gauges: the plain functions of the program and of the reference agree, and the laws answer true. (Q5Are) No condition but those of each theorem. -/
import Derived.Test.YtdgbigkcophjoaaQ5Comb
import Derived.Test.YtdgbigkcophjoaaQLoop
import Derived.Test.YtdgbigkcophjoaaPComb
import Derived.Test.YtdgbigkcophjoaaGiAreCombs
import Derived.Test.YtdgbigkcophjoaaGsAreCombs
namespace Go.Proofs.Ytdgbigkcophjoaa.Q5Are
set_option linter.unusedVariables false
set_option linter.unusedSimpArgs false
open Go.RowKit
open Go.Proofs.Ytdgbigkcophjoaa.GoP Go.Proofs.Ytdgbigkcophjoaa.PlainStamp Go.Proofs.Ytdgbigkcophjoaa.QBase Go.Proofs.Ytdgbigkcophjoaa.Q5Comb Go.Proofs.Ytdgbigkcophjoaa.QLoop Go.Proofs.Ytdgbigkcophjoaa.PComb

theorem are_spec (l : List Comb) (hl : l.length ≤ 9223372036854775807) : GsAreCombs.P l = some (okCos l) := by simp only [GsAreCombs.P, l5Good_eq l hl, Option.bind_some]
end Go.Proofs.Ytdgbigkcophjoaa.Q5Are
