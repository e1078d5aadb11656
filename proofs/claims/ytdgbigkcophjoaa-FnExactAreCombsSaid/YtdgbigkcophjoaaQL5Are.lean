/- Chapter 5: combs, holes, gauges: the plain functions of the program and of the reference agree, and the laws answer true. (QL5Are) No condition but those of each theorem. -/
import Derived.Test.YtdgbigkcophjoaaQ5Are
import Derived.Test.YtdgbigkcophjoaaQ5Comb
import Derived.Test.YtdgbigkcophjoaaQLoop
import Derived.Test.YtdgbigkcophjoaaPComb
import Derived.Test.YtdgbigkcophjoaaQHCombE
import Derived.Test.YtdgbigkcophjoaaGlFnExactAreCombs
namespace Go.Proofs.Ytdgbigkcophjoaa.QL5Are
set_option linter.unusedVariables false
set_option linter.unusedSimpArgs false
open Go.RowKit
open Go.Proofs.Ytdgbigkcophjoaa.GoP Go.Proofs.Ytdgbigkcophjoaa.PlainStamp Go.Proofs.Ytdgbigkcophjoaa.QBase Go.Proofs.Ytdgbigkcophjoaa.Q5Are Go.Proofs.Ytdgbigkcophjoaa.Q5Comb Go.Proofs.Ytdgbigkcophjoaa.QLoop Go.Proofs.Ytdgbigkcophjoaa.PComb Go.Proofs.Ytdgbigkcophjoaa.QHCombE

theorem law_areCombs (l : List Comb) (hl : l.length ≤ 9223372036854775807) : GlFnExactAreCombs.P l = some true := by
  simp only [GlFnExactAreCombs.P, szS l hl, Option.bind_some, letK, iteK_if]
  by_cases hb : l.length ≤ 1048576
  · have hv : ¬ (1048576 - (l.length : Int) < 0) := by omega
    simp [hb, hv, toS l hb, are_spec l hl, areCombs_eq, eqS]
  · simp [hb]
end Go.Proofs.Ytdgbigkcophjoaa.QL5Are
