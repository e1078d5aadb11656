/- Chapter 5: combs, holes, gauges: the plain functions of the program and of the reference agree, and the laws answer true. (Q5Are) No condition but those of each theorem. -/
import Derived.Test.YtgfepdfamhnppaaQ5Comb
import Derived.Test.YtgfepdfamhnppaaQLoop
import Derived.Test.YtgfepdfamhnppaaPComb
import Derived.Test.YtgfepdfamhnppaaQHCombE
import Derived.Test.YtgfepdfamhnppaaGlFnExactAreCombs
namespace Go.Proofs.Ytgfepdfamhnppaa.Q5Are
set_option linter.unusedVariables false
set_option linter.unusedSimpArgs false
open Go.RowKit
open Go.Proofs.Ytgfepdfamhnppaa.GoP Go.Proofs.Ytgfepdfamhnppaa.PlainStamp Go.Proofs.Ytgfepdfamhnppaa.QBase Go.Proofs.Ytgfepdfamhnppaa.Q5Comb Go.Proofs.Ytgfepdfamhnppaa.QLoop Go.Proofs.Ytgfepdfamhnppaa.PComb Go.Proofs.Ytgfepdfamhnppaa.QHCombE

theorem are_spec (l : List Comb) (hl : l.length ≤ 9223372036854775807) : GsAreCombs.P l = some (okCos l) := by simp only [GsAreCombs.P, l5Good_eq l hl, Option.bind_some]
theorem law_areCombs (l : List Comb) (hl : l.length ≤ 9223372036854775807) : GlFnExactAreCombs.P l = some true := by
  simp only [GlFnExactAreCombs.P, szS l hl, Option.bind_some, letK, iteK_if]
  by_cases hb : l.length ≤ 1048576
  · have hv : ¬ (1048576 - (l.length : Int) < 0) := by omega
    simp [hb, hv, toS l hb, are_spec l hl, areCombs_eq, eqS]
  · simp [hb]
end Go.Proofs.Ytgfepdfamhnppaa.Q5Are
