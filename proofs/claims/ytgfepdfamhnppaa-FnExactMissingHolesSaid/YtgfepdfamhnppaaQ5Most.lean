/- Chapter 5: combs, holes, gauges: the plain functions of the program and of the reference agree, and the laws answer true. (Q5Most) No condition but those of each theorem. -/
import Derived.Test.YtgfepdfamhnppaaQLoop
import Derived.Test.YtgfepdfamhnppaaGsL1Most
namespace Go.Proofs.Ytgfepdfamhnppaa.Q5Most
set_option linter.unusedVariables false
set_option linter.unusedSimpArgs false
open Go.RowKit
open Go.Proofs.Ytgfepdfamhnppaa.GoP Go.Proofs.Ytgfepdfamhnppaa.PlainStamp Go.Proofs.Ytgfepdfamhnppaa.QBase Go.Proofs.Ytgfepdfamhnppaa.QLoop

theorem most_is (a b : Int) : GsL1Most.P a b = some (max a b) := by
  simp only [GsL1Most.P, letK, iteK_if]
  by_cases h : b < a
  · rw [if_pos (by simpa using h)]; congr 1; omega
  · rw [if_neg (by simpa using h)]; congr 1; omega
end Go.Proofs.Ytgfepdfamhnppaa.Q5Most
