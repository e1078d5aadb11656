/- Texts on which the proofs of several laws stand, one behind the other (19 of 24). No condition of their own. -/
import Derived.Test.YtihibckijdfidaaX12P13
import Derived.Test.YtihibckijdfidaaX12P11
import Derived.Test.YtihibckijdfidaaX12P1
import Derived.Test.YtihibckijdfidaaX12P2
import Derived.Test.YtihibckijdfidaaX12P18
set_option linter.unusedVariables false
set_option linter.unusedSimpArgs false
namespace Go.Proofs.Ytihibckijdfidaa.QL12Least
open Go.RowKit
open Go.Proofs.Ytihibckijdfidaa.GoP Go.Proofs.Ytihibckijdfidaa.PlainStamp Go.Proofs.Ytihibckijdfidaa.QBase Go.Proofs.Ytihibckijdfidaa.Q12Least Go.Proofs.Ytihibckijdfidaa.Q12All Go.Proofs.Ytihibckijdfidaa.Q12One Go.Proofs.Ytihibckijdfidaa.QLoop Go.Proofs.Ytihibckijdfidaa.PCover Go.Proofs.Ytihibckijdfidaa.PRate Go.Proofs.Ytihibckijdfidaa.QHRateE

theorem law_least {fuel : Nat} (rs : List Rate) (x : Cover) (hr : rs.length ≤ 9223372036854775807) (hf : 100 < fuel) : GlFnExactLeastChange.P fuel rs x = some true := by
  have ht := toC x
  obtain ⟨⟨p, q, r⟩, hs⟩ : ∃ y, y = leastRes rs x := ⟨_, rfl⟩
  have e1 := least_impl (fuel := fuel) rs x hr hf
  have e2 := least_spec (fuel := fuel) rs x hr hf
  have e3 := eqCv q
  rw [← hs] at e1 e2
  obtain ⟨a, b, c, d, e, f, g, h, i⟩ := x
  simp only [GlFnExactLeastChange.P, unCover, szS rs hr, Option.bind_some, letK, iteK_if]
  by_cases h1 : rs.length ≤ 1048576
  · rw [if_neg (by rw [if_pos h1]; simp; omega)]
    simp [ht, toS rs h1, e1, e2, e3, bind3, joinK, appK, iteK_if, eqS]
  · rw [if_pos (by rw [if_neg h1]; simp)]
end Go.Proofs.Ytihibckijdfidaa.QL12Least

