/- Texts on which the proofs of several laws stand, one behind the other (16 of 24). No condition of their own. -/
import Derived.Test.YtihibckijdfidaaX12P11
import Derived.Test.YtihibckijdfidaaX12P1
import Derived.Test.YtihibckijdfidaaX12P2
import Derived.Test.YtihibckijdfidaaX12P15
set_option linter.unusedVariables false
set_option linter.unusedSimpArgs false
namespace Go.Proofs.Ytihibckijdfidaa.QL12Make
open Go.RowKit
open Go.Proofs.Ytihibckijdfidaa.GoP Go.Proofs.Ytihibckijdfidaa.PlainStamp Go.Proofs.Ytihibckijdfidaa.QBase Go.Proofs.Ytihibckijdfidaa.Q12All Go.Proofs.Ytihibckijdfidaa.Q12One Go.Proofs.Ytihibckijdfidaa.QLoop Go.Proofs.Ytihibckijdfidaa.PCover Go.Proofs.Ytihibckijdfidaa.PRate Go.Proofs.Ytihibckijdfidaa.QHRateE

theorem law_make {fuel : Nat} (rs : List Rate) (x : Cover) (c_ : Int) (hr : rs.length ≤ 9223372036854775807) (hf : 100 < fuel) : GlFnExactMakeCover.P fuel rs x c_ = some true := by
  have ht := toC x
  obtain ⟨⟨p, q⟩, hs⟩ : ∃ y, y = makeRes rs x c_ := ⟨_, rfl⟩
  have e1 := makeCover_impl rs x c_ hr
  have e2 := makeCover_spec (fuel := fuel) rs x c_ hr hf
  have e3 := eqCv p
  rw [← hs] at e1 e2
  obtain ⟨a, b, c, d, e, f, g, h, i⟩ := x
  simp only [GlFnExactMakeCover.P, unCover, szS rs hr, Option.bind_some, letK, iteK_if]
  by_cases h1 : rs.length ≤ 1048576
  · rw [if_neg (by rw [if_pos h1]; simp; omega)]
    simp [ht, toS rs h1, e1, e2, e3, bind2, joinK, appK, iteK_if, eqS]
  · rw [if_pos (by rw [if_neg h1]; simp)]
end Go.Proofs.Ytihibckijdfidaa.QL12Make

