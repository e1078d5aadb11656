/- IsSheet and IsBlock: the laws' plain functions answer true. Condition: the strings that come in are strings. -/
import Derived.Test.YtfbdaedoofkcbaaQSheet
import Derived.Test.YtfbdaedoofkcbaaGlFnExactIsSheet
import Derived.Test.YtfbdaedoofkcbaaGlFnExactIsBlock
namespace Go.Proofs.Ytfbdaedoofkcbaa.QSheetLaws
set_option linter.unusedVariables false
set_option linter.unusedSimpArgs false
open Go.RowKit
open Go.Proofs.Ytfbdaedoofkcbaa.GoP Go.Proofs.Ytfbdaedoofkcbaa.QBase Go.Proofs.Ytfbdaedoofkcbaa.QLoop Go.Proofs.Ytfbdaedoofkcbaa.QStrs Go.Proofs.Ytfbdaedoofkcbaa.QSheet

theorem szB (l : List ByteArray) (left : Int) (h0 : 0 ≤ left) (h1 : left ≤ 1048576) (hf : ∀ s ∈ l, s.size ≤ maxLen) (hl : l.length ≤ 9223372036854775807) :
    ∃ v, GlSzBlock.P l left = some v ∧ v ≤ 1048576 ∧ (0 ≤ v → l.length ≤ 1048576 ∧ ∀ s ∈ l, s.size ≤ 1048576) := by
  obtain ⟨v, e, h2, h3⟩ := szS l left h0 h1 hf hl
  simp only [GlSzBlock.P, e, Option.bind_some, letK, iteK_if]
  by_cases hv : v < 0
  · exact ⟨-1, by simp [hv], by omega, by omega⟩
  · exact ⟨v, by simp [hv], h2, h3⟩
theorem toB (l : List ByteArray) (hl : l.length ≤ 1048576) : GlToBlock.P l = some (PBlock.Block.mk l) := by simp only [GlToBlock.P, toS l hl, Option.bind_some]
theorem eqB (l : List ByteArray) : GlEqBlock.P l l = some true := by simp [GlEqBlock.P, eqS, letK, iteK_if]
theorem isSheet (l : List ByteArray) (hf : ∀ s ∈ l, s.size ≤ maxLen) (hl : l.length ≤ 9223372036854775807) : GlFnExactIsSheet.P 1048577 l = some true := by
  obtain ⟨v, e, h2, h3⟩ := szS l 1048576 (by omega) (by omega) hf hl
  simp only [GlFnExactIsSheet.P, e, Option.bind_some, letK, iteK_if]
  by_cases hv : v < 0
  · simp [hv]
  · obtain ⟨h4, h5⟩ := h3 (by omega)
    simp only [hv, decide_false, Bool.false_eq_true, if_false, toS l h4, eqS l, Option.bind_some, GsIsSheet.P, GiIsSheet.P, impl_eq l 5 h5, spec_eq l 5 1048577 (by omega) h5]
    simp
theorem isBlock (l : List ByteArray) (hf : ∀ s ∈ l, s.size ≤ maxLen) (hl : l.length ≤ 9223372036854775807) : GlFnExactIsBlock.P 1048577 l = some true := by
  obtain ⟨v, e, h2, h3⟩ := szB l 1048576 (by omega) (by omega) hf hl
  simp only [GlFnExactIsBlock.P, e, Option.bind_some, letK, iteK_if]
  by_cases hv : v < 0
  · simp [hv]
  · obtain ⟨h4, h5⟩ := h3 (by omega)
    simp only [hv, decide_false, Bool.false_eq_true, if_false, toB l h4, unBlock, eqB l, Option.bind_some, GsIsBlock.P, GiIsBlock.P, impl_eq l 3 h5, spec_eq l 3 1048577 (by omega) h5]
    simp
end Go.Proofs.Ytfbdaedoofkcbaa.QSheetLaws
