/- IsStamp: the law's plain function answers true. No condition. -/
import Derived.Test.YtfbdaedoofkcbaaQBase
import Derived.Test.YtfbdaedoofkcbaaGlFnExactIsStamp
namespace Go.Proofs.Ytfbdaedoofkcbaa.QIsStamp
set_option linter.unusedVariables false
set_option linter.unusedSimpArgs false
open Go.RowKit
open Go.Proofs.Ytfbdaedoofkcbaa.GoP Go.Proofs.Ytfbdaedoofkcbaa.PlainStamp Go.Proofs.Ytfbdaedoofkcbaa.QBase
theorem isStamp (s : St) : GlFnExactIsStamp.P s = some true := by
  obtain ⟨a, b, c, d⟩ := s
  simp only [GlFnExactIsStamp.P, GlToStamp.P, GsIsStamp.P, GiIsStamp.P, GsL2Stamp.P, GsL2Year.P, unStamp, within_eq, l1In_eq, Option.bind_some, letK, joinK, appK, iteK_if]
  cases inB a 1 999 <;> cases inB b 0 9999 <;> cases inB c 0 99 <;> simp
end Go.Proofs.Ytfbdaedoofkcbaa.QIsStamp
