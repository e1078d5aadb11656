/- Combs of the same gauges: the plain functions of the program and of the reference agree, and the law answers true. (QL5Same) No condition but those of each theorem. -/
import Derived.Test.YtdgbigkcophjoaaQ5Same
import Derived.Test.YtdgbigkcophjoaaQ5Comb
import Derived.Test.YtdgbigkcophjoaaQLoop
import Derived.Test.YtdgbigkcophjoaaPComb
import Derived.Test.YtdgbigkcophjoaaQHSS
import Derived.Test.YtdgbigkcophjoaaQHCombE
import Derived.Test.YtdgbigkcophjoaaQHComb
import Derived.Test.YtdgbigkcophjoaaGlFnExactSameGauges
namespace Go.Proofs.Ytdgbigkcophjoaa.QL5Same
set_option linter.unusedVariables false
set_option linter.unusedSimpArgs false
open Go.RowKit
open Go.Proofs.Ytdgbigkcophjoaa.GoP Go.Proofs.Ytdgbigkcophjoaa.PlainStamp Go.Proofs.Ytdgbigkcophjoaa.QBase Go.Proofs.Ytdgbigkcophjoaa.Q5Same Go.Proofs.Ytdgbigkcophjoaa.Q5Comb Go.Proofs.Ytdgbigkcophjoaa.QLoop Go.Proofs.Ytdgbigkcophjoaa.PComb Go.Proofs.Ytdgbigkcophjoaa.QHSS Go.Proofs.Ytdgbigkcophjoaa.QHCombE Go.Proofs.Ytdgbigkcophjoaa.QHComb

theorem law_same (l : List Comb) (hl : l.length ≤ 9223372036854775807) : GlFnExactSameGauges.P l = some true := by
  simp only [GlFnExactSameGauges.P, szS l hl, Option.bind_some, letK, iteK_if]
  by_cases hb : l.length ≤ 1048576
  · have hv : ¬ (1048576 - (l.length : Int) < 0) := by omega
    obtain ⟨⟨a, b⟩, hr, ha, hal⟩ : ∃ x : List (List Int) × Bool, x = (if okCos l = true then (gs l l.length, true) else ([], false)) ∧ (∀ row ∈ x.1, row.length ≤ 1000) ∧ x.1.length ≤ 1000 := by
      refine ⟨_, rfl, ?_⟩
      cases h : okCos l with
      | false => simp
      | true =>
        have hl10 : l.length ≤ 10 := upL_len h
        have h1 := gs_len l l.length
        refine ⟨fun row hr => ?_, ?_⟩
        · have := gs_rows l l.length row (by simpa using hr); omega
        · show (gs l l.length).length ≤ 1000; omega
    dsimp only at ha hal
    obtain ⟨M, hM, hH⟩ := markSS a ha hal
    obtain ⟨v, l', hm, hv2⟩ := markS l hb
    have hv3 : ¬ v < 0 := by omega
    have e1 : ¬ ((st a a.length : Int) < 0) := by omega
    simp [hb, hv, toS l hb, same_spec l hl, same_impl l, ← hr, eqSS, eqS, hm, hv3, hM, hH, e1, bind2, joinK, appK, iteK_if]
  · simp [hb]
end Go.Proofs.Ytdgbigkcophjoaa.QL5Same
