/- Chapter 5: combs, holes, gauges: the plain functions of the program and of the reference agree, and the laws answer true. (QL5Match) No condition but those of each theorem. -/
import Derived.Test.YtdgbigkcophjoaaQ5Match
import Derived.Test.YtdgbigkcophjoaaQ5Ask
import Derived.Test.YtdgbigkcophjoaaQ5Comb
import Derived.Test.YtdgbigkcophjoaaQLoop
import Derived.Test.YtdgbigkcophjoaaQInt
import Derived.Test.YtdgbigkcophjoaaPComb
import Derived.Test.YtdgbigkcophjoaaQHComb
import Derived.Test.YtdgbigkcophjoaaQHCombE
import Derived.Test.YtdgbigkcophjoaaGlFnExactMatchCombs
namespace Go.Proofs.Ytdgbigkcophjoaa.QL5Match
set_option linter.unusedVariables false
set_option linter.unusedSimpArgs false
open Go.RowKit
open Go.Proofs.Ytdgbigkcophjoaa.GoP Go.Proofs.Ytdgbigkcophjoaa.PlainStamp Go.Proofs.Ytdgbigkcophjoaa.QBase Go.Proofs.Ytdgbigkcophjoaa.Q5Match Go.Proofs.Ytdgbigkcophjoaa.Q5Ask Go.Proofs.Ytdgbigkcophjoaa.Q5Comb Go.Proofs.Ytdgbigkcophjoaa.QLoop Go.Proofs.Ytdgbigkcophjoaa.QInt Go.Proofs.Ytdgbigkcophjoaa.PComb Go.Proofs.Ytdgbigkcophjoaa.QHComb Go.Proofs.Ytdgbigkcophjoaa.QHCombE

theorem law_match (l : List Comb) (w h o : Int) (hl : l.length ≤ 9223372036854775807) : GlFnExactMatchCombs.P l w h o = some true := by
  simp only [GlFnExactMatchCombs.P, szS l hl, Option.bind_some, letK, iteK_if]
  by_cases hb : l.length ≤ 1048576
  · have hv : ¬ (1048576 - (l.length : Int) < 0) := by omega
    obtain ⟨⟨a, b⟩, hr⟩ : ∃ x, x = matchRes l w h o := ⟨_, rfl⟩
    have hlen : a.length ≤ 1099511627776 := by have := matchRes_len l w h o; rw [← hr] at this; dsimp only at this; omega
    obtain ⟨v2, l2, hm, hv2⟩ := markS l hb
    have hv3 : ¬ v2 < 0 := by omega
    have hv4 : ¬ (a.length : Int) + 1 < 0 := by omega
    simp [hb, hv, toS l hb, match_spec l w h o hl, match_impl l w h o, ← hr, bind2, joinK, appK, iteK_if, eqS, eqI, hm, hv3, markI a hlen, heldI a.length hlen, hv4]
  · simp [hb]
end Go.Proofs.Ytdgbigkcophjoaa.QL5Match
