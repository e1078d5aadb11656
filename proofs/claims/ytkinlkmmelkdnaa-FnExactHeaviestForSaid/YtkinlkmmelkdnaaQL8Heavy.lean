/- Chapter 8: rates: the plain functions of the program and of the reference agree, and the laws answer true. (QL8Heavy) No condition but those of each theorem. -/
import Derived.Test.YtkinlkmmelkdnaaQ8Heavy
import Derived.Test.YtkinlkmmelkdnaaQLoop
import Derived.Test.YtkinlkmmelkdnaaPRate
import Derived.Test.YtkinlkmmelkdnaaQHRateE
import Derived.Test.YtkinlkmmelkdnaaGlFnExactHeaviestFor
namespace Go.Proofs.Ytkinlkmmelkdnaa.QL8Heavy
set_option linter.unusedVariables false
set_option linter.unusedSimpArgs false
open Go.RowKit
open Go.Proofs.Ytkinlkmmelkdnaa.GoP Go.Proofs.Ytkinlkmmelkdnaa.PlainStamp Go.Proofs.Ytkinlkmmelkdnaa.QBase Go.Proofs.Ytkinlkmmelkdnaa.Q8Heavy Go.Proofs.Ytkinlkmmelkdnaa.QLoop Go.Proofs.Ytkinlkmmelkdnaa.PRate Go.Proofs.Ytkinlkmmelkdnaa.QHRateE

theorem law_heavy {fuel : Nat} (l : List Rate) (day zone cents : Int) (hl : l.length ≤ 9223372036854775807) (hf : 17 < fuel) : GlFnExactHeaviestFor.P fuel l day zone cents = some true := by
  simp only [GlFnExactHeaviestFor.P, szS l hl, Option.bind_some, letK, iteK_if]
  by_cases hb : l.length ≤ 1048576
  · rw [if_neg (by rw [if_pos hb]; simp; omega)]
    obtain ⟨⟨a, b⟩, hr⟩ : ∃ x, x = heavyRes l day zone cents := ⟨_, rfl⟩
    simp [toS l hb, heavy_spec l day zone cents hl hf, heavy_impl l day zone cents hl, ← hr, bind2, joinK, appK, iteK_if, eqS]
  · rw [if_pos (by rw [if_neg hb]; simp)]
end Go.Proofs.Ytkinlkmmelkdnaa.QL8Heavy
