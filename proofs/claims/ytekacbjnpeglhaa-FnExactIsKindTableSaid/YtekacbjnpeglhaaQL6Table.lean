/- Chapter 6: tables of kinds: the plain functions of the program and of the reference agree, and the laws answer true. (QL6Table) No condition but those of each theorem. -/
import Derived.Test.YtekacbjnpeglhaaQ6Tab
import Derived.Test.YtekacbjnpeglhaaQ6Help
import Derived.Test.YtekacbjnpeglhaaQLoop
import Derived.Test.YtekacbjnpeglhaaPBan
import Derived.Test.YtekacbjnpeglhaaGlFnExactIsKindTable
namespace Go.Proofs.Ytekacbjnpeglhaa.QL6Table
set_option linter.unusedVariables false
set_option linter.unusedSimpArgs false
open Go.RowKit
open Go.Proofs.Ytekacbjnpeglhaa.GoP Go.Proofs.Ytekacbjnpeglhaa.PlainStamp Go.Proofs.Ytekacbjnpeglhaa.QBase Go.Proofs.Ytekacbjnpeglhaa.Q6Tab Go.Proofs.Ytekacbjnpeglhaa.Q6Help Go.Proofs.Ytekacbjnpeglhaa.QLoop Go.Proofs.Ytekacbjnpeglhaa.PBan

theorem spec_table (fuel : Nat) (hf : 21 ≤ fuel) (s : List Int) (l : List Ban) (hs : s.length ≤ 9223372036854775807) (hl : l.length ≤ 9223372036854775807) : GsIsKindTable.P fuel s l = some (okT s l) := by
  simp only [GsIsKindTable.P, l6Good_eq fuel hf s l hs hl, Option.bind_some]
theorem law_table (fuel : Nat) (hf : 21 ≤ fuel) (s : List Int) (l : List Ban) (hs : s.length ≤ 9223372036854775807) (hl : l.length ≤ 9223372036854775807) : GlFnExactIsKindTable.P fuel s l = some true := by
  obtain ⟨c, hc, hb⟩ := szT s l hs hl
  simp only [GlFnExactIsKindTable.P, hc, Option.bind_some, letK, iteK_if]
  by_cases h : c < 0
  · simp [h]
  · obtain ⟨h1, h2⟩ := hb (by omega)
    simp [h, toT s l h1 h2, unKindTable, spec_table fuel hf s l hs hl, isTable_eq s l hs hl, eqT]
end Go.Proofs.Ytekacbjnpeglhaa.QL6Table
