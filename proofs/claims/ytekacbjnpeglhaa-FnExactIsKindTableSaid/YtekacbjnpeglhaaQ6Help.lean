/- Chapter 6: tables of kinds: the plain functions of the program and of the reference agree, and the laws answer true. (Q6Help) No condition but those of each theorem. -/
import Derived.Test.YtekacbjnpeglhaaQLoop
import Derived.Test.YtekacbjnpeglhaaQAll
import Derived.Test.YtekacbjnpeglhaaPBan
import Derived.Test.YtekacbjnpeglhaaQInt
import Derived.Test.YtekacbjnpeglhaaQToI
import Derived.Test.YtekacbjnpeglhaaQHBanE
import Derived.Test.YtekacbjnpeglhaaPKindTable
import Derived.Test.YtekacbjnpeglhaaGoRKindTable
import Derived.Test.YtekacbjnpeglhaaGlSzKindTable
import Derived.Test.YtekacbjnpeglhaaGlToKindTable
import Derived.Test.YtekacbjnpeglhaaGlEqKindTable
namespace Go.Proofs.Ytekacbjnpeglhaa.Q6Help
set_option linter.unusedVariables false
set_option linter.unusedSimpArgs false
open Go.RowKit
open Go.Proofs.Ytekacbjnpeglhaa.GoP Go.Proofs.Ytekacbjnpeglhaa.PlainStamp Go.Proofs.Ytekacbjnpeglhaa.QBase Go.Proofs.Ytekacbjnpeglhaa.QLoop Go.Proofs.Ytekacbjnpeglhaa.QAll Go.Proofs.Ytekacbjnpeglhaa.PBan Go.Proofs.Ytekacbjnpeglhaa.QInt Go.Proofs.Ytekacbjnpeglhaa.QToI Go.Proofs.Ytekacbjnpeglhaa.QHBanE

theorem szT (s : List Int) (l : List Ban) (hs : s.length ≤ 9223372036854775807) (hl : l.length ≤ 9223372036854775807) : ∃ c, GlSzKindTable.P s l 1048576 = some c ∧ (0 ≤ c → s.length ≤ 1048576 ∧ l.length ≤ 1048576) := by
  simp only [GlSzKindTable.P, GlSzIntS.P, GlSzBanS.P, letK, iteK_if]
  rw [wrap_in (x := 1048576 - (s.length : Int)) (by omega) (by omega)]
  by_cases h : (1048576 - (s.length : Int)) < 0
  · exact ⟨-1, by simp [h], by omega⟩
  · rw [if_neg (by simpa using h)]
    simp only [Option.bind_some]
    rw [if_neg (by simpa using h), wrap_in (by omega) (by omega)]
    by_cases h2 : (1048576 - (s.length : Int) - (l.length : Int)) < 0
    · exact ⟨-1, by simp [h2], by omega⟩
    · exact ⟨_, by rw [if_neg (by simpa using h2)]; simp only [Option.bind_some]; rw [if_neg (by simpa using h2)], by omega⟩
theorem toT (s : List Int) (l : List Ban) (hs : s.length ≤ 1048576) (hl : l.length ≤ 1048576) : GlToKindTable.P s l = some ⟨s, l⟩ := by
  simp only [GlToKindTable.P, toI s hs, toS l hl, Option.bind_some]
theorem eqT (s : List Int) (l : List Ban) : GlEqKindTable.P s l s l = some true := by
  simp [GlEqKindTable.P, eqI, eqS, letK, iteK_if]
end Go.Proofs.Ytekacbjnpeglhaa.Q6Help
