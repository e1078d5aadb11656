/- Chapter 5: combs, holes, gauges: the plain functions of the program and of the reference agree, and the laws answer true. (Q5Match) No condition but those of each theorem. -/
import Derived.Test.YtdgbigkcophjoaaQ5Ask
import Derived.Test.YtdgbigkcophjoaaQ5Comb
import Derived.Test.YtdgbigkcophjoaaQLoop
import Derived.Test.YtdgbigkcophjoaaQGath
import Derived.Test.YtdgbigkcophjoaaPComb
import Derived.Test.YtdgbigkcophjoaaGiMatchCombs
import Derived.Test.YtdgbigkcophjoaaGsMatchCombs
namespace Go.Proofs.Ytdgbigkcophjoaa.Q5Match
set_option linter.unusedVariables false
set_option linter.unusedSimpArgs false
open Go.RowKit
open Go.Proofs.Ytdgbigkcophjoaa.GoP Go.Proofs.Ytdgbigkcophjoaa.PlainStamp Go.Proofs.Ytdgbigkcophjoaa.QBase Go.Proofs.Ytdgbigkcophjoaa.Q5Ask Go.Proofs.Ytdgbigkcophjoaa.Q5Comb Go.Proofs.Ytdgbigkcophjoaa.QLoop Go.Proofs.Ytdgbigkcophjoaa.QGath Go.Proofs.Ytdgbigkcophjoaa.PComb

def matchRes (l : List Comb) (w h o : Int) : List Int × Bool := if askB l w h o = true then ((l.filter (matchB w h o)).map Comb.id, true) else ([], false)
theorem match_impl (l : List Comb) (w h o : Int) : GiMatchCombs.P l w h o = some (matchRes l w h o) := by
  simp only [GiMatchCombs.P, canMatch_eq, Option.bind_some, letK, iteK_if, matchRes]
  cases ha : askB l w h o with
  | false => simp
  | true =>
    obtain ⟨h1, hw, hh, ho⟩ := ask_of ha
    simp only [Bool.not_true, Bool.false_eq_true, if_false, if_true, GiKeysWhereCombIntiIdOfCombiMatchCombs1.P]
    rw [gather (p := matchB w h o) (g := Comb.id) (by omega)]
    · simp [GiKeysWhereCombIntiIdOfCombiMatchCombs1.e0, letK]
    · intro k nx x s hx hs
      have hi : idx l (k : Int) = some x := by rw [idx_nat, hx]
      simp only [GiKeysWhereCombIntiIdOfCombiMatchCombs1.l0, hi, Option.bind_some, unComb, GiMatchCombs1.P, matches_eq _ hw hh ho, GiIdOfComb.P, letK, joinK, appK, iteK_if]
      rw [guardK_pos hs]
      cases matchB w h o x <;> simp
theorem match_spec (l : List Comb) (w h o : Int) (hl : l.length ≤ 9223372036854775807) : GsMatchCombs.P l w h o = some (matchRes l w h o) := by
  simp only [GsMatchCombs.P, asked_eq l w h o hl, Option.bind_some, letK, iteK_if, matchRes]
  cases ha : askB l w h o with
  | false => simp
  | true =>
    obtain ⟨h1, hw, hh, ho⟩ := ask_of ha
    simp only [Bool.not_true, Bool.false_eq_true, if_false, if_true]
    rw [gather (p := matchB w h o) (g := Comb.id) (by omega)]
    · simp [GsMatchCombs.e0, letK]
    · intro k nx x s hx hs
      have hi : idx l (k : Int) = some x := by rw [idx_nat, hx]
      simp only [GsMatchCombs.l0, hi, Option.bind_some, unComb, l5Match_eq _ hw hh ho, letK, joinK, appK, iteK_if]
      rw [guardK_pos hs]
      cases matchB w h o x <;> simp
theorem matchRes_len (l : List Comb) (w h o : Int) : (matchRes l w h o).1.length ≤ l.length := by
  unfold matchRes
  split
  · rw [List.length_map]; exact List.length_filter_le _ _
  · simp
end Go.Proofs.Ytdgbigkcophjoaa.Q5Match
