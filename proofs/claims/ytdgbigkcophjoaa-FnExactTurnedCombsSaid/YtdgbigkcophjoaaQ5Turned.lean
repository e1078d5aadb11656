/- Chapter 5: combs, holes, gauges: the plain functions of the program and of the reference agree, and the laws answer true. (Q5Turned) No condition but those of each theorem. -/
import Derived.Test.YtdgbigkcophjoaaQ5Ask
import Derived.Test.YtdgbigkcophjoaaQ5Comb
import Derived.Test.YtdgbigkcophjoaaQLoop
import Derived.Test.YtdgbigkcophjoaaQGath
import Derived.Test.YtdgbigkcophjoaaPComb
import Derived.Test.YtdgbigkcophjoaaGiTurnedCombs
import Derived.Test.YtdgbigkcophjoaaGsTurnedCombs
namespace Go.Proofs.Ytdgbigkcophjoaa.Q5Turned
set_option linter.unusedVariables false
set_option linter.unusedSimpArgs false
open Go.RowKit
open Go.Proofs.Ytdgbigkcophjoaa.GoP Go.Proofs.Ytdgbigkcophjoaa.PlainStamp Go.Proofs.Ytdgbigkcophjoaa.QBase Go.Proofs.Ytdgbigkcophjoaa.Q5Ask Go.Proofs.Ytdgbigkcophjoaa.Q5Comb Go.Proofs.Ytdgbigkcophjoaa.QLoop Go.Proofs.Ytdgbigkcophjoaa.QGath Go.Proofs.Ytdgbigkcophjoaa.PComb

def turnB (w h o : Int) (x : Comb) : Bool := !matchB w h o x && matchB h w o x
def turnRes (l : List Comb) (w h o : Int) : List Int × Bool := if askB l w h o = true then ((l.filter (turnB w h o)).map Comb.id, true) else ([], false)
theorem turned_impl (l : List Comb) (w h o : Int) : GiTurnedCombs.P l w h o = some (turnRes l w h o) := by
  simp only [GiTurnedCombs.P, canMatch_eq, Option.bind_some, letK, iteK_if, turnRes]
  cases ha : askB l w h o with
  | false => simp
  | true =>
    obtain ⟨h1, hw, hh, ho⟩ := ask_of ha
    simp only [Bool.not_true, Bool.false_eq_true, if_false, if_true, GiKeysWhereCombIntiIdOfCombiTurnedCombs1.P]
    rw [gather (p := turnB w h o) (g := Comb.id) (by omega)]
    · simp [GiKeysWhereCombIntiIdOfCombiTurnedCombs1.e0, letK]
    · intro k nx x s hx hs
      have hi : idx l (k : Int) = some x := by rw [idx_nat, hx]
      simp only [GiKeysWhereCombIntiIdOfCombiTurnedCombs1.l0, hi, Option.bind_some, unComb, GiTurnedCombs1.P, matches_eq _ hw hh ho, matches_eq _ hh hw ho, GiIdOfComb.P, letK, joinK, appK, iteK_if]
      rw [guardK_pos hs]
      unfold turnB
      cases matchB w h o x <;> cases matchB h w o x <;> simp
theorem turned_spec (l : List Comb) (w h o : Int) (hl : l.length ≤ 9223372036854775807) : GsTurnedCombs.P l w h o = some (turnRes l w h o) := by
  simp only [GsTurnedCombs.P, asked_eq l w h o hl, Option.bind_some, letK, iteK_if, turnRes]
  cases ha : askB l w h o with
  | false => simp
  | true =>
    obtain ⟨h1, hw, hh, ho⟩ := ask_of ha
    simp only [Bool.not_true, Bool.false_eq_true, if_false, if_true]
    rw [gather (p := turnB w h o) (g := Comb.id) (by omega)]
    · simp [GsTurnedCombs.e0, letK]
    · intro k nx x s hx hs
      have hi : idx l (k : Int) = some x := by rw [idx_nat, hx]
      simp only [GsTurnedCombs.l0, hi, Option.bind_some, unComb, l5Match_eq _ hw hh ho, l5Match_eq _ hh hw ho, letK, joinK, appK, iteK_if]
      rw [guardK_pos hs]
      unfold turnB
      cases matchB w h o x <;> cases matchB h w o x <;> simp
theorem turnRes_len (l : List Comb) (w h o : Int) : (turnRes l w h o).1.length ≤ l.length := by
  unfold turnRes
  split
  · rw [List.length_map]; exact List.length_filter_le _ _
  · simp
end Go.Proofs.Ytdgbigkcophjoaa.Q5Turned
