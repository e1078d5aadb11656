/- Chapter 5: combs, holes, gauges: the plain functions of the program and of the reference agree, and the laws answer true. (Q5Turned) No condition but those of each theorem. -/
import Derived.Test.YtgfepdfamhnppaaQ5Ask
import Derived.Test.YtgfepdfamhnppaaQ5Comb
import Derived.Test.YtgfepdfamhnppaaQLoop
import Derived.Test.YtgfepdfamhnppaaQInt
import Derived.Test.YtgfepdfamhnppaaPComb
import Derived.Test.YtgfepdfamhnppaaQHComb
import Derived.Test.YtgfepdfamhnppaaQHCombE
import Derived.Test.YtgfepdfamhnppaaGlFnExactTurnedCombs
namespace Go.Proofs.Ytgfepdfamhnppaa.Q5Turned
set_option linter.unusedVariables false
set_option linter.unusedSimpArgs false
open Go.RowKit
open Go.Proofs.Ytgfepdfamhnppaa.GoP Go.Proofs.Ytgfepdfamhnppaa.PlainStamp Go.Proofs.Ytgfepdfamhnppaa.QBase Go.Proofs.Ytgfepdfamhnppaa.Q5Ask Go.Proofs.Ytgfepdfamhnppaa.Q5Comb Go.Proofs.Ytgfepdfamhnppaa.QLoop Go.Proofs.Ytgfepdfamhnppaa.QInt Go.Proofs.Ytgfepdfamhnppaa.PComb Go.Proofs.Ytgfepdfamhnppaa.QHComb Go.Proofs.Ytgfepdfamhnppaa.QHCombE

def turnB (w h o : Int) (x : Comb) : Bool := !matchB w h o x && matchB h w o x
def turnRes (l : List Comb) (w h o : Int) : List Int × Bool := if askB l w h o = true then ((l.filter (turnB w h o)).map Comb.id, true) else ([], false)
theorem turned_impl (l : List Comb) (w h o : Int) : GiTurnedCombs.P l w h o = some (turnRes l w h o) := by
  simp only [GiTurnedCombs.P, canMatch_eq, Option.bind_some, letK, iteK_if, turnRes]
  cases ha : askB l w h o with
  | false => simp
  | true =>
    obtain ⟨h1, hw, hh, ho⟩ := ask_of ha
    simp only [Bool.not_true, Bool.false_eq_true, if_false, if_true, GiIdsWhereCombiIdOfCombiTurnedCombs1.P]
    rw [gather (p := turnB w h o) (g := Comb.id) (by omega)]
    · simp [GiIdsWhereCombiIdOfCombiTurnedCombs1.e0, letK]
    · intro k nx x s hx hs
      have hi : idx l (k : Int) = some x := by rw [idx_nat, hx]
      simp only [GiIdsWhereCombiIdOfCombiTurnedCombs1.l0, hi, Option.bind_some, unComb, GiTurnedCombs1.P, matches_eq _ hw hh ho, matches_eq _ hh hw ho, GiIdOfComb.P, letK, joinK, appK, iteK_if]
      rw [guardK_pos hs]
      unfold turnB
      cases matchB w h o x <;> cases matchB h w o x <;> simp
theorem turned_spec (l : List Comb) (w h o : Int) (hl : l.length ≤ 9223372036854775807) : GsTurnedCombs.P l w h o = some (turnRes l w h o) := by
  simp only [GsTurnedCombs.P, asked_eq l w h o hl, Option.bind_some, letK, iteK_if, turnRes]
  cases ha : askB l w h o with
  | false => simp
  | true =>
    obtain ⟨h1, hw, hh, ho⟩ := ask_of ha
    simp only [Bool.not_true, Bool.false_eq_true, if_false, if_true]
    rw [gather (p := turnB w h o) (g := Comb.id) (by omega)]
    · simp [GsTurnedCombs.e0, letK]
    · intro k nx x s hx hs
      have hi : idx l (k : Int) = some x := by rw [idx_nat, hx]
      simp only [GsTurnedCombs.l0, hi, Option.bind_some, unComb, l5Match_eq _ hw hh ho, l5Match_eq _ hh hw ho, letK, joinK, appK, iteK_if]
      rw [guardK_pos hs]
      unfold turnB
      cases matchB w h o x <;> cases matchB h w o x <;> simp
theorem turnRes_len (l : List Comb) (w h o : Int) : (turnRes l w h o).1.length ≤ l.length := by
  unfold turnRes
  split
  · rw [List.length_map]; exact List.length_filter_le _ _
  · simp
theorem law_turned (l : List Comb) (w h o : Int) (hl : l.length ≤ 9223372036854775807) : GlFnExactTurnedCombs.P l w h o = some true := by
  simp only [GlFnExactTurnedCombs.P, szS l hl, Option.bind_some, letK, iteK_if]
  by_cases hb : l.length ≤ 1048576
  · have hv : ¬ (1048576 - (l.length : Int) < 0) := by omega
    obtain ⟨⟨a, b⟩, hr⟩ : ∃ x, x = turnRes l w h o := ⟨_, rfl⟩
    have hlen : a.length ≤ 1099511627776 := by have := turnRes_len l w h o; rw [← hr] at this; dsimp only at this; omega
    obtain ⟨v2, l2, hm, hv2⟩ := markS l hb
    have hv3 : ¬ v2 < 0 := by omega
    have hv4 : ¬ (a.length : Int) + 1 < 0 := by omega
    simp [hb, hv, toS l hb, turned_spec l w h o hl, turned_impl l w h o, ← hr, bind2, joinK, appK, iteK_if, eqS, eqI, hm, hv3, markI a hlen, heldI a.length hlen, hv4]
  · simp [hb]
end Go.Proofs.Ytgfepdfamhnppaa.Q5Turned
