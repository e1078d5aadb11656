/- Chapter 5: combs, holes, gauges: the plain functions of the program and of the reference agree, and the laws answer true. (Q5Ask) No condition but those of each theorem. -/
import Derived.Test.YtdgbigkcophjoaaQ5Comb
import Derived.Test.YtdgbigkcophjoaaQ5Gauge
import Derived.Test.YtdgbigkcophjoaaQLoop
import Derived.Test.YtdgbigkcophjoaaPComb
import Derived.Test.YtdgbigkcophjoaaGiCanMatch
import Derived.Test.YtdgbigkcophjoaaGsL5Asked
import Derived.Test.YtdgbigkcophjoaaGiMatches
import Derived.Test.YtdgbigkcophjoaaGsL5Match
namespace Go.Proofs.Ytdgbigkcophjoaa.Q5Ask
set_option linter.unusedVariables false
set_option linter.unusedSimpArgs false
open Go.RowKit
open Go.Proofs.Ytdgbigkcophjoaa.GoP Go.Proofs.Ytdgbigkcophjoaa.PlainStamp Go.Proofs.Ytdgbigkcophjoaa.QBase Go.Proofs.Ytdgbigkcophjoaa.Q5Comb Go.Proofs.Ytdgbigkcophjoaa.Q5Gauge Go.Proofs.Ytdgbigkcophjoaa.QLoop Go.Proofs.Ytdgbigkcophjoaa.PComb

def nearB (g m o : Int) : Bool := m == 0 || inB g (m - o) (m + o)
def matchB (w h o : Int) (x : Comb) : Bool := nearB x.wide w o && nearB x.high h o
def measB (m : Int) : Bool := m == 0 || inB m 500 2000
def askB (l : List Comb) (w h o : Int) : Bool := okCos l && measB w && measB h && inB o 0 100
theorem measB_in {m : Int} (h : measB m = true) : 0 ≤ m ∧ m ≤ 2000 := by
  unfold measB at h
  simp only [Bool.or_eq_true, beq_iff_eq] at h
  rcases h with h | h
  · omega
  · have := inB_of h; omega
theorem isMeasured_eq (m : Int) : GiIsMeasured.P m = some (measB m) := by
  simp only [GiIsMeasured.P, isGauge_eq, Option.bind_some, letK, joinK, appK, iteK_if, measB]
  cases m == 0 <;> simp
theorem isNear_eq {g m o : Int} (hm : 0 ≤ m ∧ m ≤ 2000) (ho : 0 ≤ o ∧ o ≤ 100) : GiIsNear.P g m o = some (nearB g m o) := by
  simp only [GiIsNear.P, letK, joinK, appK, iteK_if, nearB, within_eq]
  rw [wrap_in (x := m - o) (by omega) (by omega), wrap_in (x := m + o) (by omega) (by omega)]
  cases m == 0 <;> simp
theorem l5Near_eq {g m o : Int} (hm : 0 ≤ m ∧ m ≤ 2000) (ho : 0 ≤ o ∧ o ≤ 100) : GsL5Near.P g m o = some (nearB g m o) := by
  simp only [GsL5Near.P, letK, joinK, appK, iteK_if, nearB, l1In_eq]
  rw [wrap_in (x := m - o) (by omega) (by omega), wrap_in (x := m + o) (by omega) (by omega)]
  cases m == 0 <;> simp
theorem matches_eq (x : Comb) {w h o : Int} (hw : 0 ≤ w ∧ w ≤ 2000) (hh : 0 ≤ h ∧ h ≤ 2000) (ho : 0 ≤ o ∧ o ≤ 100) : GiMatches.P x w h o = some (matchB w h o x) := by
  obtain ⟨a, b, c, d⟩ := x
  simp only [GiMatches.P, unComb, isNear_eq hw ho, isNear_eq hh ho, Option.bind_some, letK, joinK, appK, iteK_if, matchB]
  cases nearB b w o <;> simp
theorem l5Match_eq (x : Comb) {w h o : Int} (hw : 0 ≤ w ∧ w ≤ 2000) (hh : 0 ≤ h ∧ h ≤ 2000) (ho : 0 ≤ o ∧ o ≤ 100) : GsL5Match.P x w h o = some (matchB w h o x) := by
  obtain ⟨a, b, c, d⟩ := x
  simp only [GsL5Match.P, unComb, l5Near_eq hw ho, l5Near_eq hh ho, Option.bind_some, letK, joinK, appK, iteK_if, matchB]
  cases nearB b w o <;> simp
theorem canMatch_eq (l : List Comb) (w h o : Int) : GiCanMatch.P l w h o = some (askB l w h o) := by
  simp only [GiCanMatch.P, areCombs_eq, isMeasured_eq, within_eq, Option.bind_some, joinK, appK, iteK_if, askB]
  cases okCos l <;> cases measB w <;> cases measB h <;> simp
theorem asked_eq (l : List Comb) (w h o : Int) (hl : l.length ≤ 9223372036854775807) : GsL5Asked.P l w h o = some (askB l w h o) := by
  simp only [GsL5Asked.P, l5Good_eq l hl, l5Gauge_eq, l1In_eq, Option.bind_some, letK, joinK, appK, iteK_if, askB, measB]
  cases okCos l <;> cases w == 0 <;> cases h == 0 <;> cases inB w 500 2000 <;> cases inB h 500 2000 <;> simp
theorem ask_of {l : List Comb} {w h o : Int} (ha : askB l w h o = true) : l.length ≤ 10 ∧ (0 ≤ w ∧ w ≤ 2000) ∧ (0 ≤ h ∧ h ≤ 2000) ∧ (0 ≤ o ∧ o ≤ 100) := by
  unfold askB at ha; simp only [Bool.and_eq_true] at ha
  exact ⟨upL_len ha.1.1.1, measB_in ha.1.1.2, measB_in ha.1.2, inB_of ha.2⟩
end Go.Proofs.Ytdgbigkcophjoaa.Q5Ask
