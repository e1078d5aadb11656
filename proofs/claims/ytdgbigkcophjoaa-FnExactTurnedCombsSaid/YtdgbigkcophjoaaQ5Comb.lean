/- Chapter 5: combs, holes, gauges: the plain functions of the program and of the reference agree, and the laws answer true. (Q5Comb) No condition but those of each theorem. -/
import Derived.Test.YtdgbigkcophjoaaQ5Gauge
import Derived.Test.YtdgbigkcophjoaaQLoop
import Derived.Test.YtdgbigkcophjoaaPComb
import Derived.Test.YtdgbigkcophjoaaGoRComb
import Derived.Test.YtdgbigkcophjoaaGiAreCombs
import Derived.Test.YtdgbigkcophjoaaGsL5Good
namespace Go.Proofs.Ytdgbigkcophjoaa.Q5Comb
set_option linter.unusedVariables false
set_option linter.unusedSimpArgs false
open Go.RowKit
open Go.Proofs.Ytdgbigkcophjoaa.GoP Go.Proofs.Ytdgbigkcophjoaa.PlainStamp Go.Proofs.Ytdgbigkcophjoaa.QBase Go.Proofs.Ytdgbigkcophjoaa.Q5Gauge Go.Proofs.Ytdgbigkcophjoaa.QLoop Go.Proofs.Ytdgbigkcophjoaa.PComb

def okCo (x : Comb) : Bool := inB x.id 1 99 && inB x.wide 500 2000 && inB x.high 500 2000
theorem isComb_eq (p : Comb) : GiIsComb.P p = some (okCo p) := by
  obtain ⟨a, b, c, d⟩ := p
  simp only [GiIsComb.P, unComb, within_eq, isGauge_eq, Option.bind_some, letK, joinK, appK, iteK_if, okCo]
  cases inB a 1 99 <;> cases inB b 500 2000 <;> cases inB c 500 2000 <;> simp
theorem l5One_eq (p : Comb) : GsL5One.P p = some (okCo p) := by
  obtain ⟨a, b, c, d⟩ := p
  simp only [GsL5One.P, unComb, l1In_eq, l5Gauge_eq, Option.bind_some, letK, joinK, appK, iteK_if, okCo]
  cases inB a 1 99 <;> cases inB b 500 2000 <;> cases inB c 500 2000 <;> simp
def okCos (l : List Comb) : Bool := upL 10 okCo Comb.id l
theorem areCombs_eq (l : List Comb) : GiAreCombs.P l = some (okCos l) := by
  simp only [GiAreCombs.P, GiAreByKeyCombIntiIsCombiIdOfComb.P, letK, iteK_if]
  by_cases hl : l.length ≤ 10
  · rw [if_neg (by simp; omega), up_loop (ok := okCo) (id := Comb.id) (no := false)]
    · unfold okCos upL; cases upTo okCo Comb.id l l.length <;> simp [hl, GiAreByKeyCombIntiIsCombiIdOfComb.e0]
    · intro k nx s hs
      have hi : idx l (k : Int) = some s := by rw [idx_nat, hs]
      have hk : k < l.length := (List.getElem?_eq_some_iff.1 hs).1
      simp only [GiAreByKeyCombIntiIsCombiIdOfComb.l0, hi, Option.bind_some, unComb, isComb_eq, GiIdOfComb.P, letK, joinK, appK, iteK_if]
      refine ⟨fun h => by simp [h], fun h => ⟨fun h0 => by subst h0; simp [h], fun h0 r hr => ?_⟩⟩
      rw [idx_pred h0 (by omega) hr]
      have hk0 : (0 : Int) < (k : Int) := by omega
      have hk1 : ¬ k = 0 := by omega
      exact ⟨fun hlt => by (have hc : ¬ s.id ≤ r.id := by omega); simp [h, hk0, hk1, hc], fun hge => by simp [h, hk0, hk1, hge]⟩
  · rw [if_pos (by simp; omega)]; unfold okCos upL; simp [hl]
theorem l5Good_eq (l : List Comb) (hl : l.length ≤ 9223372036854775807) : GsL5Good.P l = some (okCos l) := by
  simp only [GsL5Good.P]
  rw [up_loop (ok := okCo) (id := Comb.id) (no := false)]
  · unfold okCos upL; cases upTo okCo Comb.id l l.length <;> simp [GsL5Good.e0, letK]; omega
  · intro k nx s hs
    have hi : idx l (k : Int) = some s := by rw [idx_nat, hs]
    have hk : k < l.length := (List.getElem?_eq_some_iff.1 hs).1
    simp only [GsL5Good.l0, hi, Option.bind_some, unComb, l5One_eq, letK, joinK, appK, iteK_if]
    refine ⟨fun h => by simp [h], fun h => ⟨fun h0 => by subst h0; simp [h], fun h0 r hr => ?_⟩⟩
    rw [idx_pred h0 (by omega) hr]
    have hk0 : (0 : Int) < (k : Int) := by omega
    have hk1 : ¬ k = 0 := by omega
    exact ⟨fun hlt => by (have hc : ¬ s.id ≤ r.id := by omega); simp [h, hk0, hk1, hc], fun hge => by simp [h, hk0, hk1, hge]⟩
end Go.Proofs.Ytdgbigkcophjoaa.Q5Comb
