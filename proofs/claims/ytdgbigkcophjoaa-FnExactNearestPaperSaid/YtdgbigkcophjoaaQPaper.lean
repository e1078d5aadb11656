/- Papers: the plain functions of the tests of a word, of a paper and of a list of papers; of the laws' helpers on papers. No condition. -/
import Derived.Test.YtdgbigkcophjoaaQOnePaper
import Derived.Test.YtdgbigkcophjoaaGiArePapers
import Derived.Test.YtdgbigkcophjoaaGsArePapers
import Derived.Test.YtdgbigkcophjoaaGiIsPaper
import Derived.Test.YtdgbigkcophjoaaGlToPaperS
import Derived.Test.YtdgbigkcophjoaaGlEqPaperS
import Derived.Test.YtdgbigkcophjoaaGlSzPaperS
namespace Go.Proofs.Ytdgbigkcophjoaa.QPaper
set_option linter.unusedVariables false
set_option linter.unusedSimpArgs false
open Go.RowKit
open Go.Proofs.Ytdgbigkcophjoaa.GoP Go.Proofs.Ytdgbigkcophjoaa.PlainStamp Go.Proofs.Ytdgbigkcophjoaa.QBase Go.Proofs.Ytdgbigkcophjoaa.QLoop Go.Proofs.Ytdgbigkcophjoaa.PPaper Go.Proofs.Ytdgbigkcophjoaa.QOnePaper

def okPas (l : List Paper) : Bool := upL 10 okPa Paper.id l
theorem arePapers_eq (l : List Paper) : GiArePapers.P l = some (okPas l) := by
  simp only [GiArePapers.P, GiAreByKeyPaperIntiIsPaperiIdOfPaper.P, letK, iteK_if]
  by_cases hl : l.length ≤ 10
  · rw [if_neg (by simp; omega), up_loop (ok := okPa) (id := Paper.id) (no := false)]
    · unfold okPas upL; cases upTo okPa Paper.id l l.length <;> simp [hl, GiAreByKeyPaperIntiIsPaperiIdOfPaper.e0]
    · intro k nx s hs
      have hi : idx l (k : Int) = some s := by rw [idx_nat, hs]
      have hk : k < l.length := (List.getElem?_eq_some_iff.1 hs).1
      simp only [GiAreByKeyPaperIntiIsPaperiIdOfPaper.l0, hi, Option.bind_some, unPaper, isPaper_eq, GiIdOfPaper.P, letK, joinK, appK, iteK_if]
      refine ⟨fun h => by simp [h], fun h => ⟨fun h0 => by subst h0; simp [h], fun h0 r hr => ?_⟩⟩
      rw [idx_pred h0 (by omega) hr]
      have hk0 : (0 : Int) < (k : Int) := by omega
      have hk1 : ¬ k = 0 := by omega
      exact ⟨fun hlt => by (have hc : ¬ s.id ≤ r.id := by omega); simp [h, hk0, hk1, hc], fun hge => by simp [h, hk0, hk1, hge]⟩
  · rw [if_pos (by simp; omega)]; unfold okPas upL; simp [hl]
theorem l3Good_eq (l : List Paper) (hf : ∀ s ∈ l, s.fits) (hl : l.length ≤ 9223372036854775807) : GsL3Good.P l = some (okPas l) := by
  simp only [GsL3Good.P]
  rw [up_loop (ok := okPa) (id := Paper.id) (no := false)]
  · unfold okPas upL; cases upTo okPa Paper.id l l.length <;> simp [GsL3Good.e0, letK]; omega
  · intro k nx s hs
    have hi : idx l (k : Int) = some s := by rw [idx_nat, hs]
    have hk : k < l.length := (List.getElem?_eq_some_iff.1 hs).1
    have hm := hf s (List.mem_of_getElem? hs)
    simp only [GsL3Good.l0, hi, Option.bind_some, unPaper, letK, joinK, appK, iteK_if]
    rw [l3One_eq _ hm]
    refine ⟨fun h => by simp [h], fun h => ⟨fun h0 => by subst h0; simp [h], fun h0 r hr => ?_⟩⟩
    rw [idx_pred h0 (by omega) hr]
    have hk0 : (0 : Int) < (k : Int) := by omega
    have hk1 : ¬ k = 0 := by omega
    exact ⟨fun hlt => by (have hc : ¬ s.id ≤ r.id := by omega); simp [h, hk0, hk1, hc], fun hge => by simp [h, hk0, hk1, hge]⟩

theorem toOne (s : Paper) : GlToPaper.P s = some s := by cases s; rfl
theorem eqOne (s : Paper) : GlEqPaper.P s s = some true := by cases s; simp [GlEqPaper.P, unPaper, letK, joinK, appK, iteK_if]
theorem szOne (s : Paper) (left : Int) (h : s.fits) (h0 : 0 ≤ left) (h1 : left ≤ 1048576) : GlSzPaper.P s left = some (if left < (s.wt : Int) then -1 else left - (s.wt : Int)) := by
  obtain ⟨a, b, c, d, e⟩ := s
  have hz : d.size ≤ 9223372036854775807 := h.2.2.2.1
  have hw : ((Paper.mk a b c d e).wt : Int) = (d.size : Int) := rfl
  simp only [GlSzPaper.P, unPaper, letK, iteK_if]
  rw [wrap_in (by omega) (by omega)]
  by_cases hd : left < ((Paper.mk a b c d e).wt : Int)
  · rw [if_pos (by simp; omega), if_pos hd]
  · rw [if_neg (by simp; omega), if_neg hd, hw]
theorem toS (l : List Paper) (hl : l.length ≤ 1048576) : GlToPaperS.P l = some l := by
  simp only [GlToPaperS.P, letK]
  rw [guardK_pos (by omega)]
  refine cnt_is l (fun k s => s = l.take k ++ List.replicate (l.length - k) (Paper.mk 0 0 0 ByteArray.empty false)) ?_ ?_ _ (by simp)
  · intro k s nx hk hI hn
    obtain ⟨x, hx, hi⟩ := at_lt (l := l) (k := k) hk
    have hlen : s.length = l.length := by rw [hI]; simp; omega
    obtain ⟨z, hz, hj⟩ := at_lt (l := s) (k := k) (by omega)
    simp only [GlToPaperS.l0, hi, hj, toOne, Option.bind_some, unPaper, letK, appK]
    refine hn _ ?_
    rw [hI, take_next hx, List.set_append_right _ _ (by simp; omega)]
    have hr : l.length - k = (l.length - (k + 1)) + 1 := by omega
    rw [hr, List.replicate_succ, List.append_assoc]
    simp [show k - min k l.length = 0 by omega]
  · intro s hI
    rw [hI]; simp [GlToPaperS.e0, letK]
theorem eqS (l : List Paper) : GlEqPaperS.P l l = some true := by
  simp only [GlEqPaperS.P, letK, iteK_if]
  rw [if_neg (by simp)]
  refine cnt_is true (fun _ _ => True) ?_ (fun s _ => rfl) () trivial
  intro k s nx hk _ hn
  obtain ⟨x, hx, hi⟩ := at_lt (l := l) (k := k) hk
  simp only [GlEqPaperS.l0, hi, Option.bind_some, unPaper, eqOne, letK, appK, iteK_if]
  exact hn () trivial
theorem szS (l : List Paper) (hf : ∀ s ∈ l, s.fits) (hl : l.length ≤ 9223372036854775807) : ∃ v, GlSzPaperS.P l 1048576 = some v ∧ (0 ≤ v → l.length ≤ 1048576) := by
  simp only [GlSzPaperS.P, letK, iteK_if]
  rw [wrap_in (by omega) (by omega)]
  by_cases h : (1048576 : Int) - (l.length : Int) < 0
  · exact ⟨-1, by rw [if_pos (by simp; omega)], by omega⟩
  · rw [if_neg (by simp; omega)]
    refine cnt_ex (n := l.length) (Q := fun v => 0 ≤ v → l.length ≤ 1048576) (fun _ (s : Int) => 0 ≤ s ∧ s ≤ 1048576) ?_ ?_ l.length 0 _ (by omega) ⟨by omega, by omega⟩
    · intro k s nx hk hI hn
      obtain ⟨x, hx, hi⟩ := at_lt (l := l) (k := k) hk
      simp only [GlSzPaperS.l0, hi, Option.bind_some, unPaper, letK, appK, iteK_if]
      rw [szOne _ s (hf x (List.mem_of_getElem? hx)) hI.1 hI.2]
      by_cases hb : s < (x.wt : Int)
      · rw [if_pos hb]; exact ⟨-1, by simp, by omega⟩
      · rw [if_neg hb]
        simp only [Option.bind_some]
        rw [if_neg (by simp; omega)]
        exact hn _ ⟨by omega, by omega⟩
    · intro s hI; exact ⟨s, rfl, fun _ => by omega⟩
end Go.Proofs.Ytdgbigkcophjoaa.QPaper
