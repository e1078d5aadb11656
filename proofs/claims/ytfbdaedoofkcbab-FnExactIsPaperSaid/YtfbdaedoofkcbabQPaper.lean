/- Papers: the plain functions of the tests of a word, of a paper and of a list of papers; of the laws' helpers on papers. No condition. -/
import Derived.Test.YtfbdaedoofkcbabQLoop
import Derived.Test.YtfbdaedoofkcbabGiArePapers
import Derived.Test.YtfbdaedoofkcbabGsArePapers
import Derived.Test.YtfbdaedoofkcbabGiIsPaper
import Derived.Test.YtfbdaedoofkcbabGsIsPaper
import Derived.Test.YtfbdaedoofkcbabGlToPaperS
import Derived.Test.YtfbdaedoofkcbabGlEqPaperS
import Derived.Test.YtfbdaedoofkcbabGlSzPaperS
namespace Go.Proofs.Ytfbdaedoofkcbab.QPaper
set_option linter.unusedVariables false
set_option linter.unusedSimpArgs false
open Go.RowKit
open Go.Proofs.Ytfbdaedoofkcbab.GoP Go.Proofs.Ytfbdaedoofkcbab.PlainStamp Go.Proofs.Ytfbdaedoofkcbab.QBase Go.Proofs.Ytfbdaedoofkcbab.QLoop Go.Proofs.Ytfbdaedoofkcbab.PPaper

def small (b : UInt8) : Bool := decide (97 ≤ b.toNat ∧ b.toNat ≤ 122)
def wordB (s : ByteArray) : Bool := inB (s.size : Int) 1 10 && s.toList.all small
theorem size_list (s : ByteArray) : s.toList.length = s.size := by rw [Lib.toList_data]; rfl
theorem isLetter_eq (b : UInt8) : GiIsLetter.P (b.toNat : Int) = some (small b) := by
  simp only [GiIsLetter.P, letK, joinK, appK, iteK_if]
  unfold small
  by_cases h1 : 97 ≤ b.toNat
  · by_cases h2 : b.toNat ≤ 122
    · simp [h1, h2, show (97 : Int) ≤ b.toNat by omega, show (b.toNat : Int) ≤ 122 by omega]
    · simp [h1, h2, show (97 : Int) ≤ b.toNat by omega, show ¬ (b.toNat : Int) ≤ 122 by omega]
  · simp [h1, show ¬ (97 : Int) ≤ b.toNat by omega]
theorem isWord_eq (s : ByteArray) : GiIsWord.P s = some (wordB s) := by
  cases hb : inB (s.size : Int) 1 10 with
  | false => simp only [GiIsWord.P, within_eq, hb, Option.bind_some, letK, iteK_if, wordB]; rfl
  | true =>
    have h := inB_of hb
    simp only [GiIsWord.P, within_eq, hb, Option.bind_some, letK, iteK_if]
    rw [if_neg (by simp), guardK_pos (by omega)]
    refine cnt_is _ (fun k _ => (s.toList.take k).all small = true) ?_ ?_ () rfl
    · intro k u nx hk hI hn
      obtain ⟨y, hy, hi⟩ := at_lt (l := s.toList) (k := k) (by rw [size_list]; exact hk)
      simp only [GiIsWord.l0, hi, Option.bind_some, letK, joinK, appK, iteK_if, isLetter_eq]
      cases hs : small y with
      | false =>
        have : wordB s = false := by unfold wordB; rw [not_all hy hs, Bool.and_false]
        simp [this]
      | true => exact hn () (by rw [all_next hy, hI, hs]; rfl)
    · intro u hI
      rw [List.take_of_length_le (by rw [size_list]; exact Nat.le_refl _)] at hI
      simp [GiIsWord.e0, wordB, hb, hI]
theorem l2Word_eq (s : ByteArray) (hz : s.size ≤ 9223372036854775807) : GsL2Word.P s = some (wordB s) := by
  simp only [GsL2Word.P]
  rw [guardK_pos hz]
  refine cnt_is _ (fun k _ => (s.toList.take k).all small = true) ?_ ?_ () rfl
  · intro k u nx hk hI hn
    obtain ⟨y, hy, hi⟩ := at_lt (l := s.toList) (k := k) (by rw [size_list]; exact hk)
    simp only [GsL2Word.l0, hi, Option.bind_some, letK, joinK, appK, iteK_if]
    by_cases h1 : (y.toNat : Int) < 97
    · have : wordB s = false := by unfold wordB; rw [not_all hy (by unfold small; simp; omega), Bool.and_false]
      simp [h1, this]
    · by_cases h2 : (122 : Int) < (y.toNat : Int)
      · have : wordB s = false := by unfold wordB; rw [not_all hy (by unfold small; simp; omega), Bool.and_false]
        simp [h1, h2, this]
      · simp [h1, h2]
        exact hn () (by rw [all_next hy, hI]; unfold small; simp; omega)
  · intro u hI
    rw [List.take_of_length_le (by rw [size_list]; exact Nat.le_refl _)] at hI
    simp [GsL2Word.e0, wordB, l1In_eq, hI]
def markB (s : ByteArray) : Bool := s.toList.isEmpty || wordB s
def okPa (p : Paper) : Bool := inB p.id 1 99 && inB p.thick 1 300 && inB p.tint 0 9 && markB p.mark
theorem isPaper_eq (p : Paper) : GiIsPaper.P p = some (okPa p) := by
  obtain ⟨a, b, c, d, e⟩ := p
  simp only [GiIsPaper.P, unPaper, within_eq, GiIsMark.P, isWord_eq, Option.bind_some, letK, joinK, appK, iteK_if, okPa, markB]
  cases inB a 1 99 <;> cases inB b 1 300 <;> cases inB c 0 9 <;> cases d.toList.isEmpty <;> simp
theorem l3One_eq (p : Paper) (h : p.fits) : GsL3One.P p = some (okPa p) := by
  obtain ⟨a, b, c, d, e⟩ := p
  have hz : d.size ≤ 9223372036854775807 := h.2.2.2.1
  simp only [GsL3One.P, unPaper, l1In_eq, l2Word_eq d hz, Option.bind_some, letK, joinK, appK, iteK_if, okPa, markB]
  cases inB a 1 99 <;> cases inB b 1 300 <;> cases inB c 0 9 <;> cases d.toList.isEmpty <;> simp
def okPas (l : List Paper) : Bool := upL 10 okPa Paper.id l
theorem arePapers_eq (l : List Paper) : GiArePapers.P l = some (okPas l) := by
  simp only [GiArePapers.P, GiAreByIdPaperiIsPaperiIdOfPaper.P, letK, iteK_if]
  by_cases hl : l.length ≤ 10
  · rw [if_neg (by simp; omega), up_loop (ok := okPa) (id := Paper.id) (no := false)]
    · unfold okPas upL; cases upTo okPa Paper.id l l.length <;> simp [hl, GiAreByIdPaperiIsPaperiIdOfPaper.e0]
    · intro k nx s hs
      have hi : idx l (k : Int) = some s := by rw [idx_nat, hs]
      have hk : k < l.length := (List.getElem?_eq_some_iff.1 hs).1
      simp only [GiAreByIdPaperiIsPaperiIdOfPaper.l0, hi, Option.bind_some, unPaper, isPaper_eq, GiIdOfPaper.P, letK, joinK, appK, iteK_if]
      refine ⟨fun h => by simp [h], fun h => ⟨fun h0 => by subst h0; simp [h], fun h0 r hr => ?_⟩⟩
      rw [idx_pred h0 (by omega) hr]
      have hk0 : (0 : Int) < (k : Int) := by omega
      have hk1 : ¬ k = 0 := by omega
      exact ⟨fun hlt => by (have hc : ¬ s.id ≤ r.id := by omega); simp [h, hk0, hk1, hc], fun hge => by simp [h, hk0, hk1, hge]⟩
  · rw [if_pos (by simp; omega)]; unfold okPas upL; simp [hl]
theorem l3Good_eq (l : List Paper) (hf : ∀ s ∈ l, s.fits) (hl : l.length ≤ 9223372036854775807) : GsL3Good.P l = some (okPas l) := by
  simp only [GsL3Good.P]
  rw [up_loop (ok := okPa) (id := Paper.id) (no := false)]
  · unfold okPas upL; cases upTo okPa Paper.id l l.length <;> simp [GsL3Good.e0, letK]; omega
  · intro k nx s hs
    have hi : idx l (k : Int) = some s := by rw [idx_nat, hs]
    have hk : k < l.length := (List.getElem?_eq_some_iff.1 hs).1
    have hm := hf s (List.mem_of_getElem? hs)
    simp only [GsL3Good.l0, hi, Option.bind_some, unPaper, letK, joinK, appK, iteK_if]
    rw [l3One_eq _ hm]
    refine ⟨fun h => by simp [h], fun h => ⟨fun h0 => by subst h0; simp [h], fun h0 r hr => ?_⟩⟩
    rw [idx_pred h0 (by omega) hr]
    have hk0 : (0 : Int) < (k : Int) := by omega
    have hk1 : ¬ k = 0 := by omega
    exact ⟨fun hlt => by (have hc : ¬ s.id ≤ r.id := by omega); simp [h, hk0, hk1, hc], fun hge => by simp [h, hk0, hk1, hge]⟩

theorem toOne (s : Paper) : GlToPaper.P s = some s := by cases s; rfl
theorem eqOne (s : Paper) : GlEqPaper.P s s = some true := by cases s; simp [GlEqPaper.P, unPaper, letK, joinK, appK, iteK_if]
theorem szOne (s : Paper) (left : Int) (h : s.fits) (h0 : 0 ≤ left) (h1 : left ≤ 1048576) : GlSzPaper.P s left = some (if left < (s.wt : Int) then -1 else left - (s.wt : Int)) := by
  obtain ⟨a, b, c, d, e⟩ := s
  have hz : d.size ≤ 9223372036854775807 := h.2.2.2.1
  have hw : ((Paper.mk a b c d e).wt : Int) = (d.size : Int) := rfl
  simp only [GlSzPaper.P, unPaper, letK, iteK_if]
  rw [wrap_in (by omega) (by omega)]
  by_cases hd : left < ((Paper.mk a b c d e).wt : Int)
  · rw [if_pos (by simp; omega), if_pos hd]
  · rw [if_neg (by simp; omega), if_neg hd, hw]
theorem toS (l : List Paper) (hl : l.length ≤ 1048576) : GlToPaperS.P l = some l := by
  simp only [GlToPaperS.P, letK]
  rw [guardK_pos (by omega)]
  refine cnt_is l (fun k s => s = l.take k ++ List.replicate (l.length - k) (Paper.mk 0 0 0 ByteArray.empty false)) ?_ ?_ _ (by simp)
  · intro k s nx hk hI hn
    obtain ⟨x, hx, hi⟩ := at_lt (l := l) (k := k) hk
    have hlen : s.length = l.length := by rw [hI]; simp; omega
    obtain ⟨z, hz, hj⟩ := at_lt (l := s) (k := k) (by omega)
    simp only [GlToPaperS.l0, hi, hj, toOne, Option.bind_some, unPaper, letK, appK]
    refine hn _ ?_
    rw [hI, take_next hx, List.set_append_right _ _ (by simp; omega)]
    have hr : l.length - k = (l.length - (k + 1)) + 1 := by omega
    rw [hr, List.replicate_succ, List.append_assoc]
    simp [show k - min k l.length = 0 by omega]
  · intro s hI
    rw [hI]; simp [GlToPaperS.e0, letK]
theorem eqS (l : List Paper) : GlEqPaperS.P l l = some true := by
  simp only [GlEqPaperS.P, letK, iteK_if]
  rw [if_neg (by simp)]
  refine cnt_is true (fun _ _ => True) ?_ (fun s _ => rfl) () trivial
  intro k s nx hk _ hn
  obtain ⟨x, hx, hi⟩ := at_lt (l := l) (k := k) hk
  simp only [GlEqPaperS.l0, hi, Option.bind_some, unPaper, eqOne, letK, appK, iteK_if]
  exact hn () trivial
theorem szS (l : List Paper) (hf : ∀ s ∈ l, s.fits) (hl : l.length ≤ 9223372036854775807) : ∃ v, GlSzPaperS.P l 1048576 = some v ∧ (0 ≤ v → l.length ≤ 1048576) := by
  simp only [GlSzPaperS.P, letK, iteK_if]
  rw [wrap_in (by omega) (by omega)]
  by_cases h : (1048576 : Int) - (l.length : Int) < 0
  · exact ⟨-1, by rw [if_pos (by simp; omega)], by omega⟩
  · rw [if_neg (by simp; omega)]
    refine cnt_ex (n := l.length) (Q := fun v => 0 ≤ v → l.length ≤ 1048576) (fun _ (s : Int) => 0 ≤ s ∧ s ≤ 1048576) ?_ ?_ l.length 0 _ (by omega) ⟨by omega, by omega⟩
    · intro k s nx hk hI hn
      obtain ⟨x, hx, hi⟩ := at_lt (l := l) (k := k) hk
      simp only [GlSzPaperS.l0, hi, Option.bind_some, unPaper, letK, appK, iteK_if]
      rw [szOne _ s (hf x (List.mem_of_getElem? hx)) hI.1 hI.2]
      by_cases hb : s < (x.wt : Int)
      · rw [if_pos hb]; exact ⟨-1, by simp, by omega⟩
      · rw [if_neg hb]
        simp only [Option.bind_some]
        rw [if_neg (by simp; omega)]
        exact hn _ ⟨by omega, by omega⟩
    · intro s hI; exact ⟨s, rfl, fun _ => by omega⟩
end Go.Proofs.Ytfbdaedoofkcbab.QPaper
