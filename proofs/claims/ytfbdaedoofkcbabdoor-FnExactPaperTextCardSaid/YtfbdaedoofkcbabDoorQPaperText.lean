/- PaperText: the law's plain function answers true. Condition: what comes in fits. -/
import Derived.Test.YtfbdaedoofkcbabDoorQNum
import Derived.Test.YtfbdaedoofkcbabDoorQOnePaper
import Derived.Test.YtfbdaedoofkcbabDoorGlFnExactPaperText
namespace Go.Proofs.YtfbdaedoofkcbabDoor.QPaperText
set_option linter.unusedVariables false
set_option linter.unusedSimpArgs false
open Go.RowKit
open Go.Proofs.YtfbdaedoofkcbabDoor.GoP Go.Proofs.YtfbdaedoofkcbabDoor.PlainStamp Go.Proofs.YtfbdaedoofkcbabDoor.QBase Go.Proofs.YtfbdaedoofkcbabDoor.QLoop Go.Proofs.YtfbdaedoofkcbabDoor.PPaper Go.Proofs.YtfbdaedoofkcbabDoor.QOnePaper Go.Proofs.YtfbdaedoofkcbabDoor.QNum

theorem toOne (s : Paper) : GlToPaper.P s = some s := by cases s; rfl
theorem szOne (s : Paper) (left : Int) (h : s.fits) (h0 : 0 ≤ left) (h1 : left ≤ 1048576) : GlSzPaper.P s left = some (if left < (s.wt : Int) then -1 else left - (s.wt : Int)) := by
  obtain ⟨a, b, c, d, e⟩ := s
  have hz : d.size ≤ 9223372036854775807 := h.2.2.2.1
  have hw : ((Paper.mk a b c d e).wt : Int) = (d.size : Int) := rfl
  simp only [GlSzPaper.P, unPaper, letK, iteK_if]
  rw [wrap_in (by omega) (by omega)]
  by_cases hd : left < ((Paper.mk a b c d e).wt : Int)
  · rw [if_pos (by simp; omega), if_pos hd]
  · rw [if_neg (by simp; omega), if_neg hd, hw]
def sp : ByteArray := ⟨#[32]⟩
def um : ByteArray := ⟨#[117, 109, 32, 116]⟩
def laidW : ByteArray := ⟨#[32, 108, 97, 105, 100]⟩
def wmk : ByteArray := ⟨#[32, 119, 109, 107, 32]⟩
def front (p : Paper) : ByteArray := itoaB p.id ++ sp ++ itoaB p.thick ++ um ++ itoaB p.tint
def mid (p : Paper) : ByteArray := if p.laid then front p ++ laidW else front p
def txt (p : Paper) : ByteArray := if p.mark.toList.isEmpty then mid p else mid p ++ (wmk ++ p.mark)
theorem ok_in {p : Paper} (h : okPa p = true) : (1 ≤ p.id ∧ p.id ≤ 99) ∧ (1 ≤ p.thick ∧ p.thick ≤ 300) ∧ (0 ≤ p.tint ∧ p.tint ≤ 9) := by
  unfold okPa at h
  simp only [Bool.and_eq_true] at h
  exact ⟨inB_of h.1.1.1, inB_of h.1.1.2, inB_of h.1.2⟩
theorem front_size {p : Paper} (h : okPa p = true) : (front p).size ≤ 26 := by
  obtain ⟨h1, h2, h3⟩ := ok_in h
  have a := itoaB_size (n := p.id) (by omega) (by omega)
  have b := itoaB_size (n := p.thick) (by omega) (by omega)
  have c := itoaB_size (n := p.tint) (by omega) (by omega)
  have e1 : sp.size = 1 := rfl
  have e2 : um.size = 4 := rfl
  unfold front
  simp only [ByteArray.size_append]; omega
theorem mid_size {p : Paper} (h : okPa p = true) : (mid p).size ≤ 31 := by
  have := front_size h
  have e : laidW.size = 5 := rfl
  unfold mid
  split
  · simp only [ByteArray.size_append]; omega
  · omega
theorem impl_eq (p : Paper) (hf : p.fits) (hm : p.mark.size ≤ 1048576) : GiPaperText.P p = some (if okPa p then (txt p, true) else (⟨#[]⟩, false)) := by
  cases hok : okPa p with
  | false => obtain ⟨a, b, c, d, e⟩ := p; simp [GiPaperText.P, unPaper, isPaper_eq, hok, letK, iteK_if]
  | true =>
    obtain ⟨h1, h2, h3⟩ := ok_in hok
    have hfs := front_size hok; have hms := mid_size hok
    have a := itoaB_size (n := p.id) (by omega) (by omega)
    have b := itoaB_size (n := p.thick) (by omega) (by omega)
    have c := itoaB_size (n := p.tint) (by omega) (by omega)
    have e1 : sp.size = 1 := rfl
    have e2 : um.size = 4 := rfl
    have e3 : laidW.size = 5 := rfl
    have e4 : wmk.size = 5 := rfl
    obtain ⟨i, t, n, d, l⟩ := p
    dsimp only at h1 h2 h3 a b c hm
    have hi := itoa_eq (n := i) (by omega) (by omega); have ht := itoa_eq (n := t) (by omega) (by omega); have hn := itoa_eq (n := n) (by omega) (by omega)
    simp only [GiPaperText.P, unPaper, isPaper_eq, hok, hi, ht, hn, Option.bind_some, letK, iteK_if, Bool.not_true, Bool.false_eq_true, if_false]
    rw [fits_cat (b := ⟨#[32]⟩) (by show _ + 1 ≤ _; omega)]
    rw [fits_cat (b := itoaB t) (by simp only [ByteArray.size_append]; show _ + 1 + _ ≤ _; omega)]
    rw [fits_cat (b := ⟨#[117, 109, 32, 116]⟩) (by simp only [ByteArray.size_append]; show _ + 1 + _ + 4 ≤ _; omega)]
    rw [fits_cat (b := itoaB n) (by simp only [ByteArray.size_append]; show _ + 1 + _ + 4 + _ ≤ _; omega)]
    have key : ∀ s : ByteArray, s = mid ⟨i, t, n, d, l⟩ → GiPaperText.j0 d s = some (txt ⟨i, t, n, d, l⟩, true) := by
      rintro s rfl
      simp only [GiPaperText.j0, GiPaperText.j1, letK, iteK_if]
      unfold txt
      by_cases he : d.toList.isEmpty = true
      · simp [he]
      · rw [if_pos (by simp [he]), fits_cat (by show 5 + _ ≤ _; omega), fits_cat (by simp only [ByteArray.size_append]; show _ + (5 + _) ≤ _; omega), if_neg (by simpa using he)]
        rfl
    cases l with
    | true =>
      simp only [if_true]
      rw [fits_cat (by show (front ⟨i, t, n, d, true⟩).size + 5 ≤ _; omega)]
      exact key _ rfl
    | false => simp only [Bool.false_eq_true, if_false]; exact key _ rfl
theorem spec_eq (p : Paper) (hf : p.fits) (hm : p.mark.size ≤ 1048576) : GsPaperText.P p = some (if okPa p then (txt p, true) else (⟨#[]⟩, false)) := by
  have hl := l3One_eq p hf
  cases hok : okPa p with
  | false => rw [hok] at hl; obtain ⟨a, b, c, d, e⟩ := p; simp [GsPaperText.P, unPaper, hl, letK, iteK_if]
  | true =>
    rw [hok] at hl
    obtain ⟨h1, h2, h3⟩ := ok_in hok
    have hfs := front_size hok; have hms := mid_size hok
    have a := itoaB_size (n := p.id) (by omega) (by omega)
    have b := itoaB_size (n := p.thick) (by omega) (by omega)
    have c := itoaB_size (n := p.tint) (by omega) (by omega)
    obtain ⟨i, t, n, d, l⟩ := p
    dsimp only at h1 h2 h3 a b c hm
    have hi := num_eq (n := i) (by omega) (by omega); have ht := num_eq (n := t) (by omega) (by omega); have hn := num_eq (n := n) (by omega) (by omega)
    simp only [GsPaperText.P, GsL3Text.P, unPaper, hl, hi, ht, hn, Option.bind_some, letK, iteK_if, Bool.not_true, Bool.false_eq_true, if_false]
    rw [fits_cat (b := ⟨#[32]⟩) (by show _ + 1 ≤ _; omega)]
    rw [fits_cat (b := itoaB t) (by simp only [ByteArray.size_append]; show _ + 1 + _ ≤ _; omega)]
    rw [fits_cat (b := ⟨#[117, 109, 32, 116]⟩) (by simp only [ByteArray.size_append]; show _ + 1 + _ + 4 ≤ _; omega)]
    rw [fits_cat (b := itoaB n) (by simp only [ByteArray.size_append]; show _ + 1 + _ + 4 + _ ≤ _; omega)]
    have key : ∀ s : ByteArray, s = mid ⟨i, t, n, d, l⟩ → GsL3Text.j0 d s = some (txt ⟨i, t, n, d, l⟩) := by
      rintro s rfl
      simp only [GsL3Text.j0, GsL3Text.j1, letK, iteK_if]
      unfold txt
      by_cases he : d.toList.isEmpty = true
      · simp [he]
      · rw [if_pos (by simp [he]), fits_cat (by show _ + 5 ≤ _; omega), fits_cat (by simp only [ByteArray.size_append]; show _ + 5 + _ ≤ _; omega), if_neg (by simpa using he), ByteArray.append_assoc]
        rfl
    cases l with
    | true =>
      simp only [if_true]
      rw [fits_cat (by show (front ⟨i, t, n, d, true⟩).size + 5 ≤ _; omega)]
      show Option.bind (GsL3Text.j0 d (mid ⟨i, t, n, d, true⟩)) _ = _
      rw [key _ rfl]; rfl
    | false =>
      simp only [Bool.false_eq_true, if_false]
      show Option.bind (GsL3Text.j0 d (mid ⟨i, t, n, d, false⟩)) _ = _
      rw [key _ rfl]; rfl
theorem paperText (p : Paper) (hf : p.fits) : GlFnExactPaperText.P p = some true := by
  have hz := szOne p 1048576 hf (by omega) (by omega)
  have hw : (p.wt : Int) = (p.mark.size : Int) := rfl
  by_cases hc : (1048576 : Int) < (p.wt : Int)
  · rw [if_pos hc] at hz
    obtain ⟨i, t, n, d, l⟩ := p
    simp [GlFnExactPaperText.P, unPaper, hz, letK, iteK_if]
  · rw [if_neg hc] at hz
    have e1 := impl_eq p hf (by omega); have e2 := spec_eq p hf (by omega); have e3 := toOne p
    have hn : ¬ (1048576 - (p.wt : Int) < 0) := by omega
    obtain ⟨i, t, n, d, l⟩ := p
    simp only [GlFnExactPaperText.P, unPaper, hz, e3, e2, Option.bind_some, letK, joinK, appK, iteK_if]
    rw [if_neg (by simpa using hn)]
    cases hok : okPa ⟨i, t, n, d, l⟩ <;> simp [e1, hok, bind2]
end Go.Proofs.YtfbdaedoofkcbabDoor.QPaperText
