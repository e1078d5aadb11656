/- The laws of IsPaper, ArePapers and NearestPaper as plain functions: each answers true. Conditions: the fields fit. -/
import Derived.Test.YtdgbigkcophjoaaQPaper
import Derived.Test.YtdgbigkcophjoaaGlFnExactArePapers
import Derived.Test.YtdgbigkcophjoaaGlFnExactNearestPaper
namespace Go.Proofs.Ytdgbigkcophjoaa.QPaperLaws
set_option linter.unusedVariables false
set_option linter.unusedSimpArgs false
open Go.RowKit
open Go.Proofs.Ytdgbigkcophjoaa.GoP Go.Proofs.Ytdgbigkcophjoaa.PlainStamp Go.Proofs.Ytdgbigkcophjoaa.QBase Go.Proofs.Ytdgbigkcophjoaa.QLoop Go.Proofs.Ytdgbigkcophjoaa.PPaper Go.Proofs.Ytdgbigkcophjoaa.QOnePaper Go.Proofs.Ytdgbigkcophjoaa.QPaper

theorem law_arePapers (l : List Paper) (hf : ∀ s ∈ l, s.fits) (hl : l.length ≤ 9223372036854775807) : GlFnExactArePapers.P l = some true := by
  obtain ⟨v, hv, hn⟩ := szS l hf hl
  simp only [GlFnExactArePapers.P, hv, Option.bind_some, letK, iteK_if]
  by_cases hb : v < 0
  · rw [if_pos (by simp; omega)]
  · rw [if_neg (by simp; omega)]
    simp [toS l (hn (by omega)), GsArePapers.P, l3Good_eq l hf hl, arePapers_eq, eqS]

def nearStep (t : Int) (s : Int × Int) (p : Paper) : Int × Int := if max (p.thick - t) (t - p.thick) < s.2 then (p.id, max (p.thick - t) (t - p.thick)) else s
def nearRes (l : List Paper) (t : Int) : Int × Int × Bool :=
  if okPas l && inB t 1 300 && !decide (l.length = 0) then ((l.foldl (nearStep t) (0, 300)).1, (l.foldl (nearStep t) (0, 300)).2, true) else (0, 0, false)
theorem most_eq (a b : Int) : GsL1Most.P a b = some (max a b) := by
  simp only [GsL1Most.P, letK, iteK_if]
  by_cases h : b < a
  · rw [if_pos (by simpa using h)]; congr 1; omega
  · rw [if_neg (by simpa using h)]; congr 1; omega
theorem thick_in {l : List Paper} (h : okPas l = true) {s : Paper} (hs : s ∈ l) : 1 ≤ s.thick ∧ s.thick ≤ 300 := by
  have := upL_mem h hs
  unfold okPa at this
  simp only [Bool.and_eq_true] at this
  exact inB_of this.1.1.2
theorem near_impl (l : List Paper) (t : Int) (hz : l.length ≤ 9223372036854775807) : GiNearestPaper.P l t = some (nearRes l t) := by
  simp only [GiNearestPaper.P, arePapers_eq, within_eq, Option.bind_some, letK, joinK, appK, iteK_if, nearRes]
  by_cases h0 : l.length = 0
  · simp [h0]
  · cases hok : okPas l with
    | false => simp [h0]
    | true =>
      cases ht : inB t 1 300 with
      | false => simp [h0]
      | true =>
        have hb := inB_of ht
        simp [h0]
        refine cnt_is _ (fun k s => s = (l.take k).foldl (nearStep t) (0, 300)) ?_ ?_ _ (by simp)
        · intro k s nx hk hI hn
          obtain ⟨x, hx, hi⟩ := at_lt (l := l) (k := k) hk
          obtain ⟨s1, s2⟩ := s
          have hti := thick_in hok (List.mem_of_getElem? hx)
          have hne := hn (nearStep t (s1, s2) x) (by rw [take_next hx, List.foldl_append, ← hI]; rfl)
          simp only [GiNearestPaper.l0, unp2, hi, Option.bind_some, unPaper, letK, appK, iteK_if]
          rw [wrap_in (by omega) (by omega), wrap_in (by omega) (by omega)]
          have he : nearStep t (s1, s2) x = if max (x.thick - t) (t - x.thick) < s2 then (x.id, max (x.thick - t) (t - x.thick)) else (s1, s2) := rfl
          rw [he] at hne
          by_cases hlt : max (x.thick - t) (t - x.thick) < s2
          · rw [if_pos hlt] at hne; simpa [hlt] using hne
          · rw [if_neg hlt] at hne; simpa [hlt] using hne
        · intro s hI
          rw [List.take_of_length_le (Nat.le_refl _)] at hI
          subst hI; rfl
theorem fold_same {l : List Paper} {t : Int} (hok : okPas l = true) (ht : 1 ≤ t ∧ t ≤ 300) (h0 : l.length ≠ 0) : l.foldl (nearStep t) (0, 301) = l.foldl (nearStep t) (0, 300) := by
  cases l with
  | nil => simp at h0
  | cons x l =>
    have hx := thick_in hok (s := x) (by simp)
    have e : nearStep t (0, 301) x = nearStep t (0, 300) x := by
      unfold nearStep
      rw [if_pos (by dsimp only; omega), if_pos (by dsimp only; omega)]
    simp only [List.foldl_cons, e]
theorem near_spec (l : List Paper) (t : Int) (hf : ∀ s ∈ l, s.fits) (hz : l.length ≤ 9223372036854775807) : GsNearestPaper.P l t = some (nearRes l t) := by
  simp only [GsNearestPaper.P, l3Good_eq l hf hz, l1In_eq, Option.bind_some, letK, joinK, appK, iteK_if, nearRes]
  cases hok : okPas l with
  | false => simp
  | true =>
    cases ht : inB t 1 300 with
    | false => simp
    | true =>
      have hb := inB_of ht
      by_cases h0 : l.length = 0
      · simp [h0]
      · simp [h0]
        rw [← fold_same hok hb h0]
        refine cnt_is _ (fun k s => s = (l.take k).foldl (nearStep t) (0, 301)) ?_ ?_ _ (by simp)
        · intro k s nx hk hI hn
          obtain ⟨x, hx, hi⟩ := at_lt (l := l) (k := k) hk
          obtain ⟨s1, s2⟩ := s
          have hti := thick_in hok (List.mem_of_getElem? hx)
          have hne := hn (nearStep t (s1, s2) x) (by rw [take_next hx, List.foldl_append, ← hI]; rfl)
          simp only [GsNearestPaper.l0, unp2, hi, Option.bind_some, unPaper, letK, appK, iteK_if, most_eq]
          rw [wrap_in (by omega) (by omega), wrap_in (by omega) (by omega)]
          have he : nearStep t (s1, s2) x = if max (x.thick - t) (t - x.thick) < s2 then (x.id, max (x.thick - t) (t - x.thick)) else (s1, s2) := rfl
          rw [he] at hne
          by_cases hlt : max (x.thick - t) (t - x.thick) < s2
          · rw [if_pos hlt] at hne; simpa [hlt] using hne
          · rw [if_neg hlt] at hne; simpa [hlt] using hne
        · intro s hI
          rw [List.take_of_length_le (Nat.le_refl _)] at hI
          subst hI; rfl
theorem law_near (l : List Paper) (t : Int) (hf : ∀ s ∈ l, s.fits) (hl : l.length ≤ 9223372036854775807) : GlFnExactNearestPaper.P l t = some true := by
  obtain ⟨v, hv, hn⟩ := szS l hf hl
  simp only [GlFnExactNearestPaper.P, hv, Option.bind_some, letK, iteK_if]
  by_cases hb : v < 0
  · rw [if_pos (by simp; omega)]
  · rw [if_neg (by simp; omega)]
    obtain ⟨⟨a, b, c⟩, hr⟩ : ∃ x, x = nearRes l t := ⟨_, rfl⟩
    simp [toS l (hn (by omega)), near_spec l t hf hl, near_impl l t hl, ← hr, bind3, joinK, appK, iteK_if, eqS]
end Go.Proofs.Ytdgbigkcophjoaa.QPaperLaws
