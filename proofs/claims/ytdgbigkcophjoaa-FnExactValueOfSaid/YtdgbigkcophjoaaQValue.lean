/- ValueOf: the plain functions agree; its law as a plain function answers true. Condition: the lists' lengths fit an int. -/
import Derived.Test.YtdgbigkcophjoaaQStamp
import Derived.Test.YtdgbigkcophjoaaPlainValue
import Derived.Test.YtdgbigkcophjoaaGlFnExactValueOf
namespace Go.Proofs.Ytdgbigkcophjoaa.QValue
set_option linter.unusedVariables false
set_option linter.unusedSimpArgs false
open Go.RowKit
open Go.Proofs.Ytdgbigkcophjoaa.GoP Go.Proofs.Ytdgbigkcophjoaa.PlainStamp Go.Proofs.Ytdgbigkcophjoaa.PlainValue Go.Proofs.Ytdgbigkcophjoaa.QBase Go.Proofs.Ytdgbigkcophjoaa.QLoop Go.Proofs.Ytdgbigkcophjoaa.QInt Go.Proofs.Ytdgbigkcophjoaa.QStamp

theorem okS_is (l : List St) : okS l = okSts l := by
  have h : upAt okSt St.id l = okAt l := by
    funext k
    unfold upAt okAt
    cases l[k]? with
    | none => rfl
    | some s => cases l[k-1]? <;> rfl
  unfold okS upL upTo okSts okUp
  rw [h]
theorem val_impl (l : List St) (f : List Int) : GiValueOf.P l f = some (valRes l f) := by
  simp only [GiValueOf.P, areStamps_eq, okS_is, Option.bind_some, letK, joinK, appK, iteK_if]
  cases hok : okSts l with
  | false => rw [valRes_no1 hok]; simp
  | true =>
    by_cases h40 : 40 < f.length
    · have h4 : (40 : Int) < (f.length : Int) := by omega
      rw [valRes_no2 h40]; simp [h4]
    · have h4 : ¬ (40 : Int) < (f.length : Int) := by omega
      have hl : l.length ≤ 12 := upL_len (by rw [← okS_is] at hok; exact hok)
      simp [h4]
      refine cnt_is _ (fun k s => frUp l f k = true ∧ s = (sumUp l f k, leastUp f k)) ?_ ?_ _ ⟨frUp_zero l f, rfl⟩
      · rintro k s nx hk ⟨hu, rfl⟩ hn
        obtain ⟨x, hx, hi⟩ := at_lt (l := f) (k := k) hk
        have he := frAt_eq hu hx
        have hsb := sumUp_bd hok f k
        simp only [GiValueOf.l0, unp2, hi, Option.bind_some, letK, appK, iteK_if, within_eq]
        rw [wrap_in (x := (l.length : Int) - 1) (by omega) (by omega)]
        cases hin : inB x (leastUp f k) ((l.length : Int) - 1) with
        | false => rw [valRes_no3 (he.trans hin) hk]; simp [hin]
        | true =>
          have hb := inB_of hin
          have h0 := leastUp_nn hu
          obtain ⟨j, rfl⟩ := Int.eq_ofNat_of_zero_le (show 0 ≤ x by omega)
          obtain ⟨s, hs, hj⟩ := at_lt (l := l) (k := j) (by omega)
          have hf := faceAt_bd hok (j : Int)
          have hfe := faceAt_of hs
          have hne := hn (sumUp l f (k + 1), leastUp f (k + 1)) ⟨by rw [frUp_succ, hu, he, hin]; rfl, rfl⟩
          rw [sumUp_succ hx, leastUp_succ hx, hfe] at hne
          try simp only [Int.ofNat_eq_natCast] at hj ⊢
          simp only [hj, hin, Option.bind_some, unStamp]
          rw [wrap_in (by rw [← hfe]; omega) (by rw [← hfe]; omega)]
          simpa using hne
      · rintro s ⟨hu, rfl⟩
        rw [valRes_yes hok (by omega) hu]; rfl
theorem val_spec (l : List St) (f : List Int) (hz : l.length ≤ 9223372036854775807) (hzf : f.length ≤ 9223372036854775807) : GsValueOf.P l f = some (valRes l f) := by
  simp only [GsValueOf.P, l2Stamps_eq l hz, okS_is, Option.bind_some, letK, joinK, appK, iteK_if]
  cases hok : okSts l with
  | false => rw [valRes_no1 hok]; simp
  | true =>
    by_cases h40 : 40 < f.length
    · have h4 : (40 : Int) < (f.length : Int) := by omega
      rw [valRes_no2 h40]; simp [h4]
    · have h4 : ¬ (40 : Int) < (f.length : Int) := by omega
      have hl : l.length ≤ 12 := upL_len (by rw [← okS_is] at hok; exact hok)
      simp [h4]
      refine cnt_is _ (fun k s => frUp l f k = true ∧ s = sumUp l f k) ?_ ?_ _ ⟨frUp_zero l f, rfl⟩
      · rintro k s nx hk ⟨hu, rfl⟩ hn
        obtain ⟨x, hx, hi⟩ := at_lt (l := f) (k := k) hk
        have hsb := sumUp_bd hok f k
        have his := frAt_is (l := l) hx
        simp only [GsValueOf.l0, hi, Option.bind_some, letK, joinK, appK, iteK_if]
        by_cases hgood : frAt l f k = true
        · obtain ⟨⟨g1, g2⟩, g3⟩ := his.1 hgood
          obtain ⟨j, rfl⟩ := Int.eq_ofNat_of_zero_le g1
          try simp only [Int.ofNat_eq_natCast] at *
          obtain ⟨s, hs, hj⟩ := at_lt (l := l) (k := j) (by omega)
          have hf := faceAt_bd hok (j : Int)
          have hfe := faceAt_of hs
          have hne := hn (sumUp l f (k + 1)) ⟨by rw [frUp_succ, hu, hgood]; rfl, rfl⟩
          rw [sumUp_succ hx, hfe] at hne
          have c1 : ¬ (j : Int) < 0 := by omega
          have c2 : ¬ (l.length : Int) ≤ (j : Int) := by omega
          have hw : IntKind.i64.wrap (sumUp l f k + s.face) = sumUp l f k + s.face := wrap_in (by rw [← hfe]; omega) (by rw [← hfe]; omega)
          by_cases hk0 : k = 0
          · subst hk0
            simp [c1, c2, hj, unStamp, hw]
            simpa using hne
          · obtain ⟨r, hr, _⟩ := at_lt (l := f) (k := k - 1) (by omega)
            have hp := idx_pred (l := f) (k := k) (by omega) (by omega) hr
            have c3 : ¬ (j : Int) < r := by rcases g3 with g3 | g3; · exact absurd g3 hk0
                                            · have := g3 r hr; omega
            have c4 : 0 < k := by omega
            simp [c1, c2, c3, c4, hk0, hj, hp, unStamp, hw]
            simpa using hne
        · rw [valRes_no3 (by simpa using hgood) hk]
          have hbad : ¬ ((0 ≤ x ∧ x < (l.length : Int)) ∧ (k = 0 ∨ ∀ r, f[k-1]? = some r → r ≤ x)) := fun h => hgood (his.2 h)
          by_cases c1 : x < 0
          · simp [c1]
          · by_cases c2 : (l.length : Int) ≤ x
            · simp [c1, c2]
            · by_cases hk0 : k = 0
              · exact absurd ⟨⟨by omega, by omega⟩, .inl hk0⟩ hbad
              · obtain ⟨r, hr, _⟩ := at_lt (l := f) (k := k - 1) (by omega)
                have hp := idx_pred (l := f) (k := k) (by omega) (by omega) hr
                have c3 : x < r := by
                  by_cases h : x < r
                  · exact h
                  · exact absurd ⟨⟨by omega, by omega⟩, .inr (fun q hq => by rw [hr] at hq; obtain rfl := Option.some.inj hq; omega)⟩ hbad
                have c4 : 0 < k := by omega
                simp [c1, c2, c3, c4, hk0, hp]
      · rintro s ⟨hu, rfl⟩
        rw [valRes_yes hok (by omega) hu]; rfl
theorem toI (l : List Int) (hl : l.length ≤ 1048576) : GlToIntS.P l = some l := by
  simp only [GlToIntS.P, letK]
  rw [guardK_pos (by omega)]
  refine cnt_is l (fun k s => s = l.take k ++ List.replicate (l.length - k) (0 : Int)) ?_ ?_ _ (by simp)
  · intro k s nx hk hI hn
    obtain ⟨x, hx, hi⟩ := at_lt (l := l) (k := k) hk
    have hlen : s.length = l.length := by rw [hI]; simp; omega
    obtain ⟨z, hz, hj⟩ := at_lt (l := s) (k := k) (by omega)
    simp only [GlToIntS.l0, hi, hj, Option.bind_some, letK, appK]
    refine hn _ ?_
    rw [hI, take_next hx, List.set_append_right _ _ (by simp; omega)]
    have hr : l.length - k = (l.length - (k + 1)) + 1 := by omega
    rw [hr, List.replicate_succ, List.append_assoc]
    simp [show k - min k l.length = 0 by omega]
  · intro s hI
    rw [hI]; simp [GlToIntS.e0, letK]
theorem law_value (l : List St) (f : List Int) (hl : l.length ≤ 9223372036854775807) (hf : f.length ≤ 9223372036854775807) : GlFnExactValueOf.P l f = some true := by
  simp only [GlFnExactValueOf.P, szS l hl, Option.bind_some, letK, iteK_if]
  by_cases hbig : (1048576 : Int) < (f.length : Int)
  · simp [hbig]
  · by_cases hb : l.length ≤ 1048576
    · rw [if_pos hb]
      have h0 : ¬ ((1048576 : Int) - (l.length : Int) < 0) := by omega
      obtain ⟨⟨a, b⟩, hr⟩ : ∃ x, x = valRes l f := ⟨_, rfl⟩
      simp [hbig, h0, toS l hb, toI f (by omega), val_spec l f hl hf, val_impl l f, ← hr, bind2, joinK, appK, iteK_if, eqS, eqI]
    · rw [if_neg hb]; simp [hbig]
end Go.Proofs.Ytdgbigkcophjoaa.QValue
