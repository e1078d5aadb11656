/- Stamps: the plain functions of the tests of a stamp and of a list of stamps, of the laws' helpers on stamps, of IssuedBy; the laws of AreStamps and IssuedBy as plain functions answer true. No condition. -/
import Derived.Test.YtdgbigkcophjoaaQInt
import Derived.Test.YtdgbigkcophjoaaGlFnExactAreStamps
import Derived.Test.YtdgbigkcophjoaaGlFnExactIssuedBy
namespace Go.Proofs.Ytdgbigkcophjoaa.QStamp
set_option linter.unusedVariables false
set_option linter.unusedSimpArgs false
open Go.RowKit
open Go.Proofs.Ytdgbigkcophjoaa.GoP Go.Proofs.Ytdgbigkcophjoaa.PlainStamp Go.Proofs.Ytdgbigkcophjoaa.QBase Go.Proofs.Ytdgbigkcophjoaa.QLoop Go.Proofs.Ytdgbigkcophjoaa.QInt

theorem isStamp_eq (p : St) : GiIsStamp.P p = some (okSt p) := by
  obtain ⟨a, b, c, d⟩ := p
  simp only [GiIsStamp.P, unStamp, within_eq, Option.bind_some, letK, joinK, appK, iteK_if, okSt]
  cases inB a 1 999 <;> cases inB b 0 9999 <;> cases inB c 0 99 <;> simp
theorem l2Stamp_eq (p : St) : GsL2Stamp.P p = some (okSt p) := by
  obtain ⟨a, b, c, d⟩ := p
  simp only [GsL2Stamp.P, GsL2Year.P, unStamp, l1In_eq, Option.bind_some, letK, joinK, appK, iteK_if, okSt]
  cases inB a 1 999 <;> cases inB b 0 9999 <;> cases inB c 0 99 <;> simp
def okS (l : List St) : Bool := upL 12 okSt St.id l
theorem areStamps_eq (l : List St) : GiAreStamps.P l = some (okS l) := by
  simp only [GiAreStamps.P, GiAreByKeyStampIntiIsStampiIdOfStamp.P, letK, iteK_if]
  by_cases hl : l.length ≤ 12
  · rw [if_neg (by simp; omega), up_loop (ok := okSt) (id := St.id) (no := false)]
    · unfold okS upL; cases upTo okSt St.id l l.length <;> simp [hl, GiAreByKeyStampIntiIsStampiIdOfStamp.e0]
    · intro k nx s hs
      have hi : idx l (k : Int) = some s := by rw [idx_nat, hs]
      have hk : k < l.length := (List.getElem?_eq_some_iff.1 hs).1
      simp only [GiAreByKeyStampIntiIsStampiIdOfStamp.l0, hi, Option.bind_some, unStamp, isStamp_eq, GiIdOfStamp.P, letK, joinK, appK, iteK_if]
      refine ⟨fun h => by simp [h], fun h => ⟨fun h0 => by subst h0; simp [h], fun h0 r hr => ?_⟩⟩
      rw [idx_pred h0 (by omega) hr]
      have hk0 : (0 : Int) < (k : Int) := by omega
      have hk1 : ¬ k = 0 := by omega
      exact ⟨fun hlt => by (have hc : ¬ s.id ≤ r.id := by omega); simp [h, hk0, hk1, hc], fun hge => by simp [h, hk0, hk1, hge]⟩
  · rw [if_pos (by simp; omega)]; unfold okS upL; simp [hl]
theorem l2Stamps_eq (l : List St) (hl : l.length ≤ 9223372036854775807) : GsL2Stamps.P l = some (okS l) := by
  simp only [GsL2Stamps.P]
  rw [up_loop (ok := okSt) (id := St.id) (no := false)]
  · unfold okS upL; cases upTo okSt St.id l l.length <;> simp [GsL2Stamps.e0, letK]; omega
  · intro k nx s hs
    have hi : idx l (k : Int) = some s := by rw [idx_nat, hs]
    have hk : k < l.length := (List.getElem?_eq_some_iff.1 hs).1
    simp only [GsL2Stamps.l0, hi, Option.bind_some, unStamp, l2Stamp_eq, letK, joinK, appK, iteK_if]
    refine ⟨fun h => by simp [h], fun h => ⟨fun h0 => by subst h0; simp [h], fun h0 r hr => ?_⟩⟩
    rw [idx_pred h0 (by omega) hr]
    have hk0 : (0 : Int) < (k : Int) := by omega
    have hk1 : ¬ k = 0 := by omega
    exact ⟨fun hlt => by (have hc : ¬ s.id ≤ r.id := by omega); simp [h, hk0, hk1, hc], fun hge => by simp [h, hk0, hk1, hge]⟩

theorem toOne (s : St) : GlToStamp.P s = some s := by cases s; rfl
theorem eqOne (s : St) : GlEqStamp.P s s = some true := by cases s; simp [GlEqStamp.P, unStamp, letK, joinK, appK, iteK_if]
theorem toS (l : List St) (hl : l.length ≤ 1048576) : GlToStampS.P l = some l := by
  simp only [GlToStampS.P, letK]
  rw [guardK_pos (by omega)]
  refine cnt_is l (fun k s => s = l.take k ++ List.replicate (l.length - k) (St.mk 0 0 0 0)) ?_ ?_ _ (by simp)
  · intro k s nx hk hI hn
    obtain ⟨x, hx, hi⟩ := at_lt (l := l) (k := k) hk
    have hlen : s.length = l.length := by rw [hI]; simp; omega
    obtain ⟨z, hz, hj⟩ := at_lt (l := s) (k := k) (by omega)
    simp only [GlToStampS.l0, hi, hj, toOne, Option.bind_some, unStamp, letK, appK]
    refine hn _ ?_
    rw [hI, take_next hx, List.set_append_right _ _ (by simp; omega)]
    have hr : l.length - k = (l.length - (k + 1)) + 1 := by omega
    rw [hr, List.replicate_succ, List.append_assoc]
    simp [show k - min k l.length = 0 by omega]
  · intro s hI
    rw [hI]; simp [GlToStampS.e0, letK]
theorem eqS (l : List St) : GlEqStampS.P l l = some true := by
  simp only [GlEqStampS.P, letK, iteK_if]
  rw [if_neg (by simp)]
  refine cnt_is true (fun _ _ => True) ?_ (fun s _ => rfl) () trivial
  intro k s nx hk _ hn
  obtain ⟨x, hx, hi⟩ := at_lt (l := l) (k := k) hk
  simp only [GlEqStampS.l0, hi, Option.bind_some, unStamp, eqOne, letK, appK, iteK_if]
  exact hn () trivial
theorem szS (l : List St) (hl : l.length ≤ 9223372036854775807) : GlSzStampS.P l 1048576 = some (if l.length ≤ 1048576 then 1048576 - (l.length : Int) else -1) := by
  simp only [GlSzStampS.P, letK, iteK_if]
  rw [wrap_in (by omega) (by omega)]
  by_cases h : l.length ≤ 1048576
  · rw [if_neg (by simp; omega), if_pos h]
  · rw [if_pos (by simp; omega), if_neg h]
theorem set_at {α : Type} {l : List α} {k : Nat} (x : α) (h : k < l.length) : idx (l.set k x) (k : Int) = some x := by rw [idx_nat, List.getElem?_set_self h]
theorem markS (l : List St) (hl : l.length ≤ 1048576) : ∃ v l', GlMarkStampS.P l 1 = some (v, l') ∧ 0 ≤ v := by
  obtain ⟨⟨v, l'⟩, h, hv⟩ : ∃ r : Int × List St, GlMarkStampS.P l 1 = some r ∧ 0 ≤ r.1 := by
    simp only [GlMarkStampS.P]
    refine cnt_ex (n := l.length) (Q := fun r : Int × List St => 0 ≤ r.1) (fun k (s : List St × Int) => s.1.length = l.length ∧ s.2 = 4 * (k : Int) + 1) ?_ ?_ l.length 0 (l, 1) (by omega) ⟨rfl, rfl⟩
    · rintro k ⟨a, b⟩ nx hk ⟨h1, h2⟩ hn
      dsimp only at h1 h2
      obtain ⟨x, hx, hi⟩ := at_lt (l := a) (k := k) (by omega)
      have ha : k < a.length := by omega
      simp only [GlMarkStampS.l0, unp2, hi, Option.bind_some, unStamp, letK, appK]
      rw [wrap_in (x := b + 1) (by omega) (by omega), set_at _ ha]
      simp only [Option.bind_some]
      rw [wrap_in (x := b + 1 + 1) (by omega) (by omega), set_at _ (by simpa using ha)]
      simp only [Option.bind_some]
      rw [wrap_in (x := b + 1 + 1 + 1) (by omega) (by omega), set_at _ (by simpa using ha)]
      simp only [Option.bind_some]
      refine hn _ ⟨by simpa using h1, ?_⟩
      dsimp only
      rw [wrap_in (x := b + 1 + 1 + 1 + 1) (by omega) (by omega)]
      omega
    · rintro ⟨a, b⟩ ⟨h1, h2⟩
      exact ⟨_, rfl, by dsimp only at h2 ⊢; omega⟩
  exact ⟨v, l', h, hv⟩

theorem law_areStamps (l : List St) (hl : l.length ≤ 9223372036854775807) : GlFnExactAreStamps.P l = some true := by
  simp only [GlFnExactAreStamps.P, szS l hl, Option.bind_some, letK, iteK_if]
  by_cases hb : l.length ≤ 1048576
  · rw [if_pos hb]
    have h0 : ¬ ((1048576 : Int) - (l.length : Int) < 0) := by omega
    simp [h0, toS l hb, GsAreStamps.P, l2Stamps_eq l hl, areStamps_eq, eqS]
  · rw [if_neg hb]; rfl
def issRes (l : List St) (y : Int) : List Int × Bool :=
  if okS l && inB y 1840 2100 then ((l.filter (fun s => decide (s.year ≤ y))).map St.id, true) else ([], false)
theorem issRes_len (l : List St) (y : Int) : (issRes l y).1.length ≤ l.length := by
  unfold issRes
  split
  · rw [List.length_map]; exact List.length_filter_le _ _
  · simp
theorem iss_impl (l : List St) (y : Int) : GiIssuedBy.P l y = some (issRes l y) := by
  simp only [GiIssuedBy.P, areStamps_eq, within_eq, Option.bind_some, letK, joinK, appK, iteK_if, issRes]
  cases hok : okS l with
  | false => simp
  | true =>
    have hl := upL_len hok
    have key : GiKeysWhereStampIntiIdOfStampiIssuedBy1.P l y = some ((l.filter (fun s => decide (s.year ≤ y))).map St.id) := by
      simp only [GiKeysWhereStampIntiIdOfStampiIssuedBy1.P]
      rw [gather (p := fun s : St => decide (s.year ≤ y)) (g := St.id) (by omega)]
      · simp [GiKeysWhereStampIntiIdOfStampiIssuedBy1.e0, letK]
      · intro k nx x s hx hs
        have hi : idx l (k : Int) = some x := by rw [idx_nat, hx]
        simp only [GiKeysWhereStampIntiIdOfStampiIssuedBy1.l0, hi, Option.bind_some, unStamp, GiIssuedBy1.P, GiIdOfStamp.P, letK, joinK, appK, iteK_if]
        rw [guardK_pos hs]
        by_cases hy : x.year ≤ y <;> simp [hy]
    cases inB y 1840 2100 <;> simp [key]
theorem iss_spec (l : List St) (y : Int) (hz : l.length ≤ 9223372036854775807) : GsIssuedBy.P l y = some (issRes l y) := by
  simp only [GsIssuedBy.P, l2Stamps_eq l hz, GsL2Year.P, l1In_eq, Option.bind_some, letK, joinK, appK, iteK_if, issRes]
  cases hok : okS l with
  | false => simp
  | true =>
    have hl := upL_len hok
    have key : cntK (GsIssuedBy.l0 l y) l.length 0 ([] : List Int) GsIssuedBy.e0 = some ((l.filter (fun s => decide (s.year ≤ y))).map St.id, true) := by
      rw [gather (p := fun s : St => decide (s.year ≤ y)) (g := St.id) (by omega)]
      · simp [GsIssuedBy.e0, letK]
      · intro k nx x s hx hs
        have hi : idx l (k : Int) = some x := by rw [idx_nat, hx]
        simp only [GsIssuedBy.l0, hi, Option.bind_some, unStamp, letK, joinK, appK, iteK_if]
        rw [guardK_pos hs]
        by_cases hy : x.year ≤ y <;> simp [hy]
    cases inB y 1840 2100 <;> simp [key]
theorem law_issued (l : List St) (y : Int) (hl : l.length ≤ 9223372036854775807) : GlFnExactIssuedBy.P l y = some true := by
  simp only [GlFnExactIssuedBy.P, szS l hl, Option.bind_some, letK, iteK_if]
  by_cases hb : l.length ≤ 1048576
  · rw [if_pos hb]
    have h0 : ¬ ((1048576 : Int) - (l.length : Int) < 0) := by omega
    obtain ⟨⟨a, b⟩, hr⟩ : ∃ x, x = issRes l y := ⟨_, rfl⟩
    have hlen : a.length ≤ 1099511627776 := by have := issRes_len l y; rw [← hr] at this; dsimp only at this; omega
    obtain ⟨v2, l2, hk, hv2⟩ := markS l hb
    have hv3 : ¬ v2 < 0 := by omega
    have hv4 : ¬ (a.length : Int) + 1 < 0 := by omega
    simp [h0, toS l hb, iss_spec l y hl, iss_impl l y, ← hr, bind2, joinK, appK, iteK_if, eqS, eqI, hk, hv3, markI a hlen, heldI a.length hlen, hv4]
  · rw [if_neg hb]; rfl
end Go.Proofs.Ytdgbigkcophjoaa.QStamp
