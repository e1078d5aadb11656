/- The texts on which the proof of FnExactFirstWithout stands, one behind the other (3 of 3). No condition of their own. -/
import Derived.Test.YtkinlkmmelkdnaaFnExactFirstWithoutP2
import Derived.Test.YtkinlkmmelkdnaaFnExactFirstWithoutP1
/- Chapter 8: rates: the plain functions of the program and of the reference agree, and the laws answer true. (Q8Spans) No condition but those of each theorem. -/
namespace Go.Proofs.Ytkinlkmmelkdnaa.Q8Spans
set_option linter.unusedVariables false
set_option linter.unusedSimpArgs false
open Go.RowKit
open Go.Proofs.Ytkinlkmmelkdnaa.GoP Go.Proofs.Ytkinlkmmelkdnaa.PlainStamp Go.Proofs.Ytkinlkmmelkdnaa.QBase Go.Proofs.Ytkinlkmmelkdnaa.Q8Days Go.Proofs.Ytkinlkmmelkdnaa.Q8Span Go.Proofs.Ytkinlkmmelkdnaa.QUp Go.Proofs.Ytkinlkmmelkdnaa.QSort Go.Proofs.Ytkinlkmmelkdnaa.QFold Go.Proofs.Ytkinlkmmelkdnaa.QRiseL Go.Proofs.Ytkinlkmmelkdnaa.QOrd Go.Proofs.Ytkinlkmmelkdnaa.Q8For Go.Proofs.Ytkinlkmmelkdnaa.Q8List Go.Proofs.Ytkinlkmmelkdnaa.Q8Rate Go.Proofs.Ytkinlkmmelkdnaa.QLoop Go.Proofs.Ytkinlkmmelkdnaa.PIntA3 Go.Proofs.Ytkinlkmmelkdnaa.PRate

def fr (l : List Rate) (zone grams : Int) (d : Nat) : Int := rateV l (d : Int) zone grams
def spanL (l : List Rate) (zone grams : Int) : List IntA3 := (refS (fr l zone grams) 4001).1
/-- the k-th turning day; the day behind all days where there is none -/
def dayN (l : List Rate) (k : Nat) : Nat := match (tdays l)[k]? with | none => 4001 | some d => d.toNat
theorem spans_len (l : List Rate) (zone grams : Int) : (spanL l zone grams).length ≤ 4001 := by
  have key : ∀ n, (refS (fr l zone grams) n).1.length ≤ n := by
    intro n
    induction n with
    | zero => simp [refS]
    | succ n ih =>
      show (stepS _ (refS _ n) n).1.length ≤ n + 1
      unfold stepS
      split
      · dsimp only
        split
        · rcases List.eq_nil_or_concat (refS (fr l zone grams) n).1 with e | ⟨m, y, e⟩
          · rw [e]; simp [bump]
          · rw [e] at ih ⊢
            rw [List.concat_eq_append] at ih ⊢
            rw [bump_end]
            simp only [List.length_append, List.length_singleton] at ih ⊢; omega
        · rw [List.length_append]; simp; omega
      · dsimp only; omega
  exact key 4001
theorem last_idx (m : List IntA3) (y : IntA3) (hm : m.length ≤ 1000000) : idx (m ++ [y]) (IntKind.i64.wrap (((m ++ [y]).length : Int) - 1)) = some y ∧ (IntKind.i64.wrap (((m ++ [y]).length : Int) - 1)).toNat = m.length ∧ 0 ≤ IntKind.i64.wrap (((m ++ [y]).length : Int) - 1) := by
  rw [List.length_append, List.length_singleton]
  have : (((m.length + 1 : Nat) : Int) - 1) = (m.length : Int) := by omega
  rw [this, wrap_in (by omega) (by omega)]
  refine ⟨?_, by omega, by omega⟩
  rw [idx_nat]; simp
/-- one round of the program's loop, at a day with a rate, is one more span, or the last one put off -/
theorem round_add {R : Type} {s : List IntA3} (hs : s.length ≤ 1000000) (day til c : Int) (hd : -1000000 ≤ day ∧ day ≤ 1000000) (hc : ¬ c = 0) (nx : List IntA3 → Option R) :
    (letK (IntKind.i64.wrap ((s.length : Int) - 1)) fun (t_32 : Int) =>
      letK (decide (0 ≤ t_32)) fun (t_35 : Bool) =>
      joinK (fun (t_45 : Bool) =>
      joinK (fun (t_54 : Bool) =>
      iteK t_54
      (Option.bind (idx s t_32) fun (yt_58 : IntA3) =>
      unIntA3 yt_58 fun (t_58_x0 : Int) (t_58_x1 : Int) (t_58_x2 : Int) =>
      letK (s.set (t_32).toNat (IntA3.mk t_58_x0 til t_58_x2)) fun (l60_60 : (List IntA3)) =>
      appK nx (l60_60))
      (guardK (s.length ≤ 1099511627776) <|
      letK (s ++ [(IntA3.mk day til c)]) fun (t_67 : (List IntA3)) =>
      appK nx (t_67))) fun jt_54 => iteK t_45 (Option.bind (idx s t_32) fun (yt_49 : IntA3) =>
      unIntA3 yt_49 fun (t_49_x0 : Int) (t_49_x1 : Int) (t_49_x2 : Int) =>
      letK (t_49_x2 == c) fun (t_53 : Bool) =>
      appK jt_54 t_53) (appK jt_54 false)) fun jt_45 => iteK t_35 (Option.bind (idx s t_32) fun (yt_39 : IntA3) =>
      unIntA3 yt_39 fun (t_39_x0 : Int) (t_39_x1 : Int) (t_39_x2 : Int) =>
      letK (IntKind.i64.wrap (day - 1)) fun (t_43 : Int) =>
      letK (t_39_x1 == t_43) fun (t_44 : Bool) =>
      appK jt_45 t_44) (appK jt_45 false)) = nx (addS s day til c) := by
  unfold addS
  rw [if_neg hc]
  rcases List.eq_nil_or_concat s with rfl | ⟨m, y, rfl⟩
  · simp only [List.length_nil, letK, joinK, appK, iteK_if, goesOn, List.getLast?_nil, Bool.false_eq_true, if_false]
    have : ¬ (0 ≤ IntKind.i64.wrap (((0 : Nat) : Int) - 1)) := by rw [wrap_in (by omega) (by omega)]; omega
    rw [decide_eq_false this]
    simp [guardK]
  · rw [List.concat_eq_append] at hs ⊢
    have hm : m.length ≤ 1000000 := by rw [List.length_append] at hs; omega
    obtain ⟨h1, h2, h3⟩ := last_idx m y hm
    obtain ⟨x0, x1, x2⟩ := y
    simp only [letK, joinK, appK, iteK_if, h1, Option.bind_some, unIntA3, h2, decide_eq_true h3, if_true, goesOn, List.getLast?_append, List.getLast?_singleton, Option.some_or]
    rw [wrap_in (x := day - 1) (by omega) (by omega), guardK_pos (by omega)]
    by_cases e1 : x1 = day - 1
    · by_cases e2 : x2 = c
      · subst e2
        simp [e1, bump_end]
      · simp [e1, e2]
    · simp [e1]
theorem spansOf_eq {l : List Rate} (h : okRs l = true) (zone grams : Int) : GiSpansOf.P l zone grams = some (spanL l zone grams) := by
  have hf : ∀ d, 0 ≤ fr l zone grams d := fun d => rateV_nonneg h _ _ _
  have h16 := riseL_len h
  have hlen := days_len l
  have hup := days_up l
  have lt_at : ∀ {i j : Nat} {a b : Int}, i < j → (tdays l)[i]? = some a → (tdays l)[j]? = some b → a < b := by
    intro i j a b hij ha hb
    obtain ⟨a1, a2⟩ := List.getElem?_eq_some_iff.1 ha
    obtain ⟨b1, b2⟩ := List.getElem?_eq_some_iff.1 hb
    have := List.pairwise_iff_getElem.1 hup i j a1 b1 hij
    rw [a2, b2] at this; exact this
  simp only [GiSpansOf.P, days_eq h, Option.bind_some]
  refine cnt_is _ (fun k s => s = (refS (fr l zone grams) (dayN l k)).1 ∧ s.length ≤ k) ?_ ?_ _ ⟨?_, by simp⟩
  · intro k s nx hk ⟨hI, hsl⟩ hn
    obtain ⟨day, hday, hi⟩ := at_lt (l := tdays l) (k := k) hk
    have hr := day_range h (List.mem_of_getElem? hday)
    have hdk : dayN l k = day.toNat := by unfold dayN; rw [hday]
    have hfk : fr l zone grams day.toNat = rateV l day zone grams := by unfold fr; congr 1; omega
    have hpast : ∀ t ∈ tdays l, day < t → (dayN l (k + 1) : Int) ≤ t := by
      intro t ht hlt
      obtain ⟨j, hj⟩ := List.getElem?_of_mem ht
      by_cases hjk : j ≤ k
      · by_cases e : j = k
        · subst e; rw [hday] at hj; simp at hj; omega
        · have := lt_at (i := j) (j := k) (by omega) hj hday; omega
      · obtain ⟨nxt, hnx, _⟩ := at_lt (l := tdays l) (k := k + 1) (by have := (List.getElem?_eq_some_iff.1 hj).1; omega)
        have hrn := day_range h (List.mem_of_getElem? hnx)
        have : dayN l (k + 1) = nxt.toNat := by unfold dayN; rw [hnx]
        by_cases e : j = k + 1
        · subst e; rw [hnx] at hj; simp at hj; omega
        · have := lt_at (i := k + 1) (j := j) (by omega) hnx hj; omega
    have hsame : ∀ d, day.toNat ≤ d → d < dayN l (k + 1) → fr l zone grams d = fr l zone grams day.toNat := by
      intro d h1 h2
      rw [hfk]
      exact rate_same h (by omega) (fun t ht hlt => by have := hpast t ht hlt; omega)
    simp only [GiSpansOf.l0, hi, Option.bind_some, rateOn_eq]
    by_cases hz : rateV l day zone grams = 0
    · simp only [hz, letK, appK, iteK_if]
      refine hn _ ⟨?_, by omega⟩
      rw [hI, hdk]
      by_cases hle : day.toNat ≤ dayN l (k + 1)
      · exact (run_zero hle (fun d h1 h2 => by rw [hsame d h1 h2, hfk, hz])).symm
      · exfalso
        cases hx : (tdays l)[k + 1]? with
        | none => have : dayN l (k + 1) = 4001 := by unfold dayN; rw [hx]
                  omega
        | some nxt =>
          have := lt_at (i := k) (j := k + 1) (by omega) hday hx
          have : dayN l (k + 1) = nxt.toNat := by unfold dayN; rw [hx]
          omega
    · have hk1 : k + 1 < (tdays l).length := by
        refine Classical.byContradiction fun hno => hz (rate_none fun r hr' hb => ?_)
        have hmem : r.until_ + 1 ∈ tdays l := mem_days.2 ⟨r, hr', .inr rfl⟩
        obtain ⟨j, hj⟩ := List.getElem?_of_mem hmem
        have hjl := (List.getElem?_eq_some_iff.1 hj).1
        by_cases e : j = k
        · subst e; rw [hday] at hj; simp at hj; omega
        · have := lt_at (i := j) (j := k) (by omega) hj hday; omega
      obtain ⟨nxt, hnx, hin⟩ := at_lt (l := tdays l) (k := k + 1) hk1
      have hrn := day_range h (List.mem_of_getElem? hnx)
      have hdn : dayN l (k + 1) = nxt.toNat := by unfold dayN; rw [hnx]
      have hlt := lt_at (i := k) (j := k + 1) (by omega) hday hnx
      have hw : IntKind.i64.wrap ((k : Int) + 1) = ((k + 1 : Nat) : Int) := by rw [wrap_in (by omega) (by omega)]; omega
      have hzb : (rateV l day zone grams == 0) = false := by simpa using hz
      have hw2 : IntKind.i64.wrap (nxt - 1) = nxt - 1 := wrap_in (by omega) (by omega)
      have goal : addS s day (nxt - 1) (rateV l day zone grams) = (refS (fr l zone grams) (dayN l (k + 1))).1 := by
        rw [hdn, run_add hf (a := day.toNat) (b := nxt.toNat) (by omega) (fun d h1 h2 => hsame d h1 (by omega)), hfk, hI, hdk]
        have e1 : ((day.toNat : Nat) : Int) = day := by omega
        have e2 : ((nxt.toNat : Nat) : Int) = nxt := by omega
        rw [e1, e2]
      have hadd : (addS s day (nxt - 1) (rateV l day zone grams)).length ≤ k + 1 := by
        unfold addS
        rw [if_neg hz]
        split
        · rcases List.eq_nil_or_concat s with e | ⟨m, y, e⟩
          · rw [e]; simp [bump]
          · rw [e] at hsl ⊢
            rw [List.concat_eq_append] at hsl ⊢
            rw [bump_end]
            simp only [List.length_append, List.length_singleton] at hsl ⊢; omega
        · rw [List.length_append]; simp; omega
      have hround := round_add (s := s) (by omega) day (nxt - 1) (rateV l day zone grams) (by omega) hz nx
      simp only [letK, hzb, iteK_if, Bool.false_eq_true, if_false, hw, hin, Option.bind_some, hw2] at hround ⊢
      rw [hround]
      exact hn _ ⟨goal, hadd⟩
  · intro s ⟨hI, _⟩
    have : dayN l (tdays l).length = 4001 := by unfold dayN; rw [List.getElem?_eq_none (Nat.le_refl _)]
    rw [this] at hI
    simp only [GiSpansOf.e0, letK]
    rw [hI]; rfl
  · symm
    have hz := run_zero (f := fr l zone grams) (a := 0) (b := dayN l 0) (by omega) (fun d _ hd => by
      unfold fr
      refine rate_none fun r hr hb => ?_
      have hmem : r.from_ ∈ tdays l := mem_days.2 ⟨r, hr, .inl rfl⟩
      obtain ⟨j, hj⟩ := List.getElem?_of_mem hmem
      obtain ⟨d0, hd0, _⟩ := at_lt (l := tdays l) (k := 0) (by have := (List.getElem?_eq_some_iff.1 hj).1; omega)
      have e0 : dayN l 0 = d0.toNat := by unfold dayN; rw [hd0]
      have hr0 := day_range h (List.mem_of_getElem? hd0)
      by_cases e : j = 0
      · subst e; rw [hd0] at hj; simp at hj; omega
      · have := lt_at (i := 0) (j := j) (by omega) hd0 hj; omega)
    rw [hz]; rfl
def spanRes (l : List Rate) (zone grams : Int) : List IntA3 × Bool := if (okRs l && inB zone 0 9 && inB grams 1 2000) = true then (spanL l zone grams, true) else ([], false)
theorem span_impl (l : List Rate) (zone grams : Int) (hl : l.length ≤ 9223372036854775807) : GiRateSpans.P l zone grams = some (spanRes l zone grams) := by
  simp only [GiRateSpans.P, canSend_eq l zone grams hl, Option.bind_some, letK, iteK_if, spanRes]
  cases hc : okRs l && inB zone 0 9 && inB grams 1 2000 with
  | false => simp
  | true =>
    simp only [Bool.and_eq_true] at hc
    simp [spansOf_eq hc.1.1]
theorem ref_len (l : List Rate) (zone grams : Int) (n : Nat) : (refS (fr l zone grams) n).1.length ≤ n := by
  induction n with
  | zero => simp [refS]
  | succ n ih =>
    show (stepS _ (refS _ n) n).1.length ≤ n + 1
    unfold stepS
    split
    · dsimp only
      split
      · rcases List.eq_nil_or_concat (refS (fr l zone grams) n).1 with e | ⟨m, y, e⟩
        · rw [e]; simp [bump]
        · rw [e] at ih ⊢
          rw [List.concat_eq_append] at ih ⊢
          rw [bump_end]
          simp only [List.length_append, List.length_singleton] at ih ⊢; omega
      · rw [List.length_append]; simp; omega
    · dsimp only; omega
theorem span_spec {fuel : Nat} (l : List Rate) (zone grams : Int) (hl : l.length ≤ 9223372036854775807) (hf : 4002 < fuel) : GsRateSpans.P fuel l zone grams = some (spanRes l zone grams) := by
  have loop : okRs l = true → loopK (GsRateSpans.l0 l zone grams) fuel ([], 0, 0) GsRateSpans.e0 = some (spanL l zone grams, true) := by
    intro h
    have hfn : ∀ d, 0 ≤ fr l zone grams d := fun d => rateV_nonneg h _ _ _
    refine lp_is (n := 4001) _ (fun k (s : List IntA3 × Int × Int) => s = ((refS (fr l zone grams) k).1, (refS (fr l zone grams) k).2, (k : Int))) ?_ ?_ fuel 0 _ (by omega) (by omega) rfl
    · rintro k s nx hk rfl hn
      have hle : ((k : Int) ≤ 4000) := by omega
      have hw : IntKind.i64.wrap ((k : Int) + 1) = ((k + 1 : Nat) : Int) := by rw [wrap_in (by omega) (by omega)]; omega
      have hlen := ref_len l zone grams k
      obtain ⟨g0, g1, _⟩ := ref_inv hfn k
      have hfk : rateV l (k : Int) zone grams = fr l zone grams k := rfl
      have hnk := hfn k
      have hst : refS (fr l zone grams) (k + 1) = stepS (fr l zone grams) (refS (fr l zone grams) k) k := rfl
      simp only [GsRateSpans.l0, unp3, letK, decide_eq_true hle, iteK_if, if_true, l8For_eq, Option.bind_some, joinK, appK, hw, hfk]
      by_cases hp : 0 < fr l zone grams k
      · by_cases he : fr l zone grams k = (refS (fr l zone grams) k).2
        · obtain ⟨m, y, e, _, _⟩ := g1 (by omega)
          have hm : m.length ≤ 1000000 := by rw [e, List.length_append] at hlen; omega
          obtain ⟨h1, h2, h3⟩ := last_idx m y hm
          have hr : refS (fr l zone grams) (k + 1) = (m ++ [⟨y.x0, (k : Int), fr l zone grams k⟩], fr l zone grams k) := by
            rw [hst]; unfold stepS; rw [if_pos hp, if_pos he, e, bump_end]
          simp only [e, h1, h2, Option.bind_some, unIntA3, decide_eq_true hp, if_true, ← he, beq_self_eq_true]
          refine hn _ ?_
          rw [hr]
          simp
        · have hr : refS (fr l zone grams) (k + 1) = ((refS (fr l zone grams) k).1 ++ [⟨(k : Int), (k : Int), fr l zone grams k⟩], fr l zone grams k) := by
            rw [hst]; unfold stepS; rw [if_pos hp, if_neg he]
          have heb : (fr l zone grams k == (refS (fr l zone grams) k).2) = false := by simpa using he
          simp only [decide_eq_true hp, if_true, heb, Bool.false_eq_true, if_false]
          rw [guardK_pos (by omega)]
          refine hn _ ?_
          rw [hr]
      · have hr : refS (fr l zone grams) (k + 1) = ((refS (fr l zone grams) k).1, 0) := by
          rw [hst]; unfold stepS; rw [if_neg hp]
        have hz : fr l zone grams k = 0 := by omega
        simp only [decide_eq_false hp, Bool.false_eq_true, if_false]
        refine hn _ ?_
        rw [hr, hz]
    · rintro s nx rfl
      have hle : ¬ (((4001 : Nat) : Int) ≤ 4000) := by omega
      simp only [GsRateSpans.l0, unp3, letK, decide_eq_false hle, iteK_if, Bool.false_eq_true, if_false, appK, GsRateSpans.e0]
      rfl
  simp only [GsRateSpans.P, l8Good_eq l hl (show 17 < fuel by omega), l8Zone_eq, l8Grams_eq, Option.bind_some, letK, joinK, appK, iteK_if, spanRes]
  cases hc : okRs l with
  | false => simp
  | true =>
    rw [loop hc]
    cases inB zone 0 9 <;> cases inB grams 1 2000 <;> simp
theorem spanRes_len (l : List Rate) (zone grams : Int) : (spanRes l zone grams).1.length ≤ 4001 := by
  unfold spanRes
  split
  · exact spans_len l zone grams
  · simp
end Go.Proofs.Ytkinlkmmelkdnaa.Q8Spans

/- Chapter 8: rates: the plain functions of the program and of the reference agree, and the laws answer true. (Q8First) No condition but those of each theorem. -/
namespace Go.Proofs.Ytkinlkmmelkdnaa.Q8First
set_option linter.unusedVariables false
set_option linter.unusedSimpArgs false
open Go.RowKit
open Go.Proofs.Ytkinlkmmelkdnaa.GoP Go.Proofs.Ytkinlkmmelkdnaa.PlainStamp Go.Proofs.Ytkinlkmmelkdnaa.QBase Go.Proofs.Ytkinlkmmelkdnaa.Q8Spans Go.Proofs.Ytkinlkmmelkdnaa.Q8Span Go.Proofs.Ytkinlkmmelkdnaa.QUp Go.Proofs.Ytkinlkmmelkdnaa.QFold Go.Proofs.Ytkinlkmmelkdnaa.QRiseL Go.Proofs.Ytkinlkmmelkdnaa.QOrd Go.Proofs.Ytkinlkmmelkdnaa.Q8For Go.Proofs.Ytkinlkmmelkdnaa.Q8List Go.Proofs.Ytkinlkmmelkdnaa.Q8Rate Go.Proofs.Ytkinlkmmelkdnaa.QLoop Go.Proofs.Ytkinlkmmelkdnaa.PIntA3 Go.Proofs.Ytkinlkmmelkdnaa.PRate

def firstRes (l : List Rate) (zone grams day : Int) : Int × Bool := if (okRs l && inB zone 0 9 && inB grams 1 2000 && inB day 0 4000) = true then (if skipS (spanL l zone grams) day ≤ 4000 then (skipS (spanL l zone grams) day, true) else (0, false)) else (0, false)
theorem first_impl (l : List Rate) (zone grams day : Int) (hl : l.length ≤ 9223372036854775807) : GiFirstWithout.P l zone grams day = some (firstRes l zone grams day) := by
  have loop : okRs l = true → 0 ≤ day ∧ day ≤ 4000 → cntK (GiFirstWithout.l0 (spanL l zone grams)) (spanL l zone grams).length 0 day GiFirstWithout.e0 = some (if skipS (spanL l zone grams) day ≤ 4000 then (skipS (spanL l zone grams) day, true) else (0, false)) := by
    intro h hd
    obtain ⟨c1, c2, c3⟩ := ref_cov (f := fr l zone grams) (fun d => rateV_nonneg h _ _ _) 4001
    change (∀ y ∈ spanL l zone grams, _) at c1
    change List.Pairwise _ (spanL l zone grams) at c2
    rw [fold_loop (g := fun d y => if y.x0 ≤ d ∧ d ≤ y.x1 then y.x1 + 1 else d)]
    · have hge := skip_ge (spanL l zone grams) day
      show GiFirstWithout.e0 (skipS (spanL l zone grams) day) = _
      simp only [GiFirstWithout.e0, isDay_eq, Option.bind_some, letK, iteK_if]
      by_cases hk : skipS (spanL l zone grams) day ≤ 4000
      · have : inB (skipS (spanL l zone grams) day) 0 4000 = true := by unfold inB; simp; omega
        simp [this, hk]
      · have : inB (skipS (spanL l zone grams) day) 0 4000 = false := by unfold inB; simp; omega
        simp [this, hk]
    · intro k nx y s hy
      have hi : idx (spanL l zone grams) (k : Int) = some y := by rw [idx_nat, hy]
      obtain ⟨y1, y2, y3, _⟩ := c1 y (List.mem_of_getElem? hy)
      obtain ⟨x0, x1, x2⟩ := y
      dsimp only at y1 y2 y3
      simp only [GiFirstWithout.l0, letK, hi, Option.bind_some, unIntA3, within_eq, iteK_if, appK]
      rw [wrap_in (by omega) (by omega)]
      by_cases hin : x0 ≤ s ∧ s ≤ x1
      · have : inB s x0 x1 = true := by unfold inB; simp [hin]
        simp [this, hin]
      · have : inB s x0 x1 = false := by unfold inB; simpa using hin
        simp only [this, Bool.false_eq_true, if_false, hin]
  simp only [GiFirstWithout.P, canSend_eq l zone grams hl, isDay_eq, Option.bind_some, letK, joinK, appK, iteK_if, firstRes]
  cases hc : okRs l with
  | false => simp
  | true =>
    cases hz : inB zone 0 9 with
    | false => simp
    | true =>
      cases hg : inB grams 1 2000 with
      | false => simp
      | true =>
        cases hd : inB day 0 4000 with
        | false => simp
        | true => simp [spansOf_eq hc, loop hc (inB_of hd)]
theorem first_spec {fuel : Nat} (l : List Rate) (zone grams day : Int) (hl : l.length ≤ 9223372036854775807) (hf : 4002 < fuel) : GsFirstWithout.P fuel l zone grams day = some (firstRes l zone grams day) := by
  have loop : okRs l = true → 0 ≤ day ∧ day ≤ 4000 → loopK (GsFirstWithout.l0 l zone grams) fuel day GsFirstWithout.e0 = some (if skipS (spanL l zone grams) day ≤ 4000 then (skipS (spanL l zone grams) day, true) else (0, false)) := by
    intro h hd
    obtain ⟨c1, c2, c3⟩ := ref_cov (f := fr l zone grams) (fun d => rateV_nonneg h _ _ _) 4001
    change (∀ y ∈ spanL l zone grams, _) at c1
    change List.Pairwise _ (spanL l zone grams) at c2
    have hge := skip_ge (spanL l zone grams) day
    have hle := skip_le (n := 4001) (l := spanL l zone grams) (fun y hy => (c1 y hy).2.2.1) day (by omega)
    have hout := skip_out c2 (fun y hy => (c1 y hy).2.1) day
    obtain ⟨e, he⟩ : ∃ e : Nat, skipS (spanL l zone grams) day = (e : Int) := ⟨(skipS (spanL l zone grams) day).toNat, by omega⟩
    obtain ⟨d, rfl⟩ : ∃ d : Nat, day = (d : Int) := ⟨day.toNat, by omega⟩
    rw [he] at hge hle hout ⊢
    have hpos : ∀ x : Nat, d ≤ x → x < e → ¬ (rateV l (x : Int) zone grams = 0) := by
      intro x h1 h2
      have := skip_in (f := fr l zone grams) (n := 4001) (l := spanL l zone grams) c1 d x h1 (by rw [he]; omega)
      unfold fr at this; omega
    refine lp_is (n := e - d) _ (fun k (s : Int) => s = ((d + k : Nat) : Int)) ?_ ?_ fuel 0 _ (by omega) (by omega) (by simp)
    · rintro k s nx hk rfl hn
      have hle2 : (((d + k : Nat) : Int) ≤ 4000) := by omega
      have hw : IntKind.i64.wrap (((d + k : Nat) : Int) + 1) = ((d + (k + 1) : Nat) : Int) := by rw [wrap_in (by omega) (by omega)]; omega
      have hz : (rateV l ((d + k : Nat) : Int) zone grams == 0) = false := by simpa using hpos (d + k) (by omega) (by omega)
      simp only [GsFirstWithout.l0, letK, decide_eq_true hle2, iteK_if, if_true, l8For_eq, Option.bind_some, hz, Bool.false_eq_true, if_false, hw, appK]
      exact hn _ rfl
    · rintro s nx rfl
      have hde : d + (e - d) = e := by omega
      rw [hde]
      by_cases h4 : (e : Int) ≤ 4000
      · have hz : rateV l (e : Int) zone grams = 0 := by
          refine Classical.byContradiction fun hno => ?_
          have hnn := rateV_nonneg h (e : Int) zone grams
          obtain ⟨y, hy, hcv⟩ := c3 e (by omega) (by unfold fr; omega)
          exact hout y hy hcv
        simp [GsFirstWithout.l0, letK, h4, iteK_if, l8For_eq, hz]
      · simp [GsFirstWithout.l0, letK, h4, iteK_if, appK, GsFirstWithout.e0]
  simp only [GsFirstWithout.P, l8Good_eq l hl (show 17 < fuel by omega), l8Zone_eq, l8Grams_eq, l2Day_eq, Option.bind_some, letK, joinK, appK, iteK_if, firstRes]
  cases hc : okRs l with
  | false => simp
  | true =>
    cases hz : inB zone 0 9 with
    | false => simp
    | true =>
      cases hg : inB grams 1 2000 with
      | false => simp
      | true =>
        cases hd : inB day 0 4000 with
        | false => simp
        | true => simp [loop hc (inB_of hd)]
end Go.Proofs.Ytkinlkmmelkdnaa.Q8First

/- The laws' helpers on Rate and on slices of it as plain functions: copied, equal, their bulk. No condition. -/
namespace Go.Proofs.Ytkinlkmmelkdnaa.QHRateE
set_option linter.unusedVariables false
set_option linter.unusedSimpArgs false
open Go.RowKit
open Go.Proofs.Ytkinlkmmelkdnaa.GoP Go.Proofs.Ytkinlkmmelkdnaa.QBase Go.Proofs.Ytkinlkmmelkdnaa.QLoop Go.Proofs.Ytkinlkmmelkdnaa.PRate

theorem toOne (s : Rate) : GlToRate.P s = some s := by cases s; rfl
theorem eqOne (s : Rate) : GlEqRate.P s s = some true := by
  obtain ⟨x0, x1, x2, x3, x4⟩ := s
  simp [GlEqRate.P, unRate, letK, joinK, appK, iteK_if]
theorem toS (l : List Rate) (hl : l.length ≤ 1048576) : GlToRateS.P l = some l := by
  simp only [GlToRateS.P, letK]
  rw [guardK_pos (by omega)]
  refine cnt_is l (fun k s => s = l.take k ++ List.replicate (l.length - k) (Rate.mk 0 0 0 0 0)) ?_ ?_ _ (by simp)
  · intro k s nx hk hI hn
    obtain ⟨x, hx, hi⟩ := at_lt (l := l) (k := k) hk
    have hlen : s.length = l.length := by rw [hI]; simp; omega
    obtain ⟨z, hz, hj⟩ := at_lt (l := s) (k := k) (by omega)
    simp only [GlToRateS.l0, hi, hj, toOne, Option.bind_some, unRate, letK, appK]
    refine hn _ ?_
    rw [hI, take_next hx, List.set_append_right _ _ (by simp; omega)]
    have hr : l.length - k = (l.length - (k + 1)) + 1 := by omega
    rw [hr, List.replicate_succ, List.append_assoc]
    simp [show k - min k l.length = 0 by omega]
  · intro s hI
    rw [hI]; simp [GlToRateS.e0, letK]
theorem eqS (l : List Rate) : GlEqRateS.P l l = some true := by
  simp only [GlEqRateS.P, letK, iteK_if]
  rw [if_neg (by simp)]
  refine cnt_is true (fun _ _ => True) ?_ (fun s _ => rfl) () trivial
  intro k s nx hk _ hn
  obtain ⟨x, hx, hi⟩ := at_lt (l := l) (k := k) hk
  simp only [GlEqRateS.l0, hi, Option.bind_some, unRate, eqOne, letK, appK, iteK_if]
  exact hn () trivial
theorem szS (l : List Rate) (hl : l.length ≤ 9223372036854775807) : GlSzRateS.P l 1048576 = some (if l.length ≤ 1048576 then 1048576 - (l.length : Int) else -1) := by
  simp only [GlSzRateS.P, letK, iteK_if]
  rw [wrap_in (by omega) (by omega)]
  by_cases h : l.length ≤ 1048576
  · rw [if_neg (by simp; omega), if_pos h]
  · rw [if_pos (by simp; omega), if_neg h]
end Go.Proofs.Ytkinlkmmelkdnaa.QHRateE

/- Chapter 8: rates: the plain functions of the program and of the reference agree, and the laws answer true. (QL8First) No condition but those of each theorem. -/
namespace Go.Proofs.Ytkinlkmmelkdnaa.QL8First
set_option linter.unusedVariables false
set_option linter.unusedSimpArgs false
open Go.RowKit
open Go.Proofs.Ytkinlkmmelkdnaa.GoP Go.Proofs.Ytkinlkmmelkdnaa.PlainStamp Go.Proofs.Ytkinlkmmelkdnaa.QBase Go.Proofs.Ytkinlkmmelkdnaa.Q8First Go.Proofs.Ytkinlkmmelkdnaa.QLoop Go.Proofs.Ytkinlkmmelkdnaa.PRate Go.Proofs.Ytkinlkmmelkdnaa.QHRateE

theorem law_first {fuel : Nat} (l : List Rate) (zone grams day : Int) (hl : l.length ≤ 9223372036854775807) (hf : 4002 < fuel) : GlFnExactFirstWithout.P fuel l zone grams day = some true := by
  simp only [GlFnExactFirstWithout.P, szS l hl, Option.bind_some, letK, iteK_if]
  by_cases hb : l.length ≤ 1048576
  · rw [if_neg (by rw [if_pos hb]; simp; omega)]
    obtain ⟨⟨a, b⟩, hr⟩ : ∃ x, x = firstRes l zone grams day := ⟨_, rfl⟩
    simp [toS l hb, first_spec l zone grams day hl hf, first_impl l zone grams day hl, ← hr, bind2, joinK, appK, iteK_if, eqS]
  · rw [if_pos (by rw [if_neg hb]; simp)]
end Go.Proofs.Ytkinlkmmelkdnaa.QL8First

