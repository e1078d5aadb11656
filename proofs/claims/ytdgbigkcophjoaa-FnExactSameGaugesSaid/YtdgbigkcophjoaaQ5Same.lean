/- Combs of the same gauges: the plain functions of the program and of the reference agree, and the law answers true. (Q5Same) No condition but those of each theorem. -/
import Derived.Test.YtdgbigkcophjoaaQ5Comb
import Derived.Test.YtdgbigkcophjoaaQLoop
import Derived.Test.YtdgbigkcophjoaaPComb
import Derived.Test.YtdgbigkcophjoaaGiSameGauges
import Derived.Test.YtdgbigkcophjoaaGsSameGauges
namespace Go.Proofs.Ytdgbigkcophjoaa.Q5Same
set_option linter.unusedVariables false
set_option linter.unusedSimpArgs false
open Go.RowKit
open Go.Proofs.Ytdgbigkcophjoaa.GoP Go.Proofs.Ytdgbigkcophjoaa.PlainStamp Go.Proofs.Ytdgbigkcophjoaa.QBase Go.Proofs.Ytdgbigkcophjoaa.Q5Comb Go.Proofs.Ytdgbigkcophjoaa.QLoop Go.Proofs.Ytdgbigkcophjoaa.PComb

def sm (x y : Comb) : Bool := y.wide == x.wide && y.high == x.high
def grp (l : List Comb) (x : Comb) : List Int := (l.filter (sm x)).map Comb.id
def gs (l : List Comb) : Nat → List (List Int)
  | 0 => []
  | i + 1 => match l[i]? with
    | none => gs l i
    | some x => if (l.take i).any (sm x) = true then gs l i else gs l i ++ [grp l x]
theorem gs_succ {l : List Comb} {i : Nat} {x : Comb} (h : l[i]? = some x) : gs l (i + 1) = if (l.take i).any (sm x) = true then gs l i else gs l i ++ [grp l x] := by
  show (match l[i]? with | none => gs l i | some x => if (l.take i).any (sm x) = true then gs l i else gs l i ++ [grp l x]) = _
  rw [h]
theorem gs_len (l : List Comb) : ∀ i, (gs l i).length ≤ i := by
  intro i
  induction i with
  | zero => simp [gs]
  | succ i ih =>
    cases h : l[i]? with
    | none => show (match l[i]? with | none => gs l i | some x => if (l.take i).any (sm x) = true then gs l i else gs l i ++ [grp l x]).length ≤ _; rw [h]; dsimp only; omega
    | some x =>
      rw [gs_succ h]
      split
      · omega
      · rw [List.length_append]; show (gs l i).length + 1 ≤ _; omega
theorem grp_len (l : List Comb) (x : Comb) : (grp l x).length ≤ l.length := by
  unfold grp; rw [List.length_map]; exact List.length_filter_le _ _
theorem gs_rows (l : List Comb) : ∀ i, ∀ row ∈ gs l i, row.length ≤ l.length := by
  intro i
  induction i with
  | zero => intro row h; simp [gs] at h
  | succ i ih =>
    intro row hr
    cases h : l[i]? with
    | none =>
      have e : gs l (i + 1) = gs l i := by
        show (match l[i]? with | none => gs l i | some x => if (l.take i).any (sm x) = true then gs l i else gs l i ++ [grp l x]) = _
        rw [h]
      rw [e] at hr
      exact ih row hr
    | some x =>
      rw [gs_succ h] at hr
      split at hr
      · exact ih row hr
      · rcases List.mem_append.1 hr with hr | hr
        · exact ih row hr
        · simp at hr; subst hr; exact grp_len l x
theorem same_eq (y x : Comb) : GiSameGauges1.P y x.id x.wide x.high x.line = some (sm x y) := by
  obtain ⟨a, b, c, d⟩ := y
  simp only [GiSameGauges1.P, unComb, letK, joinK, appK, iteK_if, sm]
  cases b == x.wide <;> simp
theorem any_eq (l : List Comb) (x : Comb) : GxSlicesContainsFuncLoopExampleG01062ImplCombLoopExampleG01062ImplCombiSameGauges1.P l x.id x.wide x.high x.line = some (l.any (sm x)) := by
  simp only [GxSlicesContainsFuncLoopExampleG01062ImplCombLoopExampleG01062ImplCombiSameGauges1.P, letK]
  obtain ⟨c, hc, hi⟩ : ∃ c, GxSlicesIndexFuncLoopExampleG01062ImplCombLoopExampleG01062ImplCombiSameGauges1.P l x.id x.wide x.high x.line = some c ∧ (0 ≤ c ↔ l.any (sm x) = true) := by
    simp only [GxSlicesIndexFuncLoopExampleG01062ImplCombLoopExampleG01062ImplCombiSameGauges1.P]
    refine cnt_ex (n := l.length) (Q := fun c => 0 ≤ c ↔ l.any (sm x) = true) (fun j _ => ∀ i y, i < j → l[i]? = some y → sm x y = false) ?_ ?_ l.length 0 () (by omega) (fun i y hi _ => by omega)
    · intro j _ nx hj hI hn
      obtain ⟨y, hy, hyi⟩ := at_lt (l := l) (k := j) hj
      have hs := same_eq y x
      obtain ⟨a, b, c, d⟩ := y
      simp only [GxSlicesIndexFuncLoopExampleG01062ImplCombLoopExampleG01062ImplCombiSameGauges1.l0, hyi, Option.bind_some, unComb, hs, appK, iteK_if]
      cases hf : sm x ⟨a, b, c, d⟩ with
      | true => exact ⟨_, by rw [if_pos rfl], ⟨fun _ => List.any_eq_true.2 ⟨_, List.mem_of_getElem? hy, hf⟩, fun _ => by omega⟩⟩
      | false =>
        rw [if_neg (by simp)]
        refine hn () (fun i y' hi hy' => ?_)
        by_cases he : i = j
        · subst he; obtain rfl := Option.some.inj (hy.symm.trans hy'); exact hf
        · exact hI i y' (by omega) hy'
    · intro _ hI
      refine ⟨_, rfl, ⟨fun h => by omega, fun h => ?_⟩⟩
      exfalso
      obtain ⟨y, hy, hf⟩ := List.any_eq_true.1 h
      obtain ⟨i, hi⟩ := List.getElem?_of_mem hy
      rw [hI i y (List.getElem?_eq_some_iff.1 hi).1 hi] at hf
      simp at hf
  rw [hc]
  simp only [Option.bind_some]
  cases hf : l.any (sm x) with
  | true => rw [decide_eq_true (hi.2 hf)]
  | false => rw [decide_eq_false (fun h => by rw [hi.1 h] at hf; exact absurd hf (by simp))]
theorem filt_succ {l : List Comb} {k : Nat} {y : Comb} (h : l[k]? = some y) (x : Comb) : ((l.take (k + 1)).filter (sm x)).map Comb.id = if sm x y = true then ((l.take k).filter (sm x)).map Comb.id ++ [y.id] else ((l.take k).filter (sm x)).map Comb.id := by
  rw [take_next h, List.filter_append, List.map_append]
  cases hs : sm x y <;> simp [List.filter, hs]
theorem ids_eq (l : List Comb) (x : Comb) (hl : l.length ≤ 1000) : GiKeysWhereCombIntiIdOfCombiSameGauges1.P l x.id x.wide x.high x.line = some (grp l x) := by
  simp only [GiKeysWhereCombIntiIdOfCombiSameGauges1.P]
  refine cnt_is _ (fun k s => s = ((l.take k).filter (sm x)).map Comb.id ∧ s.length ≤ k) ?_ ?_ [] ⟨by simp, by simp⟩
  · rintro k s nx hk ⟨h1, h2⟩ hn
    obtain ⟨y, hy, hyi⟩ := at_lt (l := l) (k := k) hk
    have hf := filt_succ hy x
    have hs := same_eq y x
    obtain ⟨a, b, c, d⟩ := y
    simp only [GiKeysWhereCombIntiIdOfCombiSameGauges1.l0, hyi, Option.bind_some, unComb, hs, GiIdOfComb.P, letK, appK, iteK_if]
    cases hsm : sm x ⟨a, b, c, d⟩ with
    | true =>
      rw [hsm, if_pos rfl] at hf
      rw [if_pos rfl, guardK_pos (by omega)]
      exact hn _ ⟨by rw [hf, h1], by rw [List.length_append]; show s.length + 1 ≤ _; omega⟩
    | false =>
      rw [hsm, if_neg (by simp)] at hf
      rw [if_neg (by simp)]
      exact hn _ ⟨by rw [hf, h1], by omega⟩
  · rintro s ⟨h1, h2⟩
    simp only [GiKeysWhereCombIntiIdOfCombiSameGauges1.e0, letK]
    rw [h1, List.take_length]; rfl
theorem same_impl (l : List Comb) : GiSameGauges.P l = some (if okCos l = true then (gs l l.length, true) else ([], false)) := by
  simp only [GiSameGauges.P, areCombs_eq, Option.bind_some, letK, iteK_if]
  cases h : okCos l with
  | false => simp
  | true =>
    have hl : l.length ≤ 10 := upL_len h
    rw [if_neg (by simp), if_pos rfl]
    refine cnt_is _ (fun i o => o = gs l i ∧ o.length ≤ i) ?_ ?_ [] ⟨rfl, by simp⟩
    · rintro i o nx hi ⟨h1, h2⟩ hn
      obtain ⟨x, hx, hxi⟩ := at_lt (l := l) (k := i) hi
      have hg := gs_succ hx
      have ha := any_eq (l.take i) x
      have hd := ids_eq l x (by omega)
      obtain ⟨a, b, c, d⟩ := x
      dsimp only at ha hd
      simp only [GiSameGauges.l0, letK, hxi, Option.bind_some, unComb, iteK_if]
      rw [guardK_pos (by omega), Int.toNat_natCast, ha]
      simp only [Option.bind_some, hd]
      cases hb : (l.take i).any (sm ⟨a, b, c, d⟩) with
      | true =>
        rw [hb, if_pos rfl] at hg
        rw [if_neg (by simp)]
        exact hn _ ⟨by rw [hg, h1], by omega⟩
      | false =>
        rw [hb, if_neg (by simp)] at hg
        rw [if_pos (by simp), guardK_pos (by omega)]
        exact hn _ ⟨by rw [hg, h1], by rw [List.length_append]; show o.length + 1 ≤ _; omega⟩
    · rintro o ⟨h1, h2⟩
      simp only [GiSameGauges.e0, letK, h1]
theorem same_spec (l : List Comb) (hl0 : l.length ≤ 9223372036854775807) : GsSameGauges.P l = some (if okCos l = true then (gs l l.length, true) else ([], false)) := by
  simp only [GsSameGauges.P, l5Good_eq l hl0, Option.bind_some, letK, iteK_if]
  cases h : okCos l with
  | false => simp
  | true =>
    have hl : l.length ≤ 10 := upL_len h
    rw [if_neg (by simp), if_pos rfl]
    refine cnt_is _ (fun i o => o = gs l i ∧ o.length ≤ i) ?_ ?_ [] ⟨rfl, by simp⟩
    · rintro i o nx hi ⟨h1, h2⟩ hn
      obtain ⟨x, hx, hxi⟩ := at_lt (l := l) (k := i) hi
      have hg := gs_succ hx
      simp only [GsSameGauges.l0, letK]
      refine cnt_is _ (fun k (s : List Int × Bool) => s.1 = ((l.take k).filter (sm x)).map Comb.id ∧ s.1.length ≤ k ∧ s.2 = !((l.take (min k i)).any (sm x))) ?_ ?_ ([], true) ⟨by simp, by simp, by simp⟩
      · rintro k ⟨ids, fst⟩ nx2 hk ⟨g1, g2, g3⟩ hn2
        dsimp only at g1 g2 g3
        obtain ⟨y, hy, hyi⟩ := at_lt (l := l) (k := k) hk
        have hf := filt_succ hy x
        have hm : (l.take (min (k + 1) i)).any (sm x) = ((l.take (min k i)).any (sm x) || (decide (k < i) && sm x y)) := by
          by_cases hki : k < i
          · rw [Nat.min_eq_left (by omega), Nat.min_eq_left (by omega), take_next hy]
            simp [hki]
          · rw [Nat.min_eq_right (by omega), Nat.min_eq_right (by omega)]
            simp [hki]
        obtain ⟨a, b, c, d⟩ := x
        obtain ⟨a', b', c', d'⟩ := y
        have hsm : sm ⟨a, b, c, d⟩ ⟨a', b', c', d'⟩ = (b' == b && c' == c) := rfl
        simp only [GsSameGauges.l1, unp2, hyi, hxi, Option.bind_some, unComb, letK, joinK, appK, iteK_if]
        have hkk : decide ((i : Int) ≤ (k : Int)) = !decide (k < i) := by
          by_cases hki : k < i
          · first | (simp [hki]; done) | (simp [hki]; omega)
          · first | (simp [hki]; done) | (simp [hki]; omega)
        rw [hkk]
        cases hb : b' == b with
        | false =>
          rw [hsm, hb] at hf hm
          simp only [Bool.false_and, Bool.and_false, Bool.or_false, Bool.false_eq_true, if_false] at hf hm ⊢
          exact hn2 _ ⟨by rw [hf]; exact g1, by dsimp only; omega, by dsimp only; rw [hm]; exact g3⟩
        | true =>
          cases hc : c' == c with
          | false =>
            rw [hsm, hb, hc] at hf hm
            simp only [Bool.true_and, Bool.and_false, Bool.or_false, Bool.false_eq_true, if_false, if_true] at hf hm ⊢
            exact hn2 _ ⟨by rw [hf]; exact g1, by dsimp only; omega, by dsimp only; rw [hm]; exact g3⟩
          | true =>
            rw [hsm, hb, hc] at hf hm
            simp only [Bool.true_and, Bool.and_true, if_true] at hf hm ⊢
            rw [guardK_pos (by omega)]
            have fin := hn2 (ids ++ [a'], !((l.take (min (k + 1) i)).any (sm ⟨a, b, c, d⟩))) ⟨by rw [hf, g1], by dsimp only; rw [List.length_append]; show ids.length + 1 ≤ _; omega, rfl⟩
            rw [hm, Bool.not_or, ← g3] at fin
            cases fst with
            | true => simpa using fin
            | false => simpa using fin
      · rintro ⟨ids, fst⟩ ⟨g1, g2, g3⟩
        dsimp only at g1 g2 g3
        rw [Nat.min_eq_right (by omega)] at g3
        rw [List.take_length] at g1
        simp only [GsSameGauges.e1, unp2, letK, appK, iteK_if]
        cases hb : (l.take i).any (sm x) with
        | true =>
          rw [hb, if_pos rfl] at hg
          rw [hb] at g3
          rw [if_neg (by rw [g3]; simp)]
          exact hn _ ⟨by rw [hg, h1], by omega⟩
        | false =>
          rw [hb, if_neg (by simp)] at hg
          rw [hb] at g3
          rw [if_pos (by rw [g3]; rfl), guardK_pos (by omega)]
          exact hn _ ⟨by rw [hg, h1, g1]; rfl, by rw [List.length_append]; show o.length + 1 ≤ _; omega⟩
    · rintro o ⟨h1, h2⟩
      simp only [GsSameGauges.e0, letK, h1]
end Go.Proofs.Ytdgbigkcophjoaa.Q5Same
