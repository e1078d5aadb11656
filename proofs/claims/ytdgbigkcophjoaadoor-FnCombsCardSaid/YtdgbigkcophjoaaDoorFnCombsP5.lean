/- The texts on which the proof of FnCombs stands, one behind the other (5 of 5). No condition of their own. -/
import Derived.Test.YtdgbigkcophjoaaDoorFnCombsP4
import Derived.Test.YtdgbigkcophjoaaDoorFnCombsP1
/- What the law FnCombs tells of combs: each comb is in one group of the same gauges. (Q5FnCombs) No condition but those of each theorem. -/
namespace Go.Proofs.YtdgbigkcophjoaaDoor.Q5FnCombs
set_option linter.unusedVariables false
set_option linter.unusedSimpArgs false
open Go.RowKit
open Go.Proofs.YtdgbigkcophjoaaDoor.GoP Go.Proofs.YtdgbigkcophjoaaDoor.PlainStamp Go.Proofs.YtdgbigkcophjoaaDoor.QBase Go.Proofs.YtdgbigkcophjoaaDoor.QNum Go.Proofs.YtdgbigkcophjoaaDoor.PlainFace Go.Proofs.YtdgbigkcophjoaaDoor.Q5CDraws Go.Proofs.YtdgbigkcophjoaaDoor.Q5CText Go.Proofs.YtdgbigkcophjoaaDoor.Q5Sum Go.Proofs.YtdgbigkcophjoaaDoor.Q5Same Go.Proofs.YtdgbigkcophjoaaDoor.Q5Match Go.Proofs.YtdgbigkcophjoaaDoor.Q5Turned Go.Proofs.YtdgbigkcophjoaaDoor.Q5Ask Go.Proofs.YtdgbigkcophjoaaDoor.Q5Are Go.Proofs.YtdgbigkcophjoaaDoor.Q5Comb Go.Proofs.YtdgbigkcophjoaaDoor.Q5GText Go.Proofs.YtdgbigkcophjoaaDoor.QText Go.Proofs.YtdgbigkcophjoaaDoor.QUp Go.Proofs.YtdgbigkcophjoaaDoor.QLoop Go.Proofs.YtdgbigkcophjoaaDoor.QAll Go.Proofs.YtdgbigkcophjoaaDoor.PComb

theorem rInts_self (l : List Int) : GlRInts.P l l = some true := by
  simp only [GlRInts.P, letK, bne_self_eq_false, iteK_if, Bool.false_eq_true, if_false]
  refine cnt_is true (fun _ _ => True) ?_ (fun _ _ => rfl) () trivial
  intro k s nx hk _ hn
  obtain ⟨x, hx, hxi⟩ := at_lt (l := l) (k := k) hk
  simp only [GlRInts.l0, hxi, Option.bind_some, letK, bne_self_eq_false, iteK_if, Bool.false_eq_true, if_false, appK]
  exact hn _ trivial
theorem rTable_self (l : List (List Int)) : GlRTable.P l l = some true := by
  simp only [GlRTable.P, letK, bne_self_eq_false, iteK_if, Bool.false_eq_true, if_false]
  refine cnt_is true (fun _ _ => True) ?_ (fun _ _ => rfl) () trivial
  intro k s nx hk _ hn
  obtain ⟨x, hx, hxi⟩ := at_lt (l := l) (k := k) hk
  simp only [GlRTable.l0, hxi, Option.bind_some, rInts_self, letK, Bool.not_true, iteK_if, Bool.false_eq_true, if_false, appK]
  exact hn _ trivial
theorem rHas_eq (l : List Int) (x : Int) : GlRHas.P l x = some (l.any (· == x)) := by
  unfold GlRHas.P
  refine cnt_is (l.any (· == x)) (fun k _ => (l.take k).any (· == x) = false) ?_ ?_ () (by simp)
  · intro k s nx hk hI hn
    obtain ⟨y, hy, hyi⟩ := at_lt (l := l) (k := k) hk
    simp only [GlRHas.l0, hyi, Option.bind_some, letK, iteK_if, appK]
    cases hc : y == x with
    | true =>
      have : l.any (· == x) = true := List.any_eq_true.2 ⟨y, List.mem_of_getElem? hy, hc⟩
      rw [this]; rfl
    | false =>
      simp only [Bool.false_eq_true, if_false]
      exact hn _ (by rw [take_next hy, List.any_append, hI]; simpa using hc)
  · intro s hI
    rw [List.take_length] at hI
    rw [hI]; rfl
theorem uniq {l : List Comb} (h : okCos l = true) {i j : Nat} {x y : Comb} (hx : l[i]? = some x) (hy : l[j]? = some y) (e : x.id = y.id) : x = y := by
  unfold okCos upL at h
  simp only [Bool.and_eq_true, decide_eq_true_eq] at h
  rcases Nat.lt_trichotomy i j with hij | hij | hij
  · have := up_less h.2 hij hx hy; omega
  · subst hij; rw [hx] at hy; exact Option.some.inj hy
  · have := up_less h.2 hij hy hx; omega
theorem has_filter {l : List Comb} (h : okCos l = true) (p : Comb → Bool) {k : Nat} {y : Comb} (hy : l[k]? = some y) : ((l.filter p).map Comb.id).any (· == y.id) = p y := by
  cases hp : p y with
  | true => exact List.any_eq_true.2 ⟨y.id, List.mem_map_of_mem (List.mem_filter.2 ⟨List.mem_of_getElem? hy, hp⟩), by simp⟩
  | false =>
    rw [Bool.eq_false_iff]; intro ha
    obtain ⟨i, hi, hq⟩ := List.any_eq_true.1 ha
    obtain ⟨z, hz, rfl⟩ := List.mem_map.1 hi
    obtain ⟨hz1, hz2⟩ := List.mem_filter.1 hz
    obtain ⟨j, hj⟩ := List.getElem?_of_mem hz1
    have := uniq h hj hy (by simpa using hq)
    subst this
    rw [hp] at hz2; simp at hz2
theorem e1_yes {tapes : List Int → GoC.Tape} (ht : GoC.Tells tapes) (code : List Int) (l : List Comb) (hl : l.length ≤ 20) (ok : Bool) (s : Int) (hs : ok = true → s = (l.length : Int)) : GlFnCombs.e1 code tapes l ok s = some true := by
  obtain ⟨g, eg⟩ := drawGT_ok ht code
  obtain ⟨x, ex⟩ := drawCT_ok ht code
  have c1 := comb_impl x
  have c2 := comb_spec x
  have g1 := gauge_impl g
  have g2 := gauge_spec g
  have a1 := areCombs_eq l
  have a2 := are_spec l (by omega)
  obtain ⟨⟨p, q⟩, hr⟩ : ∃ y, y = cRes x := ⟨_, rfl⟩
  rw [← hr] at c1 c2
  obtain ⟨⟨p2, q2⟩, hr2⟩ : ∃ y : ByteArray × Bool, y = if inB g 500 2000 = true then (str (gL g), true) else (⟨#[]⟩, false) := ⟨_, rfl⟩
  rw [← hr2] at g1 g2
  obtain ⟨a, b, c, d⟩ := x
  cases ok with
  | true =>
    have := hs rfl
    subst this
    simp [GlFnCombs.e1, eg, ex, g1, g2, c1, c2, a1, a2, unComb, bind2, letK, joinK, appK, iteK_if]
  | false => simp [GlFnCombs.e1, eg, ex, g1, g2, c1, c2, a1, a2, unComb, bind2, letK, joinK, appK, iteK_if]
theorem e0_yes {tapes : List Int → GoC.Tape} (ht : GoC.Tells tapes) (code : List Int) (l : List Comb) (hl : l.length ≤ 20) (s : Int) : GlFnCombs.e0 code tapes l s = some true := by
  have s1 := same_impl l
  have s2 := same_spec l (by omega)
  cases hok : okCos l with
  | false =>
    rw [hok] at s1 s2
    simp only [Bool.false_eq_true, if_false] at s1 s2
    simp only [GlFnCombs.e0, s1, s2, bind2_some, rTable_self, Option.bind_some, letK, joinK, appK, iteK_if, beq_self_eq_true, Bool.not_true, Bool.false_eq_true, if_false]
    exact e1_yes ht code l hl false 0 (by simp)
  | true =>
    rw [hok] at s1 s2
    simp only [if_true] at s1 s2
    simp only [GlFnCombs.e0, s1, s2, bind2_some, rTable_self, Option.bind_some, letK, joinK, appK, iteK_if, beq_self_eq_true, Bool.not_true, Bool.false_eq_true, if_false]
    have hT : ∀ row ∈ gs l l.length, row.length ≤ l.length := gs_rows l l.length
    have hn := gs_len l l.length
    have hsum := sum_groups l
    generalize gs l l.length = T at hT hn hsum
    refine cnt_is true (fun k s => s = (((T.take k).map List.length).sum : Int) ∧ s ≤ 20 * (k : Int)) ?_ ?_ _ ⟨by simp, by simp⟩
    · rintro k s nx hk ⟨h1, h2⟩ hnx
      obtain ⟨row, hr, hri⟩ := at_lt (l := T) (k := k) hk
      have := hT row (List.mem_of_getElem? hr)
      simp only [GlFnCombs.l1, letK, hri, Option.bind_some, appK]
      rw [wrap_in (x := s + (row.length : Int)) (by omega) (by omega)]
      refine hnx _ ⟨?_, by omega⟩
      rw [take_next hr, List.map_append, List.sum_append, h1]
      simp
    · rintro s ⟨h1, _⟩
      rw [List.take_length, hsum] at h1
      exact e1_yes ht code l hl true s (fun _ => h1)
theorem askB_comm (l : List Comb) (w h o : Int) : askB l h w o = askB l w h o := by
  unfold askB
  cases okCos l <;> cases measB w <;> cases measB h <;> simp
theorem law_combs {tapes : List Int → GoC.Tape} (ht : GoC.Tells tapes) (code : List Int) {fuel : Nat} (hf : 1048577 ≤ fuel) : GlFnCombs.P fuel tapes code = some true := by
  obtain ⟨l, w, h, o, e1, hl⟩ := drawMatch_ok ht code fuel hf
  have m1 := match_impl l w h o
  have m2 := match_spec l w h o (by omega)
  have m3 := match_impl l h w o
  have t1 := turned_impl l w h o
  have t2 := turned_spec l w h o (by omega)
  simp only [GlFnCombs.P, GlRBig.P, Option.bind_some, letK, iteK_if]
  by_cases hbig : (65536 : Int) < (code.length : Int)
  · simp [hbig]
  · have hb0 : decide ((65536 : Int) < (code.length : Int)) = false := decide_eq_false hbig
    simp only [hb0, Bool.false_eq_true, if_false, e1, bind4, Option.bind_some]
    cases ha : askB l w h o with
    | false =>
      have hb : askB l h w o = false := by rw [askB_comm]; exact ha
      simp only [matchRes, turnRes, ha, hb, Bool.false_eq_true, if_false] at m1 m2 m3 t1 t2
      simp only [m1, m2, m3, t1, t2, bind2_some, rInts_self, Option.bind_some, letK, joinK, appK, iteK_if, beq_self_eq_true, Bool.not_true, Bool.false_eq_true, if_false]
      refine lp_is (n := 0) true (fun _ _ => True) (fun k s nx hk => by omega) ?_ fuel 0 0 (by omega) (by omega) trivial
      intro s nx _
      simp only [GlFnCombs.l0, letK, joinK, appK, iteK_if, ite_self, Bool.false_eq_true, if_false]
      exact e0_yes ht code l hl s
    | true =>
      have hb : askB l h w o = true := by rw [askB_comm]; exact ha
      have hok : okCos l = true := by unfold askB at ha; simp only [Bool.and_eq_true] at ha; exact ha.1.1.1
      simp only [matchRes, turnRes, ha, hb, if_true] at m1 m2 m3 t1 t2
      simp only [m1, m2, m3, t1, t2, bind2_some, rInts_self, Option.bind_some, letK, joinK, appK, iteK_if, beq_self_eq_true, Bool.not_true, Bool.false_eq_true, if_false]
      refine lp_is (n := l.length) true (fun k s => s = (k : Int)) ?_ ?_ fuel 0 0 (by omega) (by omega) rfl
      · rintro k s nx hk rfl hn
        obtain ⟨y, hy, hyi⟩ := at_lt (l := l) (k := k) hk
        have h1 := has_filter hok (turnB w h o) hy
        have h2 := has_filter hok (matchB h w o) hy
        have h3 := has_filter hok (matchB w h o) hy
        have hlt : decide ((k : Int) < (l.length : Int)) = true := decide_eq_true (by omega)
        have hw : IntKind.i64.wrap ((k : Int) + 1) = ((k + 1 : Nat) : Int) := next_i (by omega)
        have htb : turnB w h o y = (!matchB w h o y && matchB h w o y) := rfl
        obtain ⟨a, b, c, d⟩ := y
        dsimp only at h1 h2 h3
        simp only [GlFnCombs.l0, letK, joinK, appK, iteK_if, hlt, if_true, hyi, Option.bind_some, unComb, rHas_eq, h1, h2, h3, htb, hw]
        have := hn _ rfl
        cases matchB w h o ⟨a, b, c, d⟩ <;> cases matchB h w o ⟨a, b, c, d⟩ <;> simpa using this
      · rintro s nx rfl
        have hlt : decide ((l.length : Int) < (l.length : Int)) = false := by simp
        simp only [GlFnCombs.l0, letK, joinK, appK, iteK_if, hlt, Bool.false_eq_true, if_false]
        exact e0_yes ht code l hl _
end Go.Proofs.YtdgbigkcophjoaaDoor.Q5FnCombs

