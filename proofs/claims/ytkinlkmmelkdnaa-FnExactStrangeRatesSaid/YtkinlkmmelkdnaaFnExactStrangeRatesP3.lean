/- The texts on which the proof of FnExactStrangeRates stands, one behind the other (3 of 3). No condition of their own. -/
import Derived.Test.YtkinlkmmelkdnaaFnExactStrangeRatesP2
import Derived.Test.YtkinlkmmelkdnaaFnExactStrangeRatesP1
/- Chapter 8: rates: the plain functions of the program and of the reference agree, and the laws answer true. (Q8Strange) No condition but those of each theorem. -/
namespace Go.Proofs.Ytkinlkmmelkdnaa.Q8Strange
set_option linter.unusedVariables false
set_option linter.unusedSimpArgs false
open Go.RowKit
open Go.Proofs.Ytkinlkmmelkdnaa.GoP Go.Proofs.Ytkinlkmmelkdnaa.PlainStamp Go.Proofs.Ytkinlkmmelkdnaa.QBase Go.Proofs.Ytkinlkmmelkdnaa.QCount Go.Proofs.Ytkinlkmmelkdnaa.QRiseL Go.Proofs.Ytkinlkmmelkdnaa.QOrd Go.Proofs.Ytkinlkmmelkdnaa.QFold Go.Proofs.Ytkinlkmmelkdnaa.Q8For Go.Proofs.Ytkinlkmmelkdnaa.Q8List Go.Proofs.Ytkinlkmmelkdnaa.Q8Rate Go.Proofs.Ytkinlkmmelkdnaa.QGath Go.Proofs.Ytkinlkmmelkdnaa.QLoop Go.Proofs.Ytkinlkmmelkdnaa.PRate

def dearB (o r : Rate) : Bool := decide (o.zone = r.zone) && decide (o.grams < r.grams) && decide (r.cents < o.cents) && decide (o.from_ ≤ r.until_) && decide (r.from_ ≤ o.until_)
def strB (l : List Rate) (k : Nat) : Bool := match l[k]? with | none => false | some r => l.any (fun o => dearB o r)
def strRes (l : List Rate) : List Int × Bool := if okRs l = true then (((List.range l.length).filter (strB l)).map (fun i : Nat => (i : Int)), true) else ([], false)
theorem str_len (l : List Rate) : (strRes l).1.length ≤ 16 := by
  unfold strRes
  split
  · rename_i h
    have := riseL_len h
    have h2 := List.length_filter_le (strB l) (List.range l.length)
    rw [List.length_range] at h2
    rw [List.length_map]; omega
  · simp
theorem dearer_eq {o r : Rate} (ho : okR o = true) (hr : okR r = true) : GiIsDearer.P o r = some (dearB o r) := by
  have h1 := okR_of ho
  have h2 := okR_of hr
  obtain ⟨a, b, c, d, e⟩ := o
  obtain ⟨a2, b2, c2, d2, e2⟩ := r
  dsimp only at h1 h2
  have hx : decide (max c c2 ≤ min d d2) = (decide (c ≤ d2) && decide (c2 ≤ d)) := by rw [Bool.eq_iff_iff]; simp; omega
  simp only [GiIsDearer.P, unRate, Option.bind_some, letK, joinK, appK, iteK_if, dearB, hx]
  by_cases h3 : a = a2 <;> by_cases h4 : b < b2 <;> by_cases h5 : e2 < e <;> simp [h3, h4, h5]
theorem any_eq {l : List Rate} {r : Rate} (h : okRs l = true) (hr : okR r = true) : GxSlicesContainsFuncLoopExampleG01062ImplRateLoopExampleG01062ImplRateiStrangeRates1.P l r.zone r.grams r.from_ r.until_ r.cents = some (l.any fun o => dearB o r) := by
  simp only [GxSlicesContainsFuncLoopExampleG01062ImplRateLoopExampleG01062ImplRateiStrangeRates1.P, GxSlicesIndexFuncLoopExampleG01062ImplRateLoopExampleG01062ImplRateiStrangeRates1.P]
  rw [find_loop (p := fun o => dearB o r) (yes := fun i => some (i : Int))]
  · have := any_find (fun o => dearB o r) l
    unfold firstI at this
    cases hf : l.findIdx? (fun o => dearB o r) with
    | none => rw [hf] at this; simp only [GxSlicesIndexFuncLoopExampleG01062ImplRateLoopExampleG01062ImplRateiStrangeRates1.e0, Option.bind_some, letK]; rw [← this]
    | some i => rw [hf] at this; simp only [Option.bind_some, letK]; rw [← this]
  · intro k nx x hx
    have hi : idx l (k : Int) = some x := by rw [idx_nat, hx]
    have hok := rs_mem h (List.mem_of_getElem? hx)
    simp only [GxSlicesIndexFuncLoopExampleG01062ImplRateLoopExampleG01062ImplRateiStrangeRates1.l0, hi, Option.bind_some, unRate, GiStrangeRates1.P, dearer_eq hok hr, letK, appK, iteK_if]
theorem str_impl (l : List Rate) (hl : l.length ≤ 9223372036854775807) : GiStrangeRates.P l = some (strRes l) := by
  simp only [GiStrangeRates.P, areRates_eq l hl, Option.bind_some, letK, iteK_if, strRes]
  cases hc : okRs l with
  | false => simp
  | true =>
    have h16 := riseL_len hc
    simp only [Bool.not_true, Bool.false_eq_true, if_false, if_true]
    have := gather (l := List.range l.length) (p := strB l) (g := fun i : Nat => (i : Int)) (f := GiStrangeRates.l0 l) (fin := GiStrangeRates.e0) (by rw [List.length_range]; omega) ?_
    · rw [List.length_range] at this; rw [this]; rfl
    · intro k nx x s hx hs
      obtain ⟨hk, rfl⟩ := List.getElem?_eq_some_iff.1 hx
      rw [List.length_range] at hk
      rw [List.getElem_range]
      obtain ⟨r, hr, hi⟩ := at_lt (l := l) (k := k) hk
      have hok := rs_mem hc (List.mem_of_getElem? hr)
      simp only [GiStrangeRates.l0, letK, hi, Option.bind_some, unRate, any_eq hc hok, appK, iteK_if, strB, hr]
      rw [guardK_pos hs]
      cases l.any (fun o => dearB o r) <;> rfl
theorem rate_rel {l : List Rate} (h : okRs l = true) {i j : Nat} {x y : Rate} (hij : i < j) (hx : l[i]? = some x) (hy : l[j]? = some y) : x.zone < y.zone ∨ x.zone = y.zone ∧ x.grams ≤ y.grams := by
  refine riseL_rel (fun a b : Rate => a.zone < b.zone ∨ a.zone = b.zone ∧ a.grams ≤ b.grams) ?_ ?_ h hij hx hy
  · intro a b _ _ hl
    unfold linkR at hl
    split at hl
    · rename_i h; right; omega
    · simp only [decide_eq_true_eq] at hl; omega
  · intro a b c h1 h2; omega
theorem any_take {l : List Rate} (h : okRs l = true) {k : Nat} {r : Rate} (hr : l[k]? = some r) : (l.take k).any (fun o => dearB o r) = l.any fun o => dearB o r := by
  have e : l.any (fun o => dearB o r) = ((l.take k).any (fun o => dearB o r) || (l.drop k).any (fun o => dearB o r)) := by rw [← List.any_append, List.take_append_drop]
  rw [e]
  have hz : (l.drop k).any (fun o => dearB o r) = false := by
    rw [List.any_eq_false]
    intro o ho
    obtain ⟨j, hj⟩ := List.getElem?_of_mem ho
    rw [List.getElem?_drop] at hj
    by_cases h0 : j = 0
    · subst h0
      rw [Nat.add_zero, hr] at hj
      obtain rfl := Option.some.inj hj
      simp [dearB]
    · have := rate_rel h (i := k) (j := k + j) (by omega) hr hj
      unfold dearB
      simp only [Bool.and_eq_true, decide_eq_true_eq]
      omega
  rw [hz, Bool.or_false]
theorem str_spec {fuel : Nat} (l : List Rate) (hl : l.length ≤ 9223372036854775807) (hf : 17 < fuel) : GsStrangeRates.P fuel l = some (strRes l) := by
  simp only [GsStrangeRates.P, l8Good_eq l hl hf, Option.bind_some, letK, iteK_if, strRes]
  cases hc : okRs l with
  | false => simp
  | true =>
    have h16 := riseL_len hc
    simp only [Bool.not_true, Bool.false_eq_true, if_false, if_true]
    have := gather (l := List.range l.length) (p := strB l) (g := fun i : Nat => (i : Int)) (f := GsStrangeRates.l0 l) (fin := GsStrangeRates.e0) (by rw [List.length_range]; omega) ?_
    · rw [List.length_range] at this; rw [this]; rfl
    · intro k nx x s hx hs
      obtain ⟨hk, rfl⟩ := List.getElem?_eq_some_iff.1 hx
      rw [List.length_range] at hk
      rw [List.getElem_range]
      obtain ⟨r, hr, hi⟩ := at_lt (l := l) (k := k) hk
      simp only [GsStrangeRates.l0, letK]
      rw [guardK_pos (by omega)]
      have inner : cntK (GsStrangeRates.l1 l k) (l.take k).length 0 false (GsStrangeRates.e1 nx s k) = GsStrangeRates.e1 nx s k ((l.take k).foldl (fun b o => b || dearB o r) false) := by
        refine fold_loop (g := fun b o => b || dearB o r) false ?_
        intro k1 nx1 o b ho
        have hk1 : k1 < (l.take k).length := (List.getElem?_eq_some_iff.1 ho).1
        rw [List.length_take] at hk1
        rw [List.getElem?_take_of_lt (by omega)] at ho
        have hi1 : idx l (k1 : Int) = some o := by rw [idx_nat, ho]
        simp only [GsStrangeRates.l1, letK, hi1, hi, Option.bind_some, unRate, joinK, appK, iteK_if, dearB]
        cases b
        · by_cases h1 : o.zone = r.zone <;> by_cases h2 : o.grams < r.grams <;> by_cases h3 : o.from_ ≤ r.until_ <;> by_cases h4 : r.from_ ≤ o.until_ <;> by_cases h5 : r.cents < o.cents <;> simp [h1, h2, h3, h4, h5]
        · simp
      rw [List.length_take, Nat.min_eq_left (by omega)] at inner
      rw [inner]
      have hfold : ∀ (m : List Rate) (b : Bool), m.foldl (fun b o => b || dearB o r) b = (b || m.any fun o => dearB o r) := by
        intro m
        induction m with
        | nil => intro b; simp
        | cons o m ih => intro b; rw [List.foldl_cons, ih, List.any_cons, Bool.or_assoc]
      rw [hfold, Bool.false_or, any_take hc hr]
      simp only [GsStrangeRates.e1, letK, appK, iteK_if, strB, hr]
      rw [guardK_pos hs]
      cases l.any (fun o => dearB o r) <;> rfl
end Go.Proofs.Ytkinlkmmelkdnaa.Q8Strange

/- The laws' helpers on Rate and on slices of it as plain functions: copied, equal, their bulk. No condition. -/
namespace Go.Proofs.Ytkinlkmmelkdnaa.QHRateE
set_option linter.unusedVariables false
set_option linter.unusedSimpArgs false
open Go.RowKit
open Go.Proofs.Ytkinlkmmelkdnaa.GoP Go.Proofs.Ytkinlkmmelkdnaa.QBase Go.Proofs.Ytkinlkmmelkdnaa.QLoop Go.Proofs.Ytkinlkmmelkdnaa.PRate

theorem toOne (s : Rate) : GlToRate.P s = some s := by cases s; rfl
theorem eqOne (s : Rate) : GlEqRate.P s s = some true := by
  obtain ⟨x0, x1, x2, x3, x4⟩ := s
  simp [GlEqRate.P, unRate, letK, joinK, appK, iteK_if]
theorem toS (l : List Rate) (hl : l.length ≤ 1048576) : GlToRateS.P l = some l := by
  simp only [GlToRateS.P, letK]
  rw [guardK_pos (by omega)]
  refine cnt_is l (fun k s => s = l.take k ++ List.replicate (l.length - k) (Rate.mk 0 0 0 0 0)) ?_ ?_ _ (by simp)
  · intro k s nx hk hI hn
    obtain ⟨x, hx, hi⟩ := at_lt (l := l) (k := k) hk
    have hlen : s.length = l.length := by rw [hI]; simp; omega
    obtain ⟨z, hz, hj⟩ := at_lt (l := s) (k := k) (by omega)
    simp only [GlToRateS.l0, hi, hj, toOne, Option.bind_some, unRate, letK, appK]
    refine hn _ ?_
    rw [hI, take_next hx, List.set_append_right _ _ (by simp; omega)]
    have hr : l.length - k = (l.length - (k + 1)) + 1 := by omega
    rw [hr, List.replicate_succ, List.append_assoc]
    simp [show k - min k l.length = 0 by omega]
  · intro s hI
    rw [hI]; simp [GlToRateS.e0, letK]
theorem eqS (l : List Rate) : GlEqRateS.P l l = some true := by
  simp only [GlEqRateS.P, letK, iteK_if]
  rw [if_neg (by simp)]
  refine cnt_is true (fun _ _ => True) ?_ (fun s _ => rfl) () trivial
  intro k s nx hk _ hn
  obtain ⟨x, hx, hi⟩ := at_lt (l := l) (k := k) hk
  simp only [GlEqRateS.l0, hi, Option.bind_some, unRate, eqOne, letK, appK, iteK_if]
  exact hn () trivial
theorem szS (l : List Rate) (hl : l.length ≤ 9223372036854775807) : GlSzRateS.P l 1048576 = some (if l.length ≤ 1048576 then 1048576 - (l.length : Int) else -1) := by
  simp only [GlSzRateS.P, letK, iteK_if]
  rw [wrap_in (by omega) (by omega)]
  by_cases h : l.length ≤ 1048576
  · rw [if_neg (by simp; omega), if_pos h]
  · rw [if_pos (by simp; omega), if_neg h]
end Go.Proofs.Ytkinlkmmelkdnaa.QHRateE

/- The laws' helper that marks a slice of Rate as a plain function. No condition. -/
namespace Go.Proofs.Ytkinlkmmelkdnaa.QHRate
set_option linter.unusedVariables false
set_option linter.unusedSimpArgs false
open Go.RowKit
open Go.Proofs.Ytkinlkmmelkdnaa.GoP Go.Proofs.Ytkinlkmmelkdnaa.QBase Go.Proofs.Ytkinlkmmelkdnaa.QLoop Go.Proofs.Ytkinlkmmelkdnaa.PRate 
theorem set_at {α : Type} {l : List α} {k : Nat} (x : α) (h : k < l.length) : idx (l.set k x) (k : Int) = some x := by rw [idx_nat, List.getElem?_set_self h]
theorem markS (l : List Rate) (hl : l.length ≤ 1048576) : ∃ v l', GlMarkRateS.P l 1 = some (v, l') ∧ 0 ≤ v := by
  obtain ⟨⟨v, l'⟩, h, hv⟩ : ∃ r : Int × List Rate, GlMarkRateS.P l 1 = some r ∧ 0 ≤ r.1 := by
    simp only [GlMarkRateS.P]
    refine cnt_ex (n := l.length) (Q := fun r : Int × List Rate => 0 ≤ r.1) (fun k (s : List Rate × Int) => s.1.length = l.length ∧ s.2 = 5 * (k : Int) + 1) ?_ ?_ l.length 0 (l, 1) (by omega) ⟨rfl, rfl⟩
    · rintro k ⟨a, b⟩ nx hk ⟨h1, h2⟩ hn
      dsimp only at h1 h2
      obtain ⟨x, hx, hi⟩ := at_lt (l := a) (k := k) (by omega)
      have ha : k < a.length := by omega
      have w1 : IntKind.i64.wrap (b + 1) = b + 1 := wrap_in (by omega) (by omega)
      have w2 : IntKind.i64.wrap (b + 1 + 1) = b + 1 + 1 := wrap_in (by omega) (by omega)
      have w3 : IntKind.i64.wrap (b + 1 + 1 + 1) = b + 1 + 1 + 1 := wrap_in (by omega) (by omega)
      have w4 : IntKind.i64.wrap (b + 1 + 1 + 1 + 1) = b + 1 + 1 + 1 + 1 := wrap_in (by omega) (by omega)
      have w5 : IntKind.i64.wrap (b + 1 + 1 + 1 + 1 + 1) = b + 1 + 1 + 1 + 1 + 1 := wrap_in (by omega) (by omega)
      simp (disch := simp [ha]) only [GlMarkRateS.l0, unp2, hi, set_at, Option.bind_some, unRate, letK, appK, w1, w2, w3, w4, w5]
      exact hn _ ⟨by simpa using h1, by dsimp only; omega⟩
    · rintro ⟨a, b⟩ ⟨h1, h2⟩
      exact ⟨_, rfl, by dsimp only at h2 ⊢; omega⟩
  exact ⟨v, l', h, hv⟩
end Go.Proofs.Ytkinlkmmelkdnaa.QHRate

/- The laws' helpers on slices of ints as plain functions: equal, marked, held. Condition: at most 2^40 numbers. -/
namespace Go.Proofs.Ytkinlkmmelkdnaa.QInt
set_option linter.unusedVariables false
set_option linter.unusedSimpArgs false
open Go.RowKit
open Go.Proofs.Ytkinlkmmelkdnaa.GoP Go.Proofs.Ytkinlkmmelkdnaa.QBase Go.Proofs.Ytkinlkmmelkdnaa.QLoop

theorem eqI (l : List Int) : GlEqIntS.P l l = some true := by
  simp only [GlEqIntS.P, letK, iteK_if]
  rw [if_neg (by simp)]
  refine cnt_is true (fun _ _ => True) ?_ (fun s _ => rfl) () trivial
  intro k s nx hk _ hn
  obtain ⟨x, hx, hi⟩ := at_lt (l := l) (k := k) hk
  simp only [GlEqIntS.l0, hi, Option.bind_some, letK, appK, iteK_if]
  rw [if_neg (by simp)]
  exact hn () trivial
/-- 1, 2, 3 .. -/
def ups (n : Nat) : List Int := (List.range n).map (fun i : Nat => (i : Int) + 1)
theorem ups_at {n k : Nat} (h : k < n) : (ups n)[k]? = some ((k : Int) + 1) := by unfold ups; simp [h]
theorem ups_len (n : Nat) : (ups n).length = n := by simp [ups]
theorem markI (l : List Int) (hl : l.length ≤ 1099511627776) : GlMarkIntS.P l 1 = some ((l.length : Int) + 1, ups l.length) := by
  simp only [GlMarkIntS.P]
  refine cnt_is _ (fun k s => s.1.length = l.length ∧ s.2 = (k : Int) + 1 ∧ ∀ i, i < k → s.1[i]? = some ((i : Int) + 1)) ?_ ?_ (l, 1) ⟨rfl, rfl, fun i hi => by omega⟩
  · rintro k ⟨a, b⟩ nx hk ⟨h1, h2, h3⟩ hn
    dsimp only at h1 h2 h3
    obtain ⟨x, hx, hi⟩ := at_lt (l := a) (k := k) (by omega)
    simp only [GlMarkIntS.l0, unp2, hi, Option.bind_some, letK, appK]
    rw [wrap_in (by omega) (by omega)]
    refine hn _ ⟨by simpa using h1, by dsimp only; omega, fun i hi2 => ?_⟩
    dsimp only
    by_cases he : i = k
    · subst he; rw [List.getElem?_set_self (by omega), h2]
    · rw [List.getElem?_set_ne (by omega)]; exact h3 i (by omega)
  · rintro ⟨a, b⟩ ⟨h1, h2, h3⟩
    dsimp only at h1 h2 h3
    have : a = ups l.length := by
      apply List.ext_getElem?
      intro i
      by_cases hi : i < l.length
      · rw [h3 i hi, ups_at hi]
      · rw [List.getElem?_eq_none (by omega), List.getElem?_eq_none (by rw [ups_len]; omega)]
    simp only [GlMarkIntS.e0, unp2]
    rw [this, h2]
theorem heldI (n : Nat) (hl : n ≤ 1099511627776) : GlHeldIntS.P (ups n) 1 = some ((n : Int) + 1) := by
  simp only [GlHeldIntS.P]
  refine cnt_is _ (fun k s => s = (k : Int) + 1) ?_ ?_ 1 rfl
  · intro k s nx hk hI hn
    rw [ups_len] at hk
    have hi : idx (ups n) (k : Int) = some ((k : Int) + 1) := by rw [idx_nat, ups_at hk]
    simp only [GlHeldIntS.l0, hi, Option.bind_some, letK, appK, iteK_if]
    rw [if_neg (by simp [hI]), wrap_in (by omega) (by omega)]
    exact hn _ (by omega)
  · intro s hI
    simp only [GlHeldIntS.e0, letK]
    rw [hI, ups_len]
/-- a loop that gathers -/
theorem gather {α β R : Type} {l : List α} {p : α → Bool} {g : α → β} {f : Nat → List β → (List β → Option R) → (List β → Option R) → Option R} {fin : List β → Option R} (hl : l.length ≤ 1099511627776)
    (step : ∀ k nx x s, l[k]? = some x → s.length ≤ 1099511627776 → f k s nx fin = nx (if p x then s ++ [g x] else s)) : cntK f l.length 0 [] fin = fin ((l.filter p).map g) := by
  have key : ∀ m k, k + m = l.length → cntK f m k (((l.take k).filter p).map g) fin = fin ((l.filter p).map g) := by
    intro m
    induction m with
    | zero => intro k hk; obtain rfl : k = l.length := by omega
              rw [List.take_of_length_le (Nat.le_refl _)]; rfl
    | succ m ih =>
      intro k hk
      obtain ⟨x, hx, _⟩ := at_lt (l := l) (k := k) (by omega)
      show f k _ _ fin = _
      have hle : (((l.take k).filter p).map g).length ≤ 1099511627776 := by
        rw [List.length_map]
        have := List.length_filter_le p (l.take k)
        rw [List.length_take] at this
        omega
      rw [step k _ x _ hx hle, ← ih (k + 1) (by omega), take_next hx, List.filter_append, List.map_append]
      cases hp : p x <;> simp [List.filter, hp]
  exact key l.length 0 (by omega)
end Go.Proofs.Ytkinlkmmelkdnaa.QInt

/- Chapter 8: rates: the plain functions of the program and of the reference agree, and the laws answer true. (QL8Strange) No condition but those of each theorem. -/
namespace Go.Proofs.Ytkinlkmmelkdnaa.QL8Strange
set_option linter.unusedVariables false
set_option linter.unusedSimpArgs false
open Go.RowKit
open Go.Proofs.Ytkinlkmmelkdnaa.GoP Go.Proofs.Ytkinlkmmelkdnaa.PlainStamp Go.Proofs.Ytkinlkmmelkdnaa.QBase Go.Proofs.Ytkinlkmmelkdnaa.Q8Strange Go.Proofs.Ytkinlkmmelkdnaa.QLoop Go.Proofs.Ytkinlkmmelkdnaa.PRate Go.Proofs.Ytkinlkmmelkdnaa.QHRateE Go.Proofs.Ytkinlkmmelkdnaa.QHRate Go.Proofs.Ytkinlkmmelkdnaa.QInt

theorem law_strange {fuel : Nat} (l : List Rate) (hl : l.length ≤ 9223372036854775807) (hf : 17 < fuel) : GlFnExactStrangeRates.P fuel l = some true := by
  simp only [GlFnExactStrangeRates.P, szS l hl, Option.bind_some, letK, iteK_if]
  by_cases hb : l.length ≤ 1048576
  · rw [if_neg (by rw [if_pos hb]; simp; omega)]
    obtain ⟨⟨a, b⟩, hr⟩ : ∃ x, x = strRes l := ⟨_, rfl⟩
    have hlen := str_len l
    rw [← hr] at hlen
    dsimp only at hlen
    obtain ⟨v2, l2, hm, hv2⟩ := markS l hb
    have hv3 : ¬ v2 < 0 := by omega
    have hv4 : ¬ (a.length : Int) + 1 < 0 := by omega
    simp [toS l hb, str_spec l hl hf, str_impl l hl, ← hr, bind2, joinK, appK, iteK_if, eqS, eqI, hm, hv3, markI a (by omega), heldI a.length (by omega), hv4]
  · rw [if_pos (by rw [if_neg hb]; simp)]
end Go.Proofs.Ytkinlkmmelkdnaa.QL8Strange

