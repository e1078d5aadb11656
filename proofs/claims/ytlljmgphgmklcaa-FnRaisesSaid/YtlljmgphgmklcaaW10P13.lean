/- Texts on which the proofs of several laws stand, one behind the other (13 of 13). No condition of their own. -/
import Derived.Test.YtlljmgphgmklcaaW10P12
import Derived.Test.YtlljmgphgmklcaaW10P1
import Derived.Test.YtlljmgphgmklcaaW10P10
import Derived.Test.YtlljmgphgmklcaaW10P11
import Derived.Test.YtlljmgphgmklcaaW10P9
/- Chapter 8: rates: the plain functions of the program and of the reference agree, and the laws answer true. (Q8Heavy) No condition but those of each theorem. -/
namespace Go.Proofs.Ytlljmgphgmklcaa.Q8Heavy
set_option linter.unusedVariables false
set_option linter.unusedSimpArgs false
open Go.RowKit
open Go.Proofs.Ytlljmgphgmklcaa.GoP Go.Proofs.Ytlljmgphgmklcaa.PlainStamp Go.Proofs.Ytlljmgphgmklcaa.QBase Go.Proofs.Ytlljmgphgmklcaa.QFold Go.Proofs.Ytlljmgphgmklcaa.Q8For Go.Proofs.Ytlljmgphgmklcaa.Q8List Go.Proofs.Ytlljmgphgmklcaa.Q8Rate Go.Proofs.Ytlljmgphgmklcaa.QLoop Go.Proofs.Ytlljmgphgmklcaa.PRate

def hvB (day zone cents : Int) (r : Rate) : Bool := decide (r.zone = zone) && decide (r.cents ≤ cents) && inB day r.from_ r.until_
def heavyV (l : List Rate) (day zone cents : Int) : Int := l.foldl (fun b r => if hvB day zone cents r = true then r.grams else b) 0
def heavyRes (l : List Rate) (day zone cents : Int) : Int × Bool := if (okRs l && inB day 0 4000 && inB zone 0 9 && inB cents 1 9999) = true then (heavyV l day zone cents, decide (0 < heavyV l day zone cents)) else (0, false)
theorem heavy_impl (l : List Rate) (day zone cents : Int) (hl : l.length ≤ 9223372036854775807) : GiHeaviestFor.P l day zone cents = some (heavyRes l day zone cents) := by
  have key : cntK (GiHeaviestFor.l0 l day zone cents) l.length 0 0 GiHeaviestFor.e0 = some (heavyV l day zone cents, decide (0 < heavyV l day zone cents)) := by
    rw [fold_loop (g := fun b r => if hvB day zone cents r = true then r.grams else b)]
    · rfl
    · intro k nx x s hx
      have hi : idx l (k : Int) = some x := by rw [idx_nat, hx]
      simp only [GiHeaviestFor.l0, hi, Option.bind_some, unRate, within_eq, letK, joinK, appK, iteK_if, hvB]
      by_cases h1 : x.zone = zone <;> by_cases h2 : x.cents ≤ cents <;> by_cases h3 : inB day x.from_ x.until_ = true <;> simp [h1, h2, h3]
  simp only [GiHeaviestFor.P, areRates_eq l hl, isDay_eq, isZone_eq, isRateCents_eq, key, Option.bind_some, letK, joinK, appK, iteK_if, heavyRes]
  cases okRs l <;> cases inB day 0 4000 <;> cases inB zone 0 9 <;> cases inB cents 1 9999 <;> simp
theorem heavy_spec {fuel : Nat} (l : List Rate) (day zone cents : Int) (hl : l.length ≤ 9223372036854775807) (hf : 17 < fuel) : GsHeaviestFor.P fuel l day zone cents = some (heavyRes l day zone cents) := by
  have key : cntK (GsHeaviestFor.l0 l day zone cents) l.length 0 0 GsHeaviestFor.e0 = some (heavyV l day zone cents, decide (0 < heavyV l day zone cents)) := by
    rw [fold_loop (g := fun b r => if hvB day zone cents r = true then r.grams else b)]
    · rfl
    · intro k nx x s hx
      have hi : idx l (k : Int) = some x := by rw [idx_nat, hx]
      simp only [GsHeaviestFor.l0, hi, Option.bind_some, unRate, l1In_eq, letK, joinK, appK, iteK_if, hvB]
      by_cases h1 : x.zone = zone <;> by_cases h2 : x.cents ≤ cents <;> by_cases h3 : inB day x.from_ x.until_ = true <;> simp [h1, h2, h3]
  simp only [GsHeaviestFor.P, l8Good_eq l hl hf, l2Day_eq, l8Zone_eq, l8Cents_eq, key, Option.bind_some, letK, joinK, appK, iteK_if, heavyRes]
  cases okRs l <;> cases inB day 0 4000 <;> cases inB zone 0 9 <;> cases inB cents 1 9999 <;> simp
end Go.Proofs.Ytlljmgphgmklcaa.Q8Heavy

/- Chapter 8: rates: the plain functions of the program and of the reference agree, and the laws answer true. (Q8RateFor) No condition but those of each theorem. -/
namespace Go.Proofs.Ytlljmgphgmklcaa.Q8RateFor
set_option linter.unusedVariables false
set_option linter.unusedSimpArgs false
open Go.RowKit
open Go.Proofs.Ytlljmgphgmklcaa.GoP Go.Proofs.Ytlljmgphgmklcaa.PlainStamp Go.Proofs.Ytlljmgphgmklcaa.QBase Go.Proofs.Ytlljmgphgmklcaa.Q8For Go.Proofs.Ytlljmgphgmklcaa.Q8List Go.Proofs.Ytlljmgphgmklcaa.Q8Rate Go.Proofs.Ytlljmgphgmklcaa.QLoop Go.Proofs.Ytlljmgphgmklcaa.PRate

def forRes (l : List Rate) (day zone grams : Int) : Int × Bool := if (okRs l && inB day 0 4000 && inB zone 0 9 && inB grams 1 2000) = true then (rateV l day zone grams, decide (0 < rateV l day zone grams)) else (0, false)
theorem for_impl (l : List Rate) (day zone grams : Int) (hl : l.length ≤ 9223372036854775807) : GiRateFor.P l day zone grams = some (forRes l day zone grams) := by
  simp only [GiRateFor.P, canSend_eq l zone grams hl, isDay_eq, rateOn_eq, Option.bind_some, letK, joinK, appK, iteK_if, forRes]
  cases okRs l <;> cases inB day 0 4000 <;> cases inB zone 0 9 <;> cases inB grams 1 2000 <;> simp
end Go.Proofs.Ytlljmgphgmklcaa.Q8RateFor

/- The named law of raises: what it draws, a raised rate on its day and the day before, and the law answers true. (Q8RaiseHelp) No condition but those of each theorem. -/
namespace Go.Proofs.Ytlljmgphgmklcaa.Q8RaiseHelp
set_option linter.unusedVariables false
set_option linter.unusedSimpArgs false
open Go.RowKit
open Go.Proofs.Ytlljmgphgmklcaa.GoP Go.Proofs.Ytlljmgphgmklcaa.PlainStamp Go.Proofs.Ytlljmgphgmklcaa.QBase Go.Proofs.Ytlljmgphgmklcaa.Q8Exact Go.Proofs.Ytlljmgphgmklcaa.Q8Raise Go.Proofs.Ytlljmgphgmklcaa.Q8Cheap Go.Proofs.Ytlljmgphgmklcaa.Q8Heavy Go.Proofs.Ytlljmgphgmklcaa.Q8RateFor Go.Proofs.Ytlljmgphgmklcaa.QCount Go.Proofs.Ytlljmgphgmklcaa.QFold Go.Proofs.Ytlljmgphgmklcaa.QRiseL Go.Proofs.Ytlljmgphgmklcaa.QOrd Go.Proofs.Ytlljmgphgmklcaa.Q8For Go.Proofs.Ytlljmgphgmklcaa.Q8List Go.Proofs.Ytlljmgphgmklcaa.Q8Rate Go.Proofs.Ytlljmgphgmklcaa.QLoop Go.Proofs.Ytlljmgphgmklcaa.PRate

theorem vRates_self (l : List Rate) : GlVRates.P l l = some true := by
  simp only [GlVRates.P, letK, iteK_if]
  rw [if_neg (by simp)]
  refine cnt_is true (fun _ _ => True) ?_ (fun s _ => rfl) () trivial
  rintro k ⟨⟩ nx hk _ hn
  obtain ⟨x, hx, hi⟩ := at_lt (l := l) (k := k) hk
  simp only [GlVRates.l0, hi, Option.bind_some, unRate, letK, appK, iteK_if]
  rw [if_neg (by simp)]
  exact hn () trivial
theorem vInts_self (l : List Int) : GlVInts.P l l = some true := by
  simp only [GlVInts.P, letK, iteK_if]
  rw [if_neg (by simp)]
  refine cnt_is true (fun _ _ => True) ?_ (fun s _ => rfl) () trivial
  rintro k ⟨⟩ nx hk _ hn
  obtain ⟨x, hx, hi⟩ := at_lt (l := l) (k := k) hk
  simp only [GlVInts.l0, hi, Option.bind_some, letK, appK, iteK_if]
  rw [if_neg (by simp)]
  exact hn () trivial
theorem for_yes {l : List Rate} (h : okRs l = true) {r : Rate} (hr : r ∈ l) {d : Int} (hd : r.from_ ≤ d ∧ d ≤ r.until_) : forRes l d r.zone r.grams = (r.cents, true) := by
  have hok := okR_of (rs_mem h hr)
  have h1 : inB d 0 4000 = true := by unfold inB; simp; omega
  have h2 : inB r.zone 0 9 = true := by unfold inB; simp; omega
  have h3 : inB r.grams 1 2000 = true := by unfold inB; simp; omega
  unfold forRes
  rw [h, h1, h2, h3, exact_rate h hr hd, if_pos (show (true && true && true && true) = true from rfl), decide_eq_true (by omega)]
/-- what a raise that holds tells -/
theorem raise_true {l out : List Rate} {zone grams day cents : Int} (h : raiseRes l zone grams day cents = (out, true)) : okRs out = true ∧ out.length = l.length + 1 ∧ l.length ≤ 16 ∧ -1000 ≤ day ∧ day ≤ 5000 ∧ forRes out day zone grams = (cents, true) ∧ ∃ c, forRes out (day - 1) zone grams = (c, true) ∧ forRes l (day - 1) zone grams = (c, true) := by
  unfold raiseRes at h
  split at h
  · rename_i hc
    simp only [Bool.and_eq_true] at hc
    have hd := inB_of hc.1.2
    have h16 := riseL_len hc.1.1
    cases hf : l.findIdx? (hitB zone grams day) with
    | none => rw [hf] at h; simp at h
    | some i =>
      rw [hf] at h
      dsimp only at h
      rw [List.findIdx?_eq_some_iff_getElem] at hf
      obtain ⟨hi, hp, _⟩ := hf
      unfold raiseAt at h
      rw [List.getElem?_eq_getElem hi] at h
      dsimp only at h
      obtain ⟨r, hr⟩ : ∃ r, l[i] = r := ⟨_, rfl⟩
      have hm : r ∈ l := hr ▸ List.getElem_mem hi
      rw [hr] at h hp
      have hok := okR_of (rs_mem hc.1.1 hm)
      unfold hitB at hp
      simp only [Bool.and_eq_true, decide_eq_true_eq] at hp
      obtain ⟨⟨⟨p1, p2⟩, p3⟩, p4⟩ := hp
      split at h
      · simp at h
      · split at h
        · rename_i ho
          simp only [Prod.mk.injEq, and_true] at h
          subst h
          subst p1; subst p2
          refine ⟨ho, ?_, h16, by omega, by omega, ?_, r.cents, ?_, ?_⟩
          · unfold Go.Proofs.Ytlljmgphgmklcaa.Q8Raise.raised
            rw [List.length_append, List.length_append, List.length_take, List.length_drop]
            simp only [List.length_cons, List.length_nil]; omega
          · exact for_yes (r := ⟨r.zone, r.grams, day, r.until_, cents⟩) ho (by unfold Go.Proofs.Ytlljmgphgmklcaa.Q8Raise.raised; simp) ⟨Int.le_refl _, p4⟩
          · exact for_yes (r := ⟨r.zone, r.grams, r.from_, day - 1, r.cents⟩) ho (by unfold Go.Proofs.Ytlljmgphgmklcaa.Q8Raise.raised; simp) ⟨by dsimp only; omega, Int.le_refl _⟩
          · exact for_yes hc.1.1 hm ⟨by omega, by omega⟩
        · simp at h
  · simp at h
theorem cheap_all {l : List Rate} (h : okRs l = true) (day grams : Int) (n : Nat) : (∀ z ∈ (cheap l day grams n).1, rateV l day z grams = (cheap l day grams n).2 ∧ 0 ≤ z ∧ z < (n : Int)) ∧ ((cheap l day grams n).1 ≠ [] → 0 < (cheap l day grams n).2) := by
  induction n with
  | zero => simp [cheap]
  | succ n ih =>
    have h1 := rateV_nonneg h day (n : Int) grams
    show (∀ z ∈ (stepC l day grams (cheap l day grams n) n).1, rateV l day z grams = (stepC l day grams (cheap l day grams n) n).2 ∧ 0 ≤ z ∧ z < ((n + 1 : Nat) : Int)) ∧ ((stepC l day grams (cheap l day grams n) n).1 ≠ [] → 0 < (stepC l day grams (cheap l day grams n) n).2)
    unfold stepC
    split
    · exact ⟨fun z hz => by have := ih.1 z hz; omega, ih.2⟩
    · rename_i hno
      split
      · rename_i he
        refine ⟨fun z hz => ?_, fun _ => by dsimp only; omega⟩
        rcases List.mem_append.1 hz with hz | hz
        · have := ih.1 z hz; dsimp only; omega
        · obtain rfl := List.mem_singleton.1 hz
          exact ⟨he, by omega, by omega⟩
      · refine ⟨fun z hz => ?_, fun _ => by dsimp only; omega⟩
        obtain rfl := List.mem_singleton.1 hz
        exact ⟨rfl, by omega, by omega⟩
theorem heavy_in (day zone cents : Int) : ∀ (l : List Rate) (b : Int), l.foldl (fun b r => if hvB day zone cents r = true then r.grams else b) b = b ∨ ∃ r ∈ l, hvB day zone cents r = true ∧ l.foldl (fun b r => if hvB day zone cents r = true then r.grams else b) b = r.grams := by
  intro l
  induction l with
  | nil => intro b; exact .inl rfl
  | cons x l ih =>
    intro b
    rw [List.foldl_cons]
    by_cases hx : hvB day zone cents x = true
    · rw [if_pos hx]
      rcases ih x.grams with h | ⟨r, hr, h1, h2⟩
      · exact .inr ⟨x, by simp, hx, h⟩
      · exact .inr ⟨r, by simp [hr], h1, h2⟩
    · rw [if_neg hx]
      rcases ih b with h | ⟨r, hr, h1, h2⟩
      · exact .inl h
      · exact .inr ⟨r, by simp [hr], h1, h2⟩
theorem heavy_true {l : List Rate} {day zone cents g : Int} (h : heavyRes l day zone cents = (g, true)) : ∃ n, forRes l day zone g = (n, true) ∧ n ≤ cents := by
  unfold heavyRes at h
  split at h
  · rename_i hc
    simp only [Bool.and_eq_true] at hc
    simp only [Prod.mk.injEq, decide_eq_true_eq] at h
    obtain ⟨h1, h2⟩ := h
    unfold heavyV at h1 h2
    rcases heavy_in day zone cents l 0 with h3 | ⟨r, hr, h3, h4⟩
    · rw [h3] at h2; exact absurd h2 (by omega)
    · rw [h4] at h1
      unfold hvB at h3
      simp only [Bool.and_eq_true, decide_eq_true_eq] at h3
      obtain ⟨⟨q1, q2⟩, q3⟩ := h3
      subst q1; subst h1
      exact ⟨r.cents, for_yes hc.1.1.1 hr (inB_of q3), q2⟩
  · simp at h
end Go.Proofs.Ytlljmgphgmklcaa.Q8RaiseHelp

/- A loop that gathers what a test lets through: the plain loop's answer. (QGath) No condition but those of each theorem. -/
namespace Go.Proofs.Ytlljmgphgmklcaa.QGath
set_option linter.unusedVariables false
open Go.RowKit
open Go.Proofs.Ytlljmgphgmklcaa.GoP Go.Proofs.Ytlljmgphgmklcaa.QBase Go.Proofs.Ytlljmgphgmklcaa.QLoop

theorem gather {α β R : Type} {l : List α} {p : α → Bool} {g : α → β} {f : Nat → List β → (List β → Option R) → (List β → Option R) → Option R} {fin : List β → Option R} (hl : l.length ≤ 1099511627776)
    (step : ∀ k nx x s, l[k]? = some x → s.length ≤ 1099511627776 → f k s nx fin = nx (if p x then s ++ [g x] else s)) : cntK f l.length 0 [] fin = fin ((l.filter p).map g) := by
  have key : ∀ m k, k + m = l.length → cntK f m k (((l.take k).filter p).map g) fin = fin ((l.filter p).map g) := by
    intro m
    induction m with
    | zero => intro k hk; obtain rfl : k = l.length := by omega
              rw [List.take_of_length_le (Nat.le_refl _)]; rfl
    | succ m ih =>
      intro k hk
      obtain ⟨x, hx, _⟩ := at_lt (l := l) (k := k) (by omega)
      show f k _ _ fin = _
      have hle : (((l.take k).filter p).map g).length ≤ 1099511627776 := by
        rw [List.length_map]
        have := List.length_filter_le p (l.take k)
        rw [List.length_take] at this
        omega
      rw [step k _ x _ hx hle, ← ih (k + 1) (by omega), take_next hx, List.filter_append, List.map_append]
      cases hp : p x <;> simp [List.filter, hp]
  exact key l.length 0 (by omega)
end Go.Proofs.Ytlljmgphgmklcaa.QGath

/- Chapter 8: rates: the plain functions of the program and of the reference agree, and the laws answer true. (Q8Strange) No condition but those of each theorem. -/
namespace Go.Proofs.Ytlljmgphgmklcaa.Q8Strange
set_option linter.unusedVariables false
set_option linter.unusedSimpArgs false
open Go.RowKit
open Go.Proofs.Ytlljmgphgmklcaa.GoP Go.Proofs.Ytlljmgphgmklcaa.PlainStamp Go.Proofs.Ytlljmgphgmklcaa.QBase Go.Proofs.Ytlljmgphgmklcaa.QCount Go.Proofs.Ytlljmgphgmklcaa.QRiseL Go.Proofs.Ytlljmgphgmklcaa.QOrd Go.Proofs.Ytlljmgphgmklcaa.QFold Go.Proofs.Ytlljmgphgmklcaa.Q8For Go.Proofs.Ytlljmgphgmklcaa.Q8List Go.Proofs.Ytlljmgphgmklcaa.Q8Rate Go.Proofs.Ytlljmgphgmklcaa.QGath Go.Proofs.Ytlljmgphgmklcaa.QLoop Go.Proofs.Ytlljmgphgmklcaa.PRate

def dearB (o r : Rate) : Bool := decide (o.zone = r.zone) && decide (o.grams < r.grams) && decide (r.cents < o.cents) && decide (o.from_ ≤ r.until_) && decide (r.from_ ≤ o.until_)
def strB (l : List Rate) (k : Nat) : Bool := match l[k]? with | none => false | some r => l.any (fun o => dearB o r)
def strRes (l : List Rate) : List Int × Bool := if okRs l = true then (((List.range l.length).filter (strB l)).map (fun i : Nat => (i : Int)), true) else ([], false)
theorem str_len (l : List Rate) : (strRes l).1.length ≤ 16 := by
  unfold strRes
  split
  · rename_i h
    have := riseL_len h
    have h2 := List.length_filter_le (strB l) (List.range l.length)
    rw [List.length_range] at h2
    rw [List.length_map]; omega
  · simp
theorem dearer_eq {o r : Rate} (ho : okR o = true) (hr : okR r = true) : GiIsDearer.P o r = some (dearB o r) := by
  have h1 := okR_of ho
  have h2 := okR_of hr
  obtain ⟨a, b, c, d, e⟩ := o
  obtain ⟨a2, b2, c2, d2, e2⟩ := r
  dsimp only at h1 h2
  have hx : decide (max c c2 ≤ min d d2) = (decide (c ≤ d2) && decide (c2 ≤ d)) := by rw [Bool.eq_iff_iff]; simp; omega
  simp only [GiIsDearer.P, unRate, Option.bind_some, letK, joinK, appK, iteK_if, dearB, hx]
  by_cases h3 : a = a2 <;> by_cases h4 : b < b2 <;> by_cases h5 : e2 < e <;> simp [h3, h4, h5]
theorem any_eq {l : List Rate} {r : Rate} (h : okRs l = true) (hr : okR r = true) : GxSlicesContainsFuncLoopExampleG01062ImplRateLoopExampleG01062ImplRateiStrangeRates1.P l r.zone r.grams r.from_ r.until_ r.cents = some (l.any fun o => dearB o r) := by
  simp only [GxSlicesContainsFuncLoopExampleG01062ImplRateLoopExampleG01062ImplRateiStrangeRates1.P, GxSlicesIndexFuncLoopExampleG01062ImplRateLoopExampleG01062ImplRateiStrangeRates1.P]
  rw [find_loop (p := fun o => dearB o r) (yes := fun i => some (i : Int))]
  · have := any_find (fun o => dearB o r) l
    unfold firstI at this
    cases hf : l.findIdx? (fun o => dearB o r) with
    | none => rw [hf] at this; simp only [GxSlicesIndexFuncLoopExampleG01062ImplRateLoopExampleG01062ImplRateiStrangeRates1.e0, Option.bind_some, letK]; rw [← this]
    | some i => rw [hf] at this; simp only [Option.bind_some, letK]; rw [← this]
  · intro k nx x hx
    have hi : idx l (k : Int) = some x := by rw [idx_nat, hx]
    have hok := rs_mem h (List.mem_of_getElem? hx)
    simp only [GxSlicesIndexFuncLoopExampleG01062ImplRateLoopExampleG01062ImplRateiStrangeRates1.l0, hi, Option.bind_some, unRate, GiStrangeRates1.P, dearer_eq hok hr, letK, appK, iteK_if]
theorem str_impl (l : List Rate) (hl : l.length ≤ 9223372036854775807) : GiStrangeRates.P l = some (strRes l) := by
  simp only [GiStrangeRates.P, areRates_eq l hl, Option.bind_some, letK, iteK_if, strRes]
  cases hc : okRs l with
  | false => simp
  | true =>
    have h16 := riseL_len hc
    simp only [Bool.not_true, Bool.false_eq_true, if_false, if_true]
    have := gather (l := List.range l.length) (p := strB l) (g := fun i : Nat => (i : Int)) (f := GiStrangeRates.l0 l) (fin := GiStrangeRates.e0) (by rw [List.length_range]; omega) ?_
    · rw [List.length_range] at this; rw [this]; rfl
    · intro k nx x s hx hs
      obtain ⟨hk, rfl⟩ := List.getElem?_eq_some_iff.1 hx
      rw [List.length_range] at hk
      rw [List.getElem_range]
      obtain ⟨r, hr, hi⟩ := at_lt (l := l) (k := k) hk
      have hok := rs_mem hc (List.mem_of_getElem? hr)
      simp only [GiStrangeRates.l0, letK, hi, Option.bind_some, unRate, any_eq hc hok, appK, iteK_if, strB, hr]
      rw [guardK_pos hs]
      cases l.any (fun o => dearB o r) <;> rfl
theorem rate_rel {l : List Rate} (h : okRs l = true) {i j : Nat} {x y : Rate} (hij : i < j) (hx : l[i]? = some x) (hy : l[j]? = some y) : x.zone < y.zone ∨ x.zone = y.zone ∧ x.grams ≤ y.grams := by
  refine riseL_rel (fun a b : Rate => a.zone < b.zone ∨ a.zone = b.zone ∧ a.grams ≤ b.grams) ?_ ?_ h hij hx hy
  · intro a b _ _ hl
    unfold linkR at hl
    split at hl
    · rename_i h; right; omega
    · simp only [decide_eq_true_eq] at hl; omega
  · intro a b c h1 h2; omega
theorem any_take {l : List Rate} (h : okRs l = true) {k : Nat} {r : Rate} (hr : l[k]? = some r) : (l.take k).any (fun o => dearB o r) = l.any fun o => dearB o r := by
  have e : l.any (fun o => dearB o r) = ((l.take k).any (fun o => dearB o r) || (l.drop k).any (fun o => dearB o r)) := by rw [← List.any_append, List.take_append_drop]
  rw [e]
  have hz : (l.drop k).any (fun o => dearB o r) = false := by
    rw [List.any_eq_false]
    intro o ho
    obtain ⟨j, hj⟩ := List.getElem?_of_mem ho
    rw [List.getElem?_drop] at hj
    by_cases h0 : j = 0
    · subst h0
      rw [Nat.add_zero, hr] at hj
      obtain rfl := Option.some.inj hj
      simp [dearB]
    · have := rate_rel h (i := k) (j := k + j) (by omega) hr hj
      unfold dearB
      simp only [Bool.and_eq_true, decide_eq_true_eq]
      omega
  rw [hz, Bool.or_false]
theorem str_spec {fuel : Nat} (l : List Rate) (hl : l.length ≤ 9223372036854775807) (hf : 17 < fuel) : GsStrangeRates.P fuel l = some (strRes l) := by
  simp only [GsStrangeRates.P, l8Good_eq l hl hf, Option.bind_some, letK, iteK_if, strRes]
  cases hc : okRs l with
  | false => simp
  | true =>
    have h16 := riseL_len hc
    simp only [Bool.not_true, Bool.false_eq_true, if_false, if_true]
    have := gather (l := List.range l.length) (p := strB l) (g := fun i : Nat => (i : Int)) (f := GsStrangeRates.l0 l) (fin := GsStrangeRates.e0) (by rw [List.length_range]; omega) ?_
    · rw [List.length_range] at this; rw [this]; rfl
    · intro k nx x s hx hs
      obtain ⟨hk, rfl⟩ := List.getElem?_eq_some_iff.1 hx
      rw [List.length_range] at hk
      rw [List.getElem_range]
      obtain ⟨r, hr, hi⟩ := at_lt (l := l) (k := k) hk
      simp only [GsStrangeRates.l0, letK]
      rw [guardK_pos (by omega)]
      have inner : cntK (GsStrangeRates.l1 l k) (l.take k).length 0 false (GsStrangeRates.e1 nx s k) = GsStrangeRates.e1 nx s k ((l.take k).foldl (fun b o => b || dearB o r) false) := by
        refine fold_loop (g := fun b o => b || dearB o r) false ?_
        intro k1 nx1 o b ho
        have hk1 : k1 < (l.take k).length := (List.getElem?_eq_some_iff.1 ho).1
        rw [List.length_take] at hk1
        rw [List.getElem?_take_of_lt (by omega)] at ho
        have hi1 : idx l (k1 : Int) = some o := by rw [idx_nat, ho]
        simp only [GsStrangeRates.l1, letK, hi1, hi, Option.bind_some, unRate, joinK, appK, iteK_if, dearB]
        cases b
        · by_cases h1 : o.zone = r.zone <;> by_cases h2 : o.grams < r.grams <;> by_cases h3 : o.from_ ≤ r.until_ <;> by_cases h4 : r.from_ ≤ o.until_ <;> by_cases h5 : r.cents < o.cents <;> simp [h1, h2, h3, h4, h5]
        · simp
      rw [List.length_take, Nat.min_eq_left (by omega)] at inner
      rw [inner]
      have hfold : ∀ (m : List Rate) (b : Bool), m.foldl (fun b o => b || dearB o r) b = (b || m.any fun o => dearB o r) := by
        intro m
        induction m with
        | nil => intro b; simp
        | cons o m ih => intro b; rw [List.foldl_cons, ih, List.any_cons, Bool.or_assoc]
      rw [hfold, Bool.false_or, any_take hc hr]
      simp only [GsStrangeRates.e1, letK, appK, iteK_if, strB, hr]
      rw [guardK_pos hs]
      cases l.any (fun o => dearB o r) <;> rfl
end Go.Proofs.Ytlljmgphgmklcaa.Q8Strange

/- The named law of raises: what it draws, a raised rate on its day and the day before, and the law answers true. (QL8FnRaises) No condition but those of each theorem. -/
namespace Go.Proofs.Ytlljmgphgmklcaa.QL8FnRaises
set_option linter.unusedVariables false
set_option linter.unusedSimpArgs false
open Go.RowKit
open Go.Proofs.Ytlljmgphgmklcaa.GoP Go.Proofs.Ytlljmgphgmklcaa.PlainStamp Go.Proofs.Ytlljmgphgmklcaa.QBase Go.Proofs.Ytlljmgphgmklcaa.Q8DrawsR Go.Proofs.Ytlljmgphgmklcaa.Q8RaiseHelp Go.Proofs.Ytlljmgphgmklcaa.Q8Strange Go.Proofs.Ytlljmgphgmklcaa.Q8Raise Go.Proofs.Ytlljmgphgmklcaa.Q8Cheap Go.Proofs.Ytlljmgphgmklcaa.Q8Heavy Go.Proofs.Ytlljmgphgmklcaa.Q8RateFor Go.Proofs.Ytlljmgphgmklcaa.QCount Go.Proofs.Ytlljmgphgmklcaa.QDraw Go.Proofs.Ytlljmgphgmklcaa.QUp Go.Proofs.Ytlljmgphgmklcaa.QAll Go.Proofs.Ytlljmgphgmklcaa.QFold Go.Proofs.Ytlljmgphgmklcaa.QRiseL Go.Proofs.Ytlljmgphgmklcaa.QOrd Go.Proofs.Ytlljmgphgmklcaa.Q8For Go.Proofs.Ytlljmgphgmklcaa.Q8List Go.Proofs.Ytlljmgphgmklcaa.Q8Rate Go.Proofs.Ytlljmgphgmklcaa.QLoop Go.Proofs.Ytlljmgphgmklcaa.PRate

theorem e0_yes {tapes : List Int → GoC.Tape} (ht : GoC.Tells tapes) (code : List Int) (fuel : Nat) (hf : 1048577 ≤ fuel) (s : Int) : GlFnRaises.e0 code fuel tapes s = some true := by
  obtain ⟨l, e, hl⟩ := drawStrange_ok ht code fuel hf
  obtain ⟨l2, d, z, c, e2, hl2⟩ := drawHeavy_ok ht code fuel hf
  obtain ⟨⟨a, b⟩, hr⟩ : ∃ x, strRes l = x := ⟨_, rfl⟩
  obtain ⟨⟨g, b2⟩, hr2⟩ : ∃ x, heavyRes l2 d z c = x := ⟨_, rfl⟩
  have s1 := str_impl l (by omega)
  have s2 := str_spec (fuel := fuel) l (by omega) (by omega)
  have s3 := heavy_impl l2 d z c (by omega)
  have s4 := heavy_spec (fuel := fuel) l2 d z c (by omega) (by omega)
  rw [hr] at s1 s2
  rw [hr2] at s3 s4
  cases b2 with
  | false => simp [GlFnRaises.e0, letK, e, e2, s1, s2, s3, s4, bind2, bind4, vInts_self, joinK, appK, iteK_if]
  | true =>
    obtain ⟨n, h1, h2⟩ := heavy_true hr2
    have s5 := for_impl l2 d z g (by omega)
    rw [h1] at s5
    simp [GlFnRaises.e0, letK, e, e2, s1, s2, s3, s4, s5, bind2, bind4, vInts_self, joinK, appK, iteK_if, h2]
theorem j0_yes {tapes : List Int → GoC.Tape} (ht : GoC.Tells tapes) (code : List Int) (fuel : Nat) (hf : 1048577 ≤ fuel) : GlFnRaises.j0 code fuel tapes () = some true := by
  obtain ⟨l, d, g, e, hl⟩ := drawCheap_ok ht code fuel hf
  have s1 := cheap_impl l d g (by omega)
  have s2 := cheap_spec (fuel := fuel) l d g (by omega) (by omega)
  have he0 := e0_yes ht code fuel hf
  obtain ⟨⟨a, b⟩, hr⟩ : ∃ x, cheapRes l d g = x := ⟨_, rfl⟩
  have loop : loopK (GlFnRaises.l0 l d g a) fuel 1 (GlFnRaises.e0 code fuel tapes) = some true := by
    have hlen := cheap_len l d g
    rw [hr] at hlen
    dsimp only at hlen
    refine lp_is (n := a.length - 1) true (fun k (s : Int) => s = ((k + 1 : Nat) : Int)) ?_ ?_ fuel 0 _ (by omega) (by omega) (by simp)
    · rintro k s nx hk rfl hn
      unfold cheapRes at hr
      split at hr
      · rename_i hc
        simp only [Prod.mk.injEq] at hr
        have hc2 := hc
        simp only [Bool.and_eq_true] at hc2
        obtain ⟨call, cpos⟩ := cheap_all hc2.1.1 d g 10
        rw [hr.1] at call cpos
        have hne : a ≠ [] := by intro e; rw [e] at hk; simp at hk
        have hp := cpos hne
        have hone : ∀ z ∈ a, GiRateFor.P l d z g = some ((cheap l d g 10).2, true) := by
          intro z hz
          obtain ⟨h1, h2, h3⟩ := call z hz
          have hz9 : inB z 0 9 = true := by unfold inB; simp; omega
          rw [for_impl l d z g (by omega)]
          unfold forRes
          rw [hc2.1.1, hc2.1.2, hz9, hc2.2, h1, if_pos (show (true && true && true && true) = true from rfl), decide_eq_true hp]
        obtain ⟨z1, hz1, hi1⟩ := at_lt (l := a) (k := k) (by omega)
        obtain ⟨z2, hz2, hi2⟩ := at_lt (l := a) (k := k + 1) (by omega)
        have hlt : (((k + 1 : Nat) : Int) < (a.length : Int)) := by omega
        have hw1 : IntKind.i64.wrap (((k + 1 : Nat) : Int) - 1) = (k : Int) := by rw [wrap_in (by omega) (by omega)]; omega
        have hw2 : IntKind.i64.wrap (((k + 1 : Nat) : Int) + 1) = ((k + 1 + 1 : Nat) : Int) := by rw [wrap_in (by omega) (by omega)]; omega
        simp only [GlFnRaises.l0, letK, decide_eq_true hlt, iteK_if, if_true, hw1, hi1, hi2, Option.bind_some, hone z1 (List.mem_of_getElem? hz1), hone z2 (List.mem_of_getElem? hz2), bind2_some, joinK, appK, hw2, Bool.not_true, Bool.false_eq_true, if_false, bne_self_eq_false]
        exact hn _ rfl
      · simp only [Prod.mk.injEq] at hr
        rw [← hr.1] at hk; simp at hk
    · rintro s nx rfl
      have hlt : ¬ (((a.length - 1 + 1 : Nat) : Int) < (a.length : Int)) := by omega
      simp only [GlFnRaises.l0, letK, decide_eq_false hlt, iteK_if, Bool.false_eq_true, if_false, appK, he0]
  rw [hr] at s1 s2
  simp [GlFnRaises.j0, e, bind3, s1, s2, bind2, vInts_self, letK, joinK, appK, iteK_if, loop]
theorem law_raises {tapes : List Int → GoC.Tape} (ht : GoC.Tells tapes) (code : List Int) {fuel : Nat} (hf : 1048577 ≤ fuel) : GlFnRaises.P fuel tapes code = some true := by
  obtain ⟨l, z, g, d, c, e, hl⟩ := drawRaise_ok ht code fuel hf
  have hj := j0_yes ht code fuel hf
  have s1 := raise_impl l z g d c (by omega)
  have s2 := raise_spec (fuel := fuel) l z g d c (by omega) (by omega)
  simp only [GlFnRaises.P, GlVBig.P, Option.bind_some, letK, iteK_if]
  by_cases hbig : (65536 : Int) < (code.length : Int)
  · simp [hbig]
  · have hb0 : decide ((65536 : Int) < (code.length : Int)) = false := decide_eq_false hbig
    obtain ⟨⟨out, b⟩, hr⟩ : ∃ x, raiseRes l z g d c = x := ⟨_, rfl⟩
    rw [hr] at s1 s2
    cases b with
    | false => simp [hb0, e, bind5, s1, s2, bind2, vRates_self, joinK, appK, hj]
    | true =>
      obtain ⟨k1, k2, k3, k4, k5, k6, n, k7, k8⟩ := raise_true hr
      have w1 : IntKind.i64.wrap (d - 1) = d - 1 := wrap_in (by omega) (by omega)
      have w2 : IntKind.i64.wrap ((l.length : Int) + 1) = (l.length : Int) + 1 := wrap_in (by omega) (by omega)
      have f1 := for_impl out d z g (by omega)
      have f2 := for_impl out (d - 1) z g (by omega)
      have f3 := for_impl l (d - 1) z g (by omega)
      rw [k6] at f1; rw [k7] at f2; rw [k8] at f3
      have a1 := areRates_eq out (by omega)
      have w3 : ((out.length : Int) != (l.length : Int) + 1) = false := by simp; omega
      simp [hb0, e, bind5, s1, s2, bind2, vRates_self, joinK, appK, w1, w2, f1, f2, f3, a1, k1, w3, hj]
end Go.Proofs.Ytlljmgphgmklcaa.QL8FnRaises

