/- Texts on which the proofs of several laws stand, one behind the other (13 of 13). No condition of their own. -/
import Derived.Test.YtlljmgphgmklcaaV10P12
import Derived.Test.YtlljmgphgmklcaaV10P10
import Derived.Test.YtlljmgphgmklcaaV10P11
import Derived.Test.YtlljmgphgmklcaaV10P9
import Derived.Test.YtlljmgphgmklcaaV10P1
import Derived.Test.YtlljmgphgmklcaaV10P5
import Derived.Test.YtlljmgphgmklcaaV10P7
import Derived.Test.YtlljmgphgmklcaaV10P4
import Derived.Test.YtlljmgphgmklcaaV10P8
import Derived.Test.YtlljmgphgmklcaaV10P2
/- Chapter 10: covers: the plain functions of the program and of the reference agree, and the laws answer true. (Q10Route) No condition but those of each theorem. -/
namespace Go.Proofs.Ytlljmgphgmklcaa.Q10Route
set_option linter.unusedVariables false
set_option linter.unusedSimpArgs false
open Go.RowKit
open Go.Proofs.Ytlljmgphgmklcaa.GoP Go.Proofs.Ytlljmgphgmklcaa.PlainStamp Go.Proofs.Ytlljmgphgmklcaa.QBase Go.Proofs.Ytlljmgphgmklcaa.Q10Fault Go.Proofs.Ytlljmgphgmklcaa.Q10Cover Go.Proofs.Ytlljmgphgmklcaa.Q9Best Go.Proofs.Ytlljmgphgmklcaa.Q9At Go.Proofs.Ytlljmgphgmklcaa.Q9Early Go.Proofs.Ytlljmgphgmklcaa.Q9Dual Go.Proofs.Ytlljmgphgmklcaa.Q9Arr Go.Proofs.Ytlljmgphgmklcaa.Q9List Go.Proofs.Ytlljmgphgmklcaa.Q9End Go.Proofs.Ytlljmgphgmklcaa.Q9Mail Go.Proofs.Ytlljmgphgmklcaa.QLoop Go.Proofs.Ytlljmgphgmklcaa.PCover Go.Proofs.Ytlljmgphgmklcaa.PMail Go.Proofs.Ytlljmgphgmklcaa.PIntA10

theorem end_impl {ms : List Mail} {x : Cover} (hm : goodM ms = true) (hx : okC x = true) : GiEarliestEnd.P ms x = some (endV ms x) := by
  have hc := okC_of hx
  obtain ⟨a, b, c, d, e, f, g, h, i⟩ := x
  dsimp only at hc
  simp only [GiEarliestEnd.P, unCover, earliest_eq hm hc.2.2.2.1, Option.bind_some, un_eq, letK, ten (early_len ms f h), idx_at (early_len ms f h) hc.2.2.2.2.1, endV]
theorem at_cover {ms : List Mail} {x : Cover} (hm : goodM ms = true) (hx : okC x = true) : atRes ms x.from_ x.leave x.to_ = if endV ms x = 10000 then (0, false) else (endV ms x, true) := by
  have hc := okC_of hx
  have h1 : inB x.from_ 0 9 = true := by unfold inB; simp; omega
  have h2 : inB x.leave 0 9999 = true := by unfold inB; simp; omega
  have h3 : inB x.to_ 0 9 = true := by unfold inB; simp; omega
  unfold atRes
  simp only [askM, hm, h1, h2, h3, Bool.and_self, true_and]
  unfold endV
  by_cases he : at_ (earlyM ms x.from_ x.leave) x.to_ = 10000
  · rw [if_pos he, if_neg (fun h => h he)]
  · rw [if_neg he, if_pos he]
theorem route_l10 {fuel : Nat} {ms : List Mail} (hl : ms.length ≤ 9223372036854775807) {x : Cover} (hm : goodM ms = true) (hx : okC x = true) (hf : 10000 < fuel) :
    ∃ r ok, GsL10Route.P fuel ms x = some (r, ok) ∧ r.length ≤ 10000 ∧ ok = decide (endV ms x ≤ x.arrive) ∧ (ok = true → GiBestRoute.P fuel ms x.from_ x.leave x.to_ = some (r, true) ∧ endF ms r x.from_ x.leave = some (x.to_, endV ms x)) ∧ (ok = false → r = []) := by
  have hc := okC_of hx
  have ha := at_cover hm hx
  obtain ⟨r, ok, b1, b2, b3, b4, b5⟩ := best_both (fuel := fuel) ms hl x.from_ x.leave x.to_ hf
  have e1 := at_spec ms hl x.from_ x.leave x.to_
  obtain ⟨a, b, c, d, e, f, g, h, i⟩ := x
  dsimp only at hc ha b1 b2 b4 b5 e1 ⊢
  simp only [GsL10Route.P, unCover, e1, ha, letK, joinK, appK, iteK_if]
  by_cases he : endV ms ⟨a, b, c, d, e, f, g, h, i⟩ = 10000
  · have h9 : ¬ endV ms ⟨a, b, c, d, e, f, g, h, i⟩ ≤ i := by omega
    exact ⟨[], false, by simp [he, bind2], by simp, by simp [h9], by simp, by simp⟩
  · rw [if_neg he]
    simp only [bind2_some, Bool.not_true, Bool.false_eq_true, if_false]
    by_cases hi : i < endV ms ⟨a, b, c, d, e, f, g, h, i⟩
    · have h9 : ¬ endV ms ⟨a, b, c, d, e, f, g, h, i⟩ ≤ i := by omega
      exact ⟨[], false, by simp [hi], by simp, by simp [h9], by simp, by simp⟩
    · have h9 : endV ms ⟨a, b, c, d, e, f, g, h, i⟩ ≤ i := by omega
      rw [ha, if_neg he] at b4 b5
      dsimp only at b4 b5
      subst b4
      exact ⟨r, true, by simp [hi, b2, bind2], b3, by simp [h9], fun _ => ⟨b1, b5 rfl⟩, by simp⟩
theorem route_both {fuel : Nat} {ms : List Mail} (hl : ms.length ≤ 9223372036854775807) (x : Cover) (hf : 10000 < fuel) :
    ∃ r ok, GiRouteOn.P fuel ms x = some (r, ok) ∧ GsRouteOn.P fuel ms x = some (r, ok) ∧ r.length ≤ 10000 ∧ ok = (goodM ms && okC x && decide (endV ms x ≤ x.arrive)) ∧ (ok = true → endF ms r x.from_ x.leave = some (x.to_, endV ms x)) ∧ (ok = false → r = []) := by
  have e1 := isCover_eq x
  have e2 := l10One_eq x
  have e3 := fun h1 h2 => end_impl (ms := ms) (x := x) h1 h2
  have e4 := fun h1 h2 => route_l10 (fuel := fuel) (ms := ms) hl (x := x) h1 h2 hf
  obtain ⟨a, b, c, d, e, f, g, h, i⟩ := x
  dsimp only at e4 ⊢
  simp only [GiRouteOn.P, GsRouteOn.P, unCover, isTime_eq ms hl, l9Good_eq ms hl, e1, e2, Option.bind_some, letK, joinK, appK, iteK_if]
  cases hm : goodM ms with
  | false => exact ⟨[], false, by simp, by simp, by simp, by simp, by simp, by simp⟩
  | true =>
    cases hc : okC ⟨a, b, c, d, e, f, g, h, i⟩ with
    | false => exact ⟨[], false, by simp, by simp, by simp, by simp, by simp, by simp⟩
    | true =>
      obtain ⟨r, ok, r1, r2, r3, r4, r5⟩ := e4 hm hc
      simp only [Bool.not_true, Bool.false_eq_true, if_false, e3 hm hc, r1, Option.bind_some, bind2_some]
      by_cases hi : i < endV ms ⟨a, b, c, d, e, f, g, h, i⟩
      · have h9 : ¬ endV ms ⟨a, b, c, d, e, f, g, h, i⟩ ≤ i := by omega
        have hok : ok = false := by rw [r3]; simp [h9]
        subst hok
        rw [r5 rfl]
        exact ⟨[], false, by simp [hi], rfl, by simp, by simp [h9], by simp, by simp⟩
      · have h9 : endV ms ⟨a, b, c, d, e, f, g, h, i⟩ ≤ i := by omega
        have hok : ok = true := by rw [r3]; simp [h9]
        subst hok
        obtain ⟨q1, q2⟩ := r4 rfl
        exact ⟨r, true, by simp [hi, q1, bind2], rfl, r2, by simp [h9], fun _ => q2, by simp⟩
end Go.Proofs.Ytlljmgphgmklcaa.Q10Route

/- Loops that count, that search, and that gather behind what is there already: the plain loops' answers. (QCount) No condition but those of each theorem. -/
namespace Go.Proofs.Ytlljmgphgmklcaa.QCount
set_option linter.unusedVariables false
set_option linter.unusedSimpArgs false
open Go.RowKit
open Go.Proofs.Ytlljmgphgmklcaa.GoP Go.Proofs.Ytlljmgphgmklcaa.PlainStamp Go.Proofs.Ytlljmgphgmklcaa.QBase Go.Proofs.Ytlljmgphgmklcaa.QLoop

theorem count_list {α R : Type} {l : List α} {p : α → Bool} {f : Nat → Int → (Int → Option R) → (Int → Option R) → Option R} {fin : Int → Option R}
    (step : ∀ k nx x (s : Nat), l[k]? = some x → s ≤ k → f k (s : Int) nx fin = nx ((if p x = true then s + 1 else s : Nat) : Int)) : cntK f l.length 0 0 fin = fin ((l.filter p).length : Int) := by
  have key : ∀ m k, k + m = l.length → cntK f m k (((l.take k).filter p).length : Int) fin = fin ((l.filter p).length : Int) := by
    intro m
    induction m with
    | zero => intro k hk; obtain rfl : k = l.length := by omega
              rw [List.take_of_length_le (Nat.le_refl _)]; rfl
    | succ m ih =>
      intro k hk
      obtain ⟨x, hx, _⟩ := at_lt (l := l) (k := k) (by omega)
      show f k _ _ fin = _
      have hle : ((l.take k).filter p).length ≤ k := by
        have := List.length_filter_le p (l.take k)
        rw [List.length_take] at this
        omega
      rw [step k _ x _ hx hle, ← ih (k + 1) (by omega), take_next hx, List.filter_append, List.length_append]
      cases hp : p x <;> simp [List.filter, hp]
  exact key l.length 0 (by omega)
theorem count_up {R : Type} {n : Nat} {p : Nat → Bool} {f : Nat → Int → (Int → Option R) → (Int → Option R) → Option R} {fin : Int → Option R}
    (step : ∀ k nx (s : Nat), k < n → s ≤ k → f k (s : Int) nx fin = nx ((if p k = true then s + 1 else s : Nat) : Int)) : cntK f n 0 0 fin = fin (((List.range n).filter p).length : Int) := by
  have h := count_list (l := List.range n) (p := p) (f := f) (fin := fin) (fun k nx x s hx hs => by
    obtain ⟨hk, rfl⟩ := List.getElem?_eq_some_iff.1 hx
    rw [List.length_range] at hk
    rw [List.getElem_range]
    exact step k nx s hk hs)
  rw [List.length_range] at h
  exact h
theorem filter_zero {α : Type} (l : List α) (p : α → Bool) : (((l.filter p).length : Int) == 0) = !(l.any p) := by
  rw [Bool.eq_iff_iff]
  simp only [beq_iff_eq, Bool.not_eq_true', List.any_eq_false]
  constructor
  · intro h x hx hp
    have : x ∈ l.filter p := List.mem_filter.2 ⟨hx, hp⟩
    have := List.length_pos_of_mem this
    omega
  · intro h
    have : l.filter p = [] := List.filter_eq_nil_iff.2 h
    rw [this]; rfl
/-- the first place at which the test holds -/
def firstI {α : Type} (p : α → Bool) (l : List α) : Int := match l.findIdx? p with | some i => (i : Int) | none => -1
theorem find_loop {α R : Type} {l : List α} {p : α → Bool} {f : Nat → Unit → (Unit → Option R) → (Unit → Option R) → Option R} {fin : Unit → Option R} {yes : Nat → Option R}
    (step : ∀ k nx x, l[k]? = some x → f k () nx fin = if p x = true then yes k else nx ()) : cntK f l.length 0 () fin = match l.findIdx? p with | some i => yes i | none => fin () := by
  have key : ∀ m k, k + m = l.length → (∀ i x, i < k → l[i]? = some x → p x = false) → cntK f m k () fin = match l.findIdx? p with | some i => yes i | none => fin () := by
    intro m
    induction m with
    | zero =>
      intro k hk hu; obtain rfl : k = l.length := by omega
      have : l.findIdx? p = none := by
        rw [List.findIdx?_eq_none_iff]
        intro x hx
        obtain ⟨i, hi⟩ := List.getElem?_of_mem hx
        exact hu i x (List.getElem?_eq_some_iff.1 hi).1 hi
      rw [this]; rfl
    | succ m ih =>
      intro k hk hu
      obtain ⟨x, hx, _⟩ := at_lt (l := l) (k := k) (by omega)
      show f k () _ fin = _
      rw [step k _ x hx]
      cases hp : p x with
      | true =>
        have : l.findIdx? p = some k := by
          rw [List.findIdx?_eq_some_iff_getElem]
          obtain ⟨hlt, e⟩ := List.getElem?_eq_some_iff.1 hx
          refine ⟨hlt, by rw [e]; exact hp, fun j hj => ?_⟩
          rw [hu j l[j] hj (List.getElem?_eq_getElem (by omega))]; simp
        rw [this, if_pos rfl]
      | false =>
        rw [if_neg (by simp)]
        refine ih (k + 1) (by omega) (fun i y hi hy => ?_)
        by_cases he : i = k
        · subst he; rw [hx] at hy; obtain rfl := Option.some.inj hy; exact hp
        · exact hu i y (by omega) hy
  exact key l.length 0 (by omega) (fun i x hi _ => by omega)
theorem any_find {α : Type} (p : α → Bool) (l : List α) : decide (0 ≤ firstI p l) = l.any p := by
  unfold firstI
  cases h : l.findIdx? p with
  | none =>
    rw [List.findIdx?_eq_none_iff] at h
    have : l.any p = false := by rw [List.any_eq_false]; intro x hx; rw [h x hx]; simp
    rw [this]; rfl
  | some i =>
    rw [List.findIdx?_eq_some_iff_getElem] at h
    obtain ⟨hi, hp, _⟩ := h
    have : l.any p = true := List.any_eq_true.2 ⟨l[i], List.getElem_mem hi, hp⟩
    rw [this]; simp
theorem gatherA {α β R : Type} {l : List α} {p : α → Bool} {g : α → β} {acc : List β} {f : Nat → List β → (List β → Option R) → (List β → Option R) → Option R} {fin : List β → Option R} (hl : acc.length + l.length ≤ 1099511627776)
    (step : ∀ k nx x s, l[k]? = some x → s.length ≤ 1099511627776 → f k s nx fin = nx (if p x = true then s ++ [g x] else s)) : cntK f l.length 0 acc fin = fin (acc ++ (l.filter p).map g) := by
  have key : ∀ m k, k + m = l.length → cntK f m k (acc ++ ((l.take k).filter p).map g) fin = fin (acc ++ (l.filter p).map g) := by
    intro m
    induction m with
    | zero => intro k hk; obtain rfl : k = l.length := by omega
              rw [List.take_of_length_le (Nat.le_refl _)]; rfl
    | succ m ih =>
      intro k hk
      obtain ⟨x, hx, _⟩ := at_lt (l := l) (k := k) (by omega)
      show f k _ _ fin = _
      have hle : (acc ++ ((l.take k).filter p).map g).length ≤ 1099511627776 := by
        rw [List.length_append, List.length_map]
        have := List.length_filter_le p (l.take k)
        rw [List.length_take] at this
        omega
      rw [step k _ x _ hx hle, ← ih (k + 1) (by omega), take_next hx, List.filter_append, List.map_append]
      cases hp : p x <;> simp [List.filter, hp]
  have h0 := key l.length 0 (by omega)
  simpa using h0
/-- a loop with fuel over what stands from k on -/
theorem gatherL {α β R : Type} {l : List α} {p : α → Bool} {g : α → β} {f : List β × Int → (List β × Int → Option R) → (List β × Int → Option R) → Option R} {fin : List β × Int → Option R}
    (step : ∀ (k : Nat) nx x s, l[k]? = some x → s.length ≤ 1099511627776 → f (s, (k : Int)) nx fin = nx (if p x = true then s ++ [g x] else s, ((k + 1 : Nat) : Int)))
    (stop : ∀ s nx, f (s, (l.length : Int)) nx fin = fin (s, (l.length : Int))) : ∀ (fuel k : Nat) (acc : List β), k ≤ l.length → l.length - k < fuel → acc.length + l.length ≤ 1099511627776 + k → loopK f fuel (acc, (k : Int)) fin = fin (acc ++ ((l.drop k).filter p).map g, (l.length : Int)) := by
  intro fuel
  induction fuel with
  | zero => intro k acc hk hf; omega
  | succ m ih =>
    intro k acc hk hf ha
    show f (acc, (k : Int)) _ fin = _
    by_cases he : k = l.length
    · subst he; rw [stop, List.drop_of_length_le (Nat.le_refl _)]; simp
    · obtain ⟨x, hx, _⟩ := at_lt (l := l) (k := k) (by omega)
      rw [step k _ x acc hx (by omega), ih (k + 1) _ (by omega) (by omega) (by
        split
        · rw [List.length_append, List.length_singleton]; omega
        · omega)]
      obtain ⟨hlt, e⟩ := List.getElem?_eq_some_iff.1 hx
      rw [List.drop_eq_getElem_cons hlt, e]
      cases hp : p x <;> simp [List.filter, hp]
end Go.Proofs.Ytlljmgphgmklcaa.QCount

/- A loop that gathers what a test lets through: the plain loop's answer. (QGath) No condition but those of each theorem. -/
namespace Go.Proofs.Ytlljmgphgmklcaa.QGath
set_option linter.unusedVariables false
open Go.RowKit
open Go.Proofs.Ytlljmgphgmklcaa.GoP Go.Proofs.Ytlljmgphgmklcaa.QBase Go.Proofs.Ytlljmgphgmklcaa.QLoop

theorem gather {α β R : Type} {l : List α} {p : α → Bool} {g : α → β} {f : Nat → List β → (List β → Option R) → (List β → Option R) → Option R} {fin : List β → Option R} (hl : l.length ≤ 1099511627776)
    (step : ∀ k nx x s, l[k]? = some x → s.length ≤ 1099511627776 → f k s nx fin = nx (if p x then s ++ [g x] else s)) : cntK f l.length 0 [] fin = fin ((l.filter p).map g) := by
  have key : ∀ m k, k + m = l.length → cntK f m k (((l.take k).filter p).map g) fin = fin ((l.filter p).map g) := by
    intro m
    induction m with
    | zero => intro k hk; obtain rfl : k = l.length := by omega
              rw [List.take_of_length_le (Nat.le_refl _)]; rfl
    | succ m ih =>
      intro k hk
      obtain ⟨x, hx, _⟩ := at_lt (l := l) (k := k) (by omega)
      show f k _ _ fin = _
      have hle : (((l.take k).filter p).map g).length ≤ 1099511627776 := by
        rw [List.length_map]
        have := List.length_filter_le p (l.take k)
        rw [List.length_take] at this
        omega
      rw [step k _ x _ hx hle, ← ih (k + 1) (by omega), take_next hx, List.filter_append, List.map_append]
      cases hp : p x <;> simp [List.filter, hp]
  exact key l.length 0 (by omega)
end Go.Proofs.Ytlljmgphgmklcaa.QGath

/- Chapter 10: covers: the plain functions of the program and of the reference agree, and the laws answer true. (Q10Via) No condition but those of each theorem. -/
namespace Go.Proofs.Ytlljmgphgmklcaa.Q10Via
set_option linter.unusedVariables false
set_option linter.unusedSimpArgs false
open Go.RowKit
open Go.Proofs.Ytlljmgphgmklcaa.GoP Go.Proofs.Ytlljmgphgmklcaa.PlainStamp Go.Proofs.Ytlljmgphgmklcaa.QBase Go.Proofs.Ytlljmgphgmklcaa.Q10Route Go.Proofs.Ytlljmgphgmklcaa.Q10Cover Go.Proofs.Ytlljmgphgmklcaa.Q9List Go.Proofs.Ytlljmgphgmklcaa.Q9End Go.Proofs.Ytlljmgphgmklcaa.Q9Mail Go.Proofs.Ytlljmgphgmklcaa.QCount Go.Proofs.Ytlljmgphgmklcaa.QGath Go.Proofs.Ytlljmgphgmklcaa.QLoop Go.Proofs.Ytlljmgphgmklcaa.PCover Go.Proofs.Ytlljmgphgmklcaa.PMail

def viaR (ms : List Mail) (office : Int) (i : Int) : Bool := match ms[i.toNat]? with | none => false | some y => decide (y.to_ = office)
theorem endF_in {l : List Mail} : ∀ {r : List Int} {o m : Int} {e : Int × Int}, endF l r o m = some e → ∀ i ∈ r, 0 ≤ i ∧ i.toNat < l.length := by
  intro r
  induction r with
  | nil => intro o m e _ i hi; cases hi
  | cons j r ih =>
    intro o m e h i hi
    simp only [endF] at h
    by_cases h0 : 0 ≤ j
    · rw [if_pos h0] at h
      cases hx : l[j.toNat]? with
      | none => rw [hx] at h; simp at h
      | some x =>
        rw [hx] at h
        dsimp only at h
        by_cases hc : x.from_ = o ∧ m ≤ x.leave
        · rw [if_pos hc] at h
          rcases List.mem_cons.1 hi with rfl | hi
          · exact ⟨h0, (List.getElem?_eq_some_iff.1 hx).1⟩
          · exact ih h i hi
        · rw [if_neg hc] at h; simp at h
    · rw [if_neg h0] at h; simp at h
theorem contains_eq {ms : List Mail} {office : Int} {r : List Int} (hr : ∀ i ∈ r, 0 ≤ i ∧ i.toNat < ms.length) : GxSlicesContainsFuncIntIntiCoversVia1.P r ms office = some (r.any (viaR ms office)) := by
  simp only [GxSlicesContainsFuncIntIntiCoversVia1.P, GxSlicesIndexFuncIntIntiCoversVia1.P]
  rw [find_loop (p := viaR ms office) (yes := fun i => some (i : Int))]
  · have := any_find (viaR ms office) r
    unfold firstI at this
    cases hf : r.findIdx? (viaR ms office) with
    | none => rw [hf] at this; simp only [GxSlicesIndexFuncIntIntiCoversVia1.e0, Option.bind_some, letK]; rw [← this]
    | some i => rw [hf] at this; simp only [Option.bind_some, letK]; rw [← this]
  · intro k nx x hx
    have hi : idx r (k : Int) = some x := by rw [idx_nat, hx]
    obtain ⟨h0, h1⟩ := hr x (List.mem_of_getElem? hx)
    have hy : ms[x.toNat]? = some ms[x.toNat] := List.getElem?_eq_getElem h1
    have hj : idx ms x = some ms[x.toNat] := by unfold idx; rw [if_pos h0, hy]
    simp only [GxSlicesIndexFuncIntIntiCoversVia1.l0, hi, Option.bind_some, GiCoversVia1.P, hj, unMail, letK, appK, iteK_if, viaR, hy]
    by_cases hq : ms[x.toNat].to_ = office <;> simp [hq]
theorem spec_any {ms : List Mail} {office : Int} {r : List Int} {R : Type} {fin : Bool → Option R} {f : Nat → Bool → (Bool → Option R) → (Bool → Option R) → Option R} (hr : ∀ i ∈ r, 0 ≤ i ∧ i.toNat < ms.length)
    (hf : ∀ k s nx i y, r[k]? = some i → ms[i.toNat]? = some y → 0 ≤ i → f k s nx fin = nx (s || decide (y.to_ = office))) : cntK f r.length 0 false fin = fin (r.any (viaR ms office)) := by
  cases hv : fin (r.any (viaR ms office)) with
  | none =>
    have key : ∀ m k s, k + m = r.length → s = (r.take k).any (viaR ms office) → cntK f m k s fin = none := by
      intro m
      induction m with
      | zero => intro k s hk hs; show fin s = none; rw [hs, List.take_of_length_le (by omega)]; exact hv
      | succ m ih =>
        intro k s hk hs
        obtain ⟨i, hi, _⟩ := at_lt (l := r) (k := k) (by omega)
        obtain ⟨h0, h1⟩ := hr i (List.mem_of_getElem? hi)
        have hy : ms[i.toNat]? = some ms[i.toNat] := List.getElem?_eq_getElem h1
        show f k s _ fin = none
        rw [hf k s _ i _ hi hy h0]
        refine ih (k + 1) _ (by omega) ?_
        rw [hs, take_next hi, List.any_append]
        simp [viaR, hy]
    exact key r.length 0 false (by omega) (by simp)
  | some v =>
    refine cnt_is v (fun k s => s = (r.take k).any (viaR ms office)) ?_ ?_ _ (by simp)
    · intro k s nx hk hs hn
      obtain ⟨i, hi, _⟩ := at_lt (l := r) (k := k) hk
      obtain ⟨h0, h1⟩ := hr i (List.mem_of_getElem? hi)
      have hy : ms[i.toNat]? = some ms[i.toNat] := List.getElem?_eq_getElem h1
      rw [hf k s _ i _ hi hy h0]
      refine hn _ ?_
      rw [hs, take_next hi, List.any_append]
      simp [viaR, hy]
    · intro s hs
      rw [hs, List.take_length]; exact hv
theorem via_spec_one {fuel : Nat} {ms : List Mail} {office : Int} (hl : ms.length ≤ 9223372036854775807) {x : Cover} (hm : goodM ms = true) (hx : okC x = true) (hf : 10000 < fuel) :
    ∃ r ok, GsL10Route.P fuel ms x = some (r, ok) ∧ GiRouteOn.P fuel ms x = some (r, ok) ∧ (∀ i ∈ r, 0 ≤ i ∧ i.toNat < ms.length) := by
  obtain ⟨r, ok, r1, r2, r3, r4, r5⟩ := route_l10 (fuel := fuel) hl hm hx hf
  obtain ⟨r', ok', s1, s2, s3, s4, s5, s6⟩ := route_both (fuel := fuel) hl x hf
  have hok : ok' = ok := by rw [r3, s4, hm, hx]; rfl
  subst hok
  cases ok' with
  | false => rw [r5 rfl] at r1; rw [s6 rfl] at s1; exact ⟨[], false, r1, s1, by simp⟩
  | true =>
    obtain ⟨q1, q2⟩ := r4 rfl
    refine ⟨r, true, r1, ?_, endF_in q2⟩
    have e1 := l10One_eq x
    have : GsRouteOn.P fuel ms x = some (r, true) := by
      obtain ⟨a, b, c, d, e, f, g, h, i⟩ := x
      simp only [GsRouteOn.P, unCover, l9Good_eq ms hl, e1, hm, hx, r1, Option.bind_some, letK, joinK, appK, iteK_if, bind2_some, Bool.not_true, Bool.false_eq_true, if_false]
    rw [this] at s2
    obtain ⟨rfl, -⟩ := Prod.mk.inj (Option.some.inj s2)
    exact s1
def viaB (fuel : Nat) (ms : List Mail) (office : Int) (x : Cover) : Bool := match GiRouteOn.P fuel ms x with | none => false | some (r, _) => r.any (viaR ms office)
def viaRes (fuel : Nat) (ms : List Mail) (l : List Cover) (office : Int) : List Int × Bool := if (goodM ms && okCs l && inB office 0 9) = true then ((l.filter (viaB fuel ms office)).map Cover.id, true) else ([], false)
theorem via_len (fuel : Nat) (ms : List Mail) (l : List Cover) (office : Int) : (viaRes fuel ms l office).1.length ≤ l.length := by
  unfold viaRes
  split
  · rw [List.length_map]; exact List.length_filter_le _ _
  · simp
theorem via_impl {fuel : Nat} (ms : List Mail) (l : List Cover) (office : Int) (hl : ms.length ≤ 9223372036854775807) (hf : 10000 < fuel) : GiCoversVia.P fuel ms l office = some (viaRes fuel ms l office) := by
  have e3 := isTime_eq ms hl
  have e5 := areCovers_eq l
  have e6 := isOffice_eq office
  cases ha : goodM ms with
  | false => rw [ha] at e3; simp [GiCoversVia.P, e3, letK, joinK, appK, iteK_if, viaRes, ha]
  | true =>
    rw [ha] at e3
    cases hc : okCs l with
    | false => rw [hc] at e5; simp [GiCoversVia.P, e3, e5, letK, joinK, appK, iteK_if, viaRes, ha, hc]
    | true =>
      rw [hc] at e5
      cases ho : inB office 0 9 with
      | false => rw [ho] at e6; simp [GiCoversVia.P, e3, e5, e6, letK, joinK, appK, iteK_if, viaRes, ha, hc, ho]
      | true =>
        rw [ho] at e6
        have hlen := cs_len hc
        simp only [GiCoversVia.P, e3, e5, e6, Option.bind_some, letK, joinK, appK, iteK_if, viaRes, ha, hc, ho, Bool.not_true, Bool.false_eq_true, if_false, Bool.and_self, if_true, GiKeysWhereCoverIntiIdOfCoveriCoversVia2.P]
        rw [gather (p := viaB fuel ms office) (g := Cover.id) (by omega)]
        · simp [GiKeysWhereCoverIntiIdOfCoveriCoversVia2.e0, letK]
        · intro k nx x s hx hs
          have hi : idx l (k : Int) = some x := by rw [idx_nat, hx]
          obtain ⟨r, ok, _, h2, h3⟩ := via_spec_one (fuel := fuel) (office := office) hl ha (cs_mem hc (List.mem_of_getElem? hx)) hf
          have hv : viaB fuel ms office x = r.any (viaR ms office) := by unfold viaB; rw [h2]
          have h4 := contains_eq (office := office) h3
          obtain ⟨a, b, c, d, e, f, g, h, i⟩ := x
          simp only [GiKeysWhereCoverIntiIdOfCoveriCoversVia2.l0, hi, Option.bind_some, unCover, GiCoversVia2iCoversVia1.P, h2, h4, bind2_some, GiIdOfCover.P, letK, joinK, appK, iteK_if, hv]
          (rw [guardK_pos hs]) <;> (cases r.any (viaR ms office) <;> simp)
theorem via_spec {fuel : Nat} (ms : List Mail) (l : List Cover) (office : Int) (hl : ms.length ≤ 9223372036854775807) (hl2 : l.length ≤ 9223372036854775807) (hf : 10000 < fuel) : GsCoversVia.P fuel ms l office = some (viaRes fuel ms l office) := by
  have e3 := l9Good_eq ms hl
  have e5 := l10Good_eq l hl2
  have e6 := l9Office_eq office
  cases ha : goodM ms with
  | false => rw [ha] at e3; simp [GsCoversVia.P, e3, letK, joinK, appK, iteK_if, viaRes, ha]
  | true =>
    rw [ha] at e3
    cases hc : okCs l with
    | false => rw [hc] at e5; simp [GsCoversVia.P, e3, e5, letK, joinK, appK, iteK_if, viaRes, ha, hc]
    | true =>
      rw [hc] at e5
      cases ho : inB office 0 9 with
      | false => rw [ho] at e6; simp [GsCoversVia.P, e3, e5, e6, letK, joinK, appK, iteK_if, viaRes, ha, hc, ho]
      | true =>
        rw [ho] at e6
        have hlen := cs_len hc
        simp only [GsCoversVia.P, e3, e5, e6, Option.bind_some, letK, joinK, appK, iteK_if, viaRes, ha, hc, ho, Bool.not_true, Bool.false_eq_true, if_false, Bool.and_self, if_true]
        rw [gather (p := viaB fuel ms office) (g := Cover.id) (by omega)]
        · simp [GsCoversVia.e0, letK]
        · intro k nx x s hx hs
          have hi : idx l (k : Int) = some x := by rw [idx_nat, hx]
          obtain ⟨r, ok, h1, h2, h3⟩ := via_spec_one (fuel := fuel) (office := office) hl ha (cs_mem hc (List.mem_of_getElem? hx)) hf
          have hv : viaB fuel ms office x = r.any (viaR ms office) := by unfold viaB; rw [h2]
          have h4 : cntK (GsCoversVia.l1 ms office r) r.length 0 false (GsCoversVia.e1 l nx s k) = GsCoversVia.e1 l nx s k (r.any (viaR ms office)) := by
            refine spec_any h3 ?_
            intro q t nx2 j y hj hy h0
            have hjj : idx r (q : Int) = some j := by rw [idx_nat, hj]
            have hyy : idx ms j = some y := by unfold idx; rw [if_pos h0, hy]
            simp only [GsCoversVia.l1, hjj, hyy, Option.bind_some, unMail, letK, joinK, appK, iteK_if]
            cases t
            · simp only [Bool.false_eq_true, if_false, Bool.false_or]; rfl
            · simp
          obtain ⟨a, b, c, d, e, f, g, h, i⟩ := x
          simp only [GsCoversVia.l0, hi, Option.bind_some, unCover, h1, bind2_some, letK, h4]
          simp only [GsCoversVia.e1, hi, Option.bind_some, unCover, letK, appK, iteK_if, hv]
          (rw [guardK_pos hs]) <;> (cases r.any (viaR ms office) <;> simp)
end Go.Proofs.Ytlljmgphgmklcaa.Q10Via

/- The laws' helpers on Mail and on slices of it as plain functions: copied, equal, their bulk. No condition. -/
namespace Go.Proofs.Ytlljmgphgmklcaa.QHMailE
set_option linter.unusedVariables false
set_option linter.unusedSimpArgs false
open Go.RowKit
open Go.Proofs.Ytlljmgphgmklcaa.GoP Go.Proofs.Ytlljmgphgmklcaa.QBase Go.Proofs.Ytlljmgphgmklcaa.QLoop Go.Proofs.Ytlljmgphgmklcaa.PMail

theorem toOne (s : Mail) : GlToMail.P s = some s := by cases s; rfl
theorem eqOne (s : Mail) : GlEqMail.P s s = some true := by
  obtain ⟨x0, x1, x2, x3⟩ := s
  simp [GlEqMail.P, unMail, letK, joinK, appK, iteK_if]
theorem toS (l : List Mail) (hl : l.length ≤ 1048576) : GlToMailS.P l = some l := by
  simp only [GlToMailS.P, letK]
  rw [guardK_pos (by omega)]
  refine cnt_is l (fun k s => s = l.take k ++ List.replicate (l.length - k) (Mail.mk 0 0 0 0)) ?_ ?_ _ (by simp)
  · intro k s nx hk hI hn
    obtain ⟨x, hx, hi⟩ := at_lt (l := l) (k := k) hk
    have hlen : s.length = l.length := by rw [hI]; simp; omega
    obtain ⟨z, hz, hj⟩ := at_lt (l := s) (k := k) (by omega)
    simp only [GlToMailS.l0, hi, hj, toOne, Option.bind_some, unMail, letK, appK]
    refine hn _ ?_
    rw [hI, take_next hx, List.set_append_right _ _ (by simp; omega)]
    have hr : l.length - k = (l.length - (k + 1)) + 1 := by omega
    rw [hr, List.replicate_succ, List.append_assoc]
    simp [show k - min k l.length = 0 by omega]
  · intro s hI
    rw [hI]; simp [GlToMailS.e0, letK]
theorem eqS (l : List Mail) : GlEqMailS.P l l = some true := by
  simp only [GlEqMailS.P, letK, iteK_if]
  rw [if_neg (by simp)]
  refine cnt_is true (fun _ _ => True) ?_ (fun s _ => rfl) () trivial
  intro k s nx hk _ hn
  obtain ⟨x, hx, hi⟩ := at_lt (l := l) (k := k) hk
  simp only [GlEqMailS.l0, hi, Option.bind_some, unMail, eqOne, letK, appK, iteK_if]
  exact hn () trivial
theorem szF (l : List Mail) (left : Int) (h0 : 0 ≤ left) (h1 : left ≤ 1048576) (hl : l.length ≤ 9223372036854775807) : GlSzMailS.P l left = some (if (l.length : Int) ≤ left then left - (l.length : Int) else -1) := by
  simp only [GlSzMailS.P, letK, iteK_if]
  rw [wrap_in (by omega) (by omega)]
  by_cases h : (l.length : Int) ≤ left
  · rw [if_neg (by simp; omega), if_pos h]
  · rw [if_pos (by simp; omega), if_neg h]
theorem szS (l : List Mail) (hl : l.length ≤ 9223372036854775807) : GlSzMailS.P l 1048576 = some (if l.length ≤ 1048576 then 1048576 - (l.length : Int) else -1) := by
  simp only [GlSzMailS.P, letK, iteK_if]
  rw [wrap_in (by omega) (by omega)]
  by_cases h : l.length ≤ 1048576
  · rw [if_neg (by simp; omega), if_pos h]
  · rw [if_pos (by simp; omega), if_neg h]
end Go.Proofs.Ytlljmgphgmklcaa.QHMailE

/- The laws' helpers on Cover and on slices of it as plain functions: copied, equal, their bulk. No condition. -/
namespace Go.Proofs.Ytlljmgphgmklcaa.QHCoverE
set_option linter.unusedVariables false
set_option linter.unusedSimpArgs false
open Go.RowKit
open Go.Proofs.Ytlljmgphgmklcaa.GoP Go.Proofs.Ytlljmgphgmklcaa.QBase Go.Proofs.Ytlljmgphgmklcaa.QLoop Go.Proofs.Ytlljmgphgmklcaa.PCover

theorem toOne (s : Cover) : GlToCover.P s = some s := by cases s; rfl
theorem eqOne (s : Cover) : GlEqCover.P s s = some true := by
  obtain ⟨x0, x1, x2, x3, x4, x5, x6, x7, x8⟩ := s
  simp [GlEqCover.P, unCover, letK, joinK, appK, iteK_if]
theorem toS (l : List Cover) (hl : l.length ≤ 1048576) : GlToCoverS.P l = some l := by
  simp only [GlToCoverS.P, letK]
  rw [guardK_pos (by omega)]
  refine cnt_is l (fun k s => s = l.take k ++ List.replicate (l.length - k) (Cover.mk 0 0 0 0 0 0 0 0 0)) ?_ ?_ _ (by simp)
  · intro k s nx hk hI hn
    obtain ⟨x, hx, hi⟩ := at_lt (l := l) (k := k) hk
    have hlen : s.length = l.length := by rw [hI]; simp; omega
    obtain ⟨z, hz, hj⟩ := at_lt (l := s) (k := k) (by omega)
    simp only [GlToCoverS.l0, hi, hj, toOne, Option.bind_some, unCover, letK, appK]
    refine hn _ ?_
    rw [hI, take_next hx, List.set_append_right _ _ (by simp; omega)]
    have hr : l.length - k = (l.length - (k + 1)) + 1 := by omega
    rw [hr, List.replicate_succ, List.append_assoc]
    simp [show k - min k l.length = 0 by omega]
  · intro s hI
    rw [hI]; simp [GlToCoverS.e0, letK]
theorem eqS (l : List Cover) : GlEqCoverS.P l l = some true := by
  simp only [GlEqCoverS.P, letK, iteK_if]
  rw [if_neg (by simp)]
  refine cnt_is true (fun _ _ => True) ?_ (fun s _ => rfl) () trivial
  intro k s nx hk _ hn
  obtain ⟨x, hx, hi⟩ := at_lt (l := l) (k := k) hk
  simp only [GlEqCoverS.l0, hi, Option.bind_some, unCover, eqOne, letK, appK, iteK_if]
  exact hn () trivial
theorem szF (l : List Cover) (left : Int) (h0 : 0 ≤ left) (h1 : left ≤ 1048576) (hl : l.length ≤ 9223372036854775807) : GlSzCoverS.P l left = some (if (l.length : Int) ≤ left then left - (l.length : Int) else -1) := by
  simp only [GlSzCoverS.P, letK, iteK_if]
  rw [wrap_in (by omega) (by omega)]
  by_cases h : (l.length : Int) ≤ left
  · rw [if_neg (by simp; omega), if_pos h]
  · rw [if_pos (by simp; omega), if_neg h]
theorem szS (l : List Cover) (hl : l.length ≤ 9223372036854775807) : GlSzCoverS.P l 1048576 = some (if l.length ≤ 1048576 then 1048576 - (l.length : Int) else -1) := by
  simp only [GlSzCoverS.P, letK, iteK_if]
  rw [wrap_in (by omega) (by omega)]
  by_cases h : l.length ≤ 1048576
  · rw [if_neg (by simp; omega), if_pos h]
  · rw [if_pos (by simp; omega), if_neg h]
end Go.Proofs.Ytlljmgphgmklcaa.QHCoverE

/- Chapter 10: covers: the plain functions of the program and of the reference agree, and the laws answer true. (Q10TwoM) No condition but those of each theorem. -/
namespace Go.Proofs.Ytlljmgphgmklcaa.Q10TwoM
set_option linter.unusedVariables false
set_option linter.unusedSimpArgs false
open Go.RowKit
open Go.Proofs.Ytlljmgphgmklcaa.GoP Go.Proofs.Ytlljmgphgmklcaa.PlainStamp Go.Proofs.Ytlljmgphgmklcaa.QBase Go.Proofs.Ytlljmgphgmklcaa.QLoop Go.Proofs.Ytlljmgphgmklcaa.PCover Go.Proofs.Ytlljmgphgmklcaa.PMail Go.Proofs.Ytlljmgphgmklcaa.QHMailE Go.Proofs.Ytlljmgphgmklcaa.QHCoverE

theorem sz_twoM (ms : List Mail) (l : List Cover) (hm : ms.length ≤ 9223372036854775807) (hl : l.length ≤ 9223372036854775807) {R : Type} {no : R} {go : Int → Option R} {r : R} (hno : no = r) (hgo : ∀ v, 0 ≤ v → ms.length ≤ 1048576 → l.length ≤ 1048576 → go v = some r) :
    ((GlSzMailS.P ms 1048576).bind fun a => if decide (a < 0) = true then some no else (GlSzCoverS.P l a).bind fun b => if decide (b < 0) = true then some no else go b) = some r := by
  subst hno
  rw [QHMailE.szF ms _ (by omega) (by omega) hm, Option.bind_some]
  by_cases h1 : (ms.length : Int) ≤ 1048576
  · rw [if_pos h1, if_neg (by simp; omega), QHCoverE.szF l _ (by omega) (by omega) hl, Option.bind_some]
    by_cases h2 : (l.length : Int) ≤ 1048576 - (ms.length : Int)
    · rw [if_pos h2, if_neg (by simp; omega)]
      exact hgo _ (by omega) (by omega) (by omega)
    · rw [if_neg h2, if_pos (by simp)]
  · rw [if_neg h1, if_pos (by simp)]
end Go.Proofs.Ytlljmgphgmklcaa.Q10TwoM

/- The laws' helper that marks a slice of Mail as a plain function. No condition. -/
namespace Go.Proofs.Ytlljmgphgmklcaa.QHMail
set_option linter.unusedVariables false
set_option linter.unusedSimpArgs false
open Go.RowKit
open Go.Proofs.Ytlljmgphgmklcaa.GoP Go.Proofs.Ytlljmgphgmklcaa.QBase Go.Proofs.Ytlljmgphgmklcaa.QLoop Go.Proofs.Ytlljmgphgmklcaa.PMail 
theorem set_at {α : Type} {l : List α} {k : Nat} (x : α) (h : k < l.length) : idx (l.set k x) (k : Int) = some x := by rw [idx_nat, List.getElem?_set_self h]
theorem markF (l : List Mail) (k0 : Int) (hk0 : 1 ≤ k0) (hk1 : k0 ≤ 100000000) (hl : l.length ≤ 1048576) : ∃ v l', GlMarkMailS.P l k0 = some (v, l') ∧ v = k0 + 4 * (l.length : Int) := by
  obtain ⟨⟨v, l'⟩, h, hv⟩ : ∃ r : Int × List Mail, GlMarkMailS.P l k0 = some r ∧ r.1 = k0 + 4 * (l.length : Int) := by
    simp only [GlMarkMailS.P]
    refine cnt_ex (n := l.length) (Q := fun r : Int × List Mail => r.1 = k0 + 4 * (l.length : Int)) (fun k (s : List Mail × Int) => s.1.length = l.length ∧ s.2 = 4 * (k : Int) + k0) ?_ ?_ l.length 0 (l, k0) (by omega) ⟨rfl, by simp⟩
    · rintro k ⟨a, b⟩ nx hk ⟨h1, h2⟩ hn
      dsimp only at h1 h2
      obtain ⟨x, hx, hi⟩ := at_lt (l := a) (k := k) (by omega)
      have ha : k < a.length := by omega
      have w1 : IntKind.i64.wrap (b + 1) = b + 1 := wrap_in (by omega) (by omega)
      have w2 : IntKind.i64.wrap (b + 1 + 1) = b + 1 + 1 := wrap_in (by omega) (by omega)
      have w3 : IntKind.i64.wrap (b + 1 + 1 + 1) = b + 1 + 1 + 1 := wrap_in (by omega) (by omega)
      have w4 : IntKind.i64.wrap (b + 1 + 1 + 1 + 1) = b + 1 + 1 + 1 + 1 := wrap_in (by omega) (by omega)
      simp (disch := simp [ha]) only [GlMarkMailS.l0, unp2, hi, set_at, Option.bind_some, unMail, letK, appK, w1, w2, w3, w4]
      exact hn _ ⟨by simpa using h1, by dsimp only; omega⟩
    · rintro ⟨a, b⟩ ⟨h1, h2⟩
      exact ⟨_, rfl, by dsimp only at h2 ⊢; omega⟩
  exact ⟨v, l', h, hv⟩
theorem markS (l : List Mail) (hl : l.length ≤ 1048576) : ∃ v l', GlMarkMailS.P l 1 = some (v, l') ∧ 0 ≤ v := by
  obtain ⟨v, l', h, hv⟩ := markF l 1 (by omega) (by omega) hl
  exact ⟨v, l', h, by omega⟩
end Go.Proofs.Ytlljmgphgmklcaa.QHMail

/- The laws' helper that marks a slice of Cover as a plain function. No condition. -/
namespace Go.Proofs.Ytlljmgphgmklcaa.QHCover
set_option linter.unusedVariables false
set_option linter.unusedSimpArgs false
open Go.RowKit
open Go.Proofs.Ytlljmgphgmklcaa.GoP Go.Proofs.Ytlljmgphgmklcaa.QBase Go.Proofs.Ytlljmgphgmklcaa.QLoop Go.Proofs.Ytlljmgphgmklcaa.PCover 
theorem set_at {α : Type} {l : List α} {k : Nat} (x : α) (h : k < l.length) : idx (l.set k x) (k : Int) = some x := by rw [idx_nat, List.getElem?_set_self h]
theorem markF (l : List Cover) (k0 : Int) (hk0 : 1 ≤ k0) (hk1 : k0 ≤ 100000000) (hl : l.length ≤ 1048576) : ∃ v l', GlMarkCoverS.P l k0 = some (v, l') ∧ v = k0 + 9 * (l.length : Int) := by
  obtain ⟨⟨v, l'⟩, h, hv⟩ : ∃ r : Int × List Cover, GlMarkCoverS.P l k0 = some r ∧ r.1 = k0 + 9 * (l.length : Int) := by
    simp only [GlMarkCoverS.P]
    refine cnt_ex (n := l.length) (Q := fun r : Int × List Cover => r.1 = k0 + 9 * (l.length : Int)) (fun k (s : List Cover × Int) => s.1.length = l.length ∧ s.2 = 9 * (k : Int) + k0) ?_ ?_ l.length 0 (l, k0) (by omega) ⟨rfl, by simp⟩
    · rintro k ⟨a, b⟩ nx hk ⟨h1, h2⟩ hn
      dsimp only at h1 h2
      obtain ⟨x, hx, hi⟩ := at_lt (l := a) (k := k) (by omega)
      have ha : k < a.length := by omega
      have w1 : IntKind.i64.wrap (b + 1) = b + 1 := wrap_in (by omega) (by omega)
      have w2 : IntKind.i64.wrap (b + 1 + 1) = b + 1 + 1 := wrap_in (by omega) (by omega)
      have w3 : IntKind.i64.wrap (b + 1 + 1 + 1) = b + 1 + 1 + 1 := wrap_in (by omega) (by omega)
      have w4 : IntKind.i64.wrap (b + 1 + 1 + 1 + 1) = b + 1 + 1 + 1 + 1 := wrap_in (by omega) (by omega)
      have w5 : IntKind.i64.wrap (b + 1 + 1 + 1 + 1 + 1) = b + 1 + 1 + 1 + 1 + 1 := wrap_in (by omega) (by omega)
      have w6 : IntKind.i64.wrap (b + 1 + 1 + 1 + 1 + 1 + 1) = b + 1 + 1 + 1 + 1 + 1 + 1 := wrap_in (by omega) (by omega)
      have w7 : IntKind.i64.wrap (b + 1 + 1 + 1 + 1 + 1 + 1 + 1) = b + 1 + 1 + 1 + 1 + 1 + 1 + 1 := wrap_in (by omega) (by omega)
      have w8 : IntKind.i64.wrap (b + 1 + 1 + 1 + 1 + 1 + 1 + 1 + 1) = b + 1 + 1 + 1 + 1 + 1 + 1 + 1 + 1 := wrap_in (by omega) (by omega)
      have w9 : IntKind.i64.wrap (b + 1 + 1 + 1 + 1 + 1 + 1 + 1 + 1 + 1) = b + 1 + 1 + 1 + 1 + 1 + 1 + 1 + 1 + 1 := wrap_in (by omega) (by omega)
      simp (disch := simp [ha]) only [GlMarkCoverS.l0, unp2, hi, set_at, Option.bind_some, unCover, letK, appK, w1, w2, w3, w4, w5, w6, w7, w8, w9]
      exact hn _ ⟨by simpa using h1, by dsimp only; omega⟩
    · rintro ⟨a, b⟩ ⟨h1, h2⟩
      exact ⟨_, rfl, by dsimp only at h2 ⊢; omega⟩
  exact ⟨v, l', h, hv⟩
theorem markS (l : List Cover) (hl : l.length ≤ 1048576) : ∃ v l', GlMarkCoverS.P l 1 = some (v, l') ∧ 0 ≤ v := by
  obtain ⟨v, l', h, hv⟩ := markF l 1 (by omega) (by omega) hl
  exact ⟨v, l', h, by omega⟩
end Go.Proofs.Ytlljmgphgmklcaa.QHCover

/- The laws' helpers on slices of ints as plain functions: equal, marked, held. Condition: at most 2^40 numbers. -/
namespace Go.Proofs.Ytlljmgphgmklcaa.QInt
set_option linter.unusedVariables false
set_option linter.unusedSimpArgs false
open Go.RowKit
open Go.Proofs.Ytlljmgphgmklcaa.GoP Go.Proofs.Ytlljmgphgmklcaa.QBase Go.Proofs.Ytlljmgphgmklcaa.QLoop

theorem eqI (l : List Int) : GlEqIntS.P l l = some true := by
  simp only [GlEqIntS.P, letK, iteK_if]
  rw [if_neg (by simp)]
  refine cnt_is true (fun _ _ => True) ?_ (fun s _ => rfl) () trivial
  intro k s nx hk _ hn
  obtain ⟨x, hx, hi⟩ := at_lt (l := l) (k := k) hk
  simp only [GlEqIntS.l0, hi, Option.bind_some, letK, appK, iteK_if]
  rw [if_neg (by simp)]
  exact hn () trivial
/-- 1, 2, 3 .. -/
def ups (n : Nat) : List Int := (List.range n).map (fun i : Nat => (i : Int) + 1)
theorem ups_at {n k : Nat} (h : k < n) : (ups n)[k]? = some ((k : Int) + 1) := by unfold ups; simp [h]
theorem ups_len (n : Nat) : (ups n).length = n := by simp [ups]
theorem markI (l : List Int) (hl : l.length ≤ 1099511627776) : GlMarkIntS.P l 1 = some ((l.length : Int) + 1, ups l.length) := by
  simp only [GlMarkIntS.P]
  refine cnt_is _ (fun k s => s.1.length = l.length ∧ s.2 = (k : Int) + 1 ∧ ∀ i, i < k → s.1[i]? = some ((i : Int) + 1)) ?_ ?_ (l, 1) ⟨rfl, rfl, fun i hi => by omega⟩
  · rintro k ⟨a, b⟩ nx hk ⟨h1, h2, h3⟩ hn
    dsimp only at h1 h2 h3
    obtain ⟨x, hx, hi⟩ := at_lt (l := a) (k := k) (by omega)
    simp only [GlMarkIntS.l0, unp2, hi, Option.bind_some, letK, appK]
    rw [wrap_in (by omega) (by omega)]
    refine hn _ ⟨by simpa using h1, by dsimp only; omega, fun i hi2 => ?_⟩
    dsimp only
    by_cases he : i = k
    · subst he; rw [List.getElem?_set_self (by omega), h2]
    · rw [List.getElem?_set_ne (by omega)]; exact h3 i (by omega)
  · rintro ⟨a, b⟩ ⟨h1, h2, h3⟩
    dsimp only at h1 h2 h3
    have : a = ups l.length := by
      apply List.ext_getElem?
      intro i
      by_cases hi : i < l.length
      · rw [h3 i hi, ups_at hi]
      · rw [List.getElem?_eq_none (by omega), List.getElem?_eq_none (by rw [ups_len]; omega)]
    simp only [GlMarkIntS.e0, unp2]
    rw [this, h2]
theorem heldI (n : Nat) (hl : n ≤ 1099511627776) : GlHeldIntS.P (ups n) 1 = some ((n : Int) + 1) := by
  simp only [GlHeldIntS.P]
  refine cnt_is _ (fun k s => s = (k : Int) + 1) ?_ ?_ 1 rfl
  · intro k s nx hk hI hn
    rw [ups_len] at hk
    have hi : idx (ups n) (k : Int) = some ((k : Int) + 1) := by rw [idx_nat, ups_at hk]
    simp only [GlHeldIntS.l0, hi, Option.bind_some, letK, appK, iteK_if]
    rw [if_neg (by simp [hI]), wrap_in (by omega) (by omega)]
    exact hn _ (by omega)
  · intro s hI
    simp only [GlHeldIntS.e0, letK]
    rw [hI, ups_len]
/-- a loop that gathers -/
theorem gather {α β R : Type} {l : List α} {p : α → Bool} {g : α → β} {f : Nat → List β → (List β → Option R) → (List β → Option R) → Option R} {fin : List β → Option R} (hl : l.length ≤ 1099511627776)
    (step : ∀ k nx x s, l[k]? = some x → s.length ≤ 1099511627776 → f k s nx fin = nx (if p x then s ++ [g x] else s)) : cntK f l.length 0 [] fin = fin ((l.filter p).map g) := by
  have key : ∀ m k, k + m = l.length → cntK f m k (((l.take k).filter p).map g) fin = fin ((l.filter p).map g) := by
    intro m
    induction m with
    | zero => intro k hk; obtain rfl : k = l.length := by omega
              rw [List.take_of_length_le (Nat.le_refl _)]; rfl
    | succ m ih =>
      intro k hk
      obtain ⟨x, hx, _⟩ := at_lt (l := l) (k := k) (by omega)
      show f k _ _ fin = _
      have hle : (((l.take k).filter p).map g).length ≤ 1099511627776 := by
        rw [List.length_map]
        have := List.length_filter_le p (l.take k)
        rw [List.length_take] at this
        omega
      rw [step k _ x _ hx hle, ← ih (k + 1) (by omega), take_next hx, List.filter_append, List.map_append]
      cases hp : p x <;> simp [List.filter, hp]
  exact key l.length 0 (by omega)
end Go.Proofs.Ytlljmgphgmklcaa.QInt

/- Chapter 10: covers: the plain functions of the program and of the reference agree, and the laws answer true. (QL10Via) No condition but those of each theorem. -/
namespace Go.Proofs.Ytlljmgphgmklcaa.QL10Via
set_option linter.unusedVariables false
set_option linter.unusedSimpArgs false
open Go.RowKit
open Go.Proofs.Ytlljmgphgmklcaa.GoP Go.Proofs.Ytlljmgphgmklcaa.PlainStamp Go.Proofs.Ytlljmgphgmklcaa.QBase Go.Proofs.Ytlljmgphgmklcaa.Q10Via Go.Proofs.Ytlljmgphgmklcaa.Q10TwoM Go.Proofs.Ytlljmgphgmklcaa.QLoop Go.Proofs.Ytlljmgphgmklcaa.PCover Go.Proofs.Ytlljmgphgmklcaa.PMail Go.Proofs.Ytlljmgphgmklcaa.QHMailE Go.Proofs.Ytlljmgphgmklcaa.QHCoverE Go.Proofs.Ytlljmgphgmklcaa.QHMail Go.Proofs.Ytlljmgphgmklcaa.QHCover Go.Proofs.Ytlljmgphgmklcaa.QInt

theorem law_via {fuel : Nat} (ms : List Mail) (l : List Cover) (office : Int) (hm : ms.length ≤ 9223372036854775807) (hl : l.length ≤ 9223372036854775807) (hf : 10000 < fuel) : GlFnExactCoversVia.P fuel ms l office = some true := by
  simp only [GlFnExactCoversVia.P, letK, iteK_if]
  refine sz_twoM ms l hm hl rfl ?_
  intro v hv hm2 hl2
  obtain ⟨⟨a, b⟩, hs⟩ : ∃ x, x = viaRes fuel ms l office := ⟨_, rfl⟩
  have hlen : a.length ≤ 1099511627776 := by have := via_len fuel ms l office; rw [← hs] at this; dsimp only at this; omega
  obtain ⟨v2, l2, m2, e2⟩ := QHMail.markF ms 1 (by omega) (by omega) hm2
  obtain ⟨v3, l3, m3, e3⟩ := QHCover.markF l v2 (by omega) (by omega) hl2
  have hv3 : ¬ v3 < 0 := by omega
  have hv4 : ¬ (a.length : Int) + 1 < 0 := by omega
  simp [QHMailE.toS ms hm2, QHCoverE.toS l hl2, via_spec ms l office hm hl hf, via_impl ms l office hm hf, ← hs, bind2, joinK, appK, iteK_if, QHMailE.eqS, QHCoverE.eqS, eqI, m2, m3, hv3, markI a hlen, heldI a.length hlen, hv4]
end Go.Proofs.Ytlljmgphgmklcaa.QL10Via

