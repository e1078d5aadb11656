/- Texts on which the proofs of several laws stand, one behind the other (13 of 18). No condition of their own. -/
import Derived.Test.YtgbcdmlcmnaimaaX10P11
import Derived.Test.YtgbcdmlcmnaimaaX10P8
import Derived.Test.YtgbcdmlcmnaimaaX10P12
import Derived.Test.YtgbcdmlcmnaimaaX10P1
import Derived.Test.YtgbcdmlcmnaimaaX10P10
import Derived.Test.YtgbcdmlcmnaimaaX10P9
import Derived.Test.YtgbcdmlcmnaimaaX10P7
import Derived.Test.YtgbcdmlcmnaimaaChecked
import Derived.WalkKit
import Derived.WalkSpells
import Derived.WalkLawsBesides
import Derived.BigQuiet
import Derived.OwnWalk
import Derived.Deep.LoopGhost
import Derived.Deep.QuietTactic
import Derived.IntWalk
import Derived.Lib.QuietBelow
set_option linter.unusedVariables false
set_option linter.unusedSimpArgs false
namespace Go.Proofs.Ytgbcdmlcmnaimaa.QFoldS
open Go.RowKit
open Go.Proofs.Ytgbcdmlcmnaimaa.GoP Go.Proofs.Ytgbcdmlcmnaimaa.PlainStamp Go.Proofs.Ytgbcdmlcmnaimaa.QBase Go.Proofs.Ytgbcdmlcmnaimaa.QLoop

/-- a counted loop that carries a state through a list -/
theorem fold_cnt {α σ ρ : Type} {l : List α} {g : σ → α → σ} {J : σ → Prop} {f : Nat → σ → (σ → Option ρ) → (σ → Option ρ) → Option ρ} {fin : σ → Option ρ}
    (step : ∀ k x s nx, l[k]? = some x → J s → f k s nx fin = nx (g s x) ∧ J (g s x)) {s : σ} (hs : J s) : cntK f l.length 0 s fin = fin (l.foldl g s) := by
  have key : ∀ m k s, k + m = l.length → J s → cntK f m k s fin = fin ((l.drop k).foldl g s) := by
    intro m
    induction m with
    | zero => intro k s hk _; rw [List.drop_eq_nil_of_le (by omega)]; rfl
    | succ m ih =>
      intro k s hk hJ
      have hlt : k < l.length := by omega
      have hx : l[k]? = some l[k] := List.getElem?_eq_getElem hlt
      obtain ⟨h1, h2⟩ := step k l[k] s (fun s' => cntK f m (k + 1) s' fin) hx hJ
      show f k s _ fin = _
      rw [h1, ih (k + 1) _ (by omega) h2, List.drop_eq_getElem_cons hlt, List.foldl_cons]
  exact key l.length 0 s (by omega) hs
end Go.Proofs.Ytgbcdmlcmnaimaa.QFoldS

namespace Go.Proofs.Ytgbcdmlcmnaimaa.Q9Arr
open Go.RowKit
open Go.Proofs.Ytgbcdmlcmnaimaa.GoP Go.Proofs.Ytgbcdmlcmnaimaa.PlainStamp Go.Proofs.Ytgbcdmlcmnaimaa.QBase Go.Proofs.Ytgbcdmlcmnaimaa.QLoop Go.Proofs.Ytgbcdmlcmnaimaa.PIntA10 Go.Proofs.Ytgbcdmlcmnaimaa.GoA

/-- the number of an office in a row of ten -/
def at_ (s : List Int) (i : Int) : Int := s.getD i.toNat 0
theorem idx_at {s : List Int} {i : Int} (hs : s.length = 10) (hi : 0 ≤ i ∧ i ≤ 9) : idx s i = some (at_ s i) := by
  unfold idx at_
  rw [if_pos hi.1, List.getD_eq_getElem?_getD, List.getElem?_eq_getElem (by omega)]; rfl
theorem at_set {s : List Int} {i j : Int} (hs : s.length = 10) (hi : 0 ≤ i ∧ i ≤ 9) (hj : 0 ≤ j ∧ j ≤ 9) (v : Int) : at_ (s.set i.toNat v) j = if j = i then v else at_ s j := by
  unfold at_
  rw [List.getD_eq_getElem?_getD, List.getD_eq_getElem?_getD]
  by_cases h : j = i
  · subst h; rw [if_pos rfl, List.getElem?_set_self (by omega)]; rfl
  · rw [if_neg h, List.getElem?_set_ne (by omega)]
theorem at_rep {v i : Int} (hi : 0 ≤ i ∧ i ≤ 9) : at_ (List.replicate 10 v) i = v := by
  unfold at_
  rw [List.getD_eq_getElem?_getD, List.getElem?_replicate, if_pos (by omega)]; rfl
def toA (s : List Int) : IntA10 := IntA10.mk (nth s 0) (nth s 1) (nth s 2) (nth s 3) (nth s 4) (nth s 5) (nth s 6) (nth s 7) (nth s 8) (nth s 9)
theorem ten {s : List Int} (hs : s.length = 10) : [(toA s).x0, (toA s).x1, (toA s).x2, (toA s).x3, (toA s).x4, (toA s).x5, (toA s).x6, (toA s).x7, (toA s).x8, (toA s).x9] = s := by
  match s, hs with
  | [a, b, c, d, e, f, g, h, i, j], _ => rfl
theorem filled_eq (v : Int) : GiFilledWith.P v = some (toA (List.replicate 10 v)) := rfl
theorem un_eq {ρ : Type} (s : IntA10) (f : Int → Int → Int → Int → Int → Int → Int → Int → Int → Int → Option ρ) : unIntA10 s f = f s.x0 s.x1 s.x2 s.x3 s.x4 s.x5 s.x6 s.x7 s.x8 s.x9 := rfl
end Go.Proofs.Ytgbcdmlcmnaimaa.Q9Arr

namespace Go.Proofs.Ytgbcdmlcmnaimaa.QOrd
open Go.RowKit
open Go.Proofs.Ytgbcdmlcmnaimaa.GoP Go.Proofs.Ytgbcdmlcmnaimaa.PlainStamp Go.Proofs.Ytgbcdmlcmnaimaa.QBase Go.Proofs.Ytgbcdmlcmnaimaa.QLoop

/-- texts in the order of their bytes -/
def bl (a b : ByteArray) : Bool := Op.bytesLess a.toList b.toList
/-- valid, and behind the one ahead of it -/
def riseAt {α : Type} (ok : α → Bool) (lt : α → α → Bool) (l : List α) (k : Nat) : Bool :=
  match l[k]? with
  | none => true
  | some s => ok s && (decide (k = 0) || (match l[k-1]? with | none => true | some r => lt r s))
def riseTo {α : Type} (ok : α → Bool) (lt : α → α → Bool) (l : List α) (k : Nat) : Bool := (List.range k).all (riseAt ok lt l)
theorem riseTo_zero {α : Type} (ok : α → Bool) (lt : α → α → Bool) (l : List α) : riseTo ok lt l 0 = true := rfl
theorem riseTo_succ {α : Type} (ok : α → Bool) (lt : α → α → Bool) (l : List α) (k : Nat) : riseTo ok lt l (k + 1) = (riseTo ok lt l k && riseAt ok lt l k) := by simp [riseTo, List.range_succ, List.all_append]
theorem riseTo_not {α : Type} {ok : α → Bool} {lt : α → α → Bool} {l : List α} {k n : Nat} (h : riseAt ok lt l k = false) (hk : k < n) : riseTo ok lt l n = false := by
  unfold riseTo
  rw [Bool.eq_false_iff]
  intro ha
  have := List.all_eq_true.1 ha k (List.mem_range.2 hk)
  rw [h] at this; exact absurd this (by simp)
def riseL {α : Type} (m : Nat) (ok : α → Bool) (lt : α → α → Bool) (l : List α) : Bool := decide (l.length ≤ m) && riseTo ok lt l l.length
theorem riseAt_bad {α : Type} {ok : α → Bool} {lt : α → α → Bool} {l : List α} {k : Nat} {s : α} (hs : l[k]? = some s) (h : ok s = false) : riseAt ok lt l k = false := by unfold riseAt; rw [hs]; simp [h]
theorem riseAt_first {α : Type} {ok : α → Bool} {lt : α → α → Bool} {l : List α} {s : α} (hs : l[0]? = some s) (h : ok s = true) : riseAt ok lt l 0 = true := by unfold riseAt; rw [hs]; simp [h]
theorem riseAt_next {α : Type} {ok : α → Bool} {lt : α → α → Bool} {l : List α} {k : Nat} {s r : α} (hs : l[k]? = some s) (hr : l[k-1]? = some r) (hk : 0 < k) (h : ok s = true) : riseAt ok lt l k = lt r s := by
  unfold riseAt; rw [hs]; simp only [hr, h, Bool.true_and, decide_eq_false (show ¬ k = 0 by omega), Bool.false_or]
theorem riseL_len {α : Type} {m : Nat} {ok : α → Bool} {lt : α → α → Bool} {l : List α} (h : riseL m ok lt l = true) : l.length ≤ m := by unfold riseL at h; simp only [Bool.and_eq_true, decide_eq_true_eq] at h; exact h.1
theorem riseTo_at {α : Type} {ok : α → Bool} {lt : α → α → Bool} {l : List α} {n : Nat} (h : riseTo ok lt l n = true) {k : Nat} (hk : k < n) : riseAt ok lt l k = true := List.all_eq_true.1 h k (List.mem_range.2 hk)
theorem riseL_ok {α : Type} {m : Nat} {ok : α → Bool} {lt : α → α → Bool} {l : List α} (h : riseL m ok lt l = true) {k : Nat} {s : α} (hs : l[k]? = some s) : ok s = true := by
  unfold riseL at h
  simp only [Bool.and_eq_true, decide_eq_true_eq] at h
  have := riseTo_at h.2 (List.getElem?_eq_some_iff.1 hs).1
  unfold riseAt at this
  rw [hs] at this
  simp only [Bool.and_eq_true] at this
  exact this.1
theorem riseL_mem {α : Type} {m : Nat} {ok : α → Bool} {lt : α → α → Bool} {l : List α} (h : riseL m ok lt l = true) {s : α} (hs : s ∈ l) : ok s = true := by
  obtain ⟨k, hk⟩ := List.getElem?_of_mem hs
  exact riseL_ok h hk
theorem riseL_step {α : Type} {m : Nat} {ok : α → Bool} {lt : α → α → Bool} {l : List α} (h : riseL m ok lt l = true) {k : Nat} {x y : α} (hx : l[k]? = some x) (hy : l[k + 1]? = some y) : lt x y = true := by
  unfold riseL at h
  simp only [Bool.and_eq_true, decide_eq_true_eq] at h
  have := riseTo_at h.2 (List.getElem?_eq_some_iff.1 hy).1
  unfold riseAt at this
  rw [hy] at this
  simp only [Nat.add_sub_cancel, hx, Bool.and_eq_true, Bool.or_eq_true, decide_eq_true_eq] at this
  rcases this.2 with h0 | h0
  · omega
  · exact h0
/-- a loop that goes through a list of records and stops with 'no' at the first that is bad -/
theorem rise_loop {α : Type} {ok : α → Bool} {lt : α → α → Bool} {l : List α} {R : Type} {no : R} {f : Nat → Unit → (Unit → Option R) → (Unit → Option R) → Option R} {fin : Unit → Option R}
    (step : ∀ k nx s, l[k]? = some s → (ok s = false → f k () nx fin = some no) ∧ (ok s = true → (k = 0 → f k () nx fin = nx ()) ∧ (0 < k → ∀ r, l[k-1]? = some r → (lt r s = true → f k () nx fin = nx ()) ∧ (lt r s = false → f k () nx fin = some no)))) :
    cntK f l.length 0 () fin = if riseTo ok lt l l.length then fin () else some no := by
  have key : ∀ m k, k + m = l.length → riseTo ok lt l k = true → cntK f m k () fin = if riseTo ok lt l l.length then fin () else some no := by
    intro m
    induction m with
    | zero => intro k hk hu; obtain rfl : k = l.length := by omega
              rw [hu]; rfl
    | succ m ih =>
      intro k hk hu
      have hlt : k < l.length := by omega
      obtain ⟨s, hs, _⟩ := at_lt hlt
      obtain ⟨h1, h2⟩ := step k (fun s' => cntK f m (k + 1) s' fin) s hs
      show f k () _ fin = _
      cases hok : ok s with
      | false => rw [h1 hok, riseTo_not (riseAt_bad hs hok) hlt]; rfl
      | true =>
        obtain ⟨h3, h4⟩ := h2 hok
        by_cases hk0 : k = 0
        · rw [h3 hk0]
          subst hk0
          exact ih 1 (by omega) (by rw [riseTo_succ, hu, riseAt_first hs hok]; rfl)
        · obtain ⟨r, hr, _⟩ := at_lt (l := l) (k := k - 1) (by omega)
          obtain ⟨h5, h6⟩ := h4 (by omega) r hr
          cases hl : lt r s with
          | true =>
            rw [h5 hl]
            exact ih (k + 1) (by omega) (by rw [riseTo_succ, hu, riseAt_next hs hr (by omega) hok, hl]; rfl)
          | false => rw [h6 hl, riseTo_not (by rw [riseAt_next hs hr (by omega) hok, hl]) hlt]; rfl
  exact key l.length 0 (by omega) (riseTo_zero ok lt l)
end Go.Proofs.Ytgbcdmlcmnaimaa.QOrd

namespace Go.Proofs.Ytgbcdmlcmnaimaa.QRiseV
open Go.RowKit
open Go.Proofs.Ytgbcdmlcmnaimaa.GoP Go.Proofs.Ytgbcdmlcmnaimaa.PlainStamp Go.Proofs.Ytgbcdmlcmnaimaa.QBase Go.Proofs.Ytgbcdmlcmnaimaa.QOrd Go.Proofs.Ytgbcdmlcmnaimaa.QLoop

/-- as rise_loop, with what is known of the one ahead -/
theorem rise_loopV {α : Type} {ok : α → Bool} {lt : α → α → Bool} {l : List α} {R : Type} {no : R} {f : Nat → Unit → (Unit → Option R) → (Unit → Option R) → Option R} {fin : Unit → Option R}
    (step : ∀ k nx s, l[k]? = some s → (ok s = false → f k () nx fin = some no) ∧ (ok s = true → (k = 0 → f k () nx fin = nx ()) ∧ (0 < k → ∀ r, l[k-1]? = some r → ok r = true → (lt r s = true → f k () nx fin = nx ()) ∧ (lt r s = false → f k () nx fin = some no)))) :
    cntK f l.length 0 () fin = if riseTo ok lt l l.length then fin () else some no := by
  have key : ∀ m k, k + m = l.length → riseTo ok lt l k = true → cntK f m k () fin = if riseTo ok lt l l.length then fin () else some no := by
    intro m
    induction m with
    | zero => intro k hk hu; obtain rfl : k = l.length := by omega
              rw [hu]; rfl
    | succ m ih =>
      intro k hk hu
      have hlt : k < l.length := by omega
      obtain ⟨s, hs, _⟩ := at_lt hlt
      obtain ⟨h1, h2⟩ := step k (fun s' => cntK f m (k + 1) s' fin) s hs
      show f k () _ fin = _
      cases hok : ok s with
      | false => rw [h1 hok, riseTo_not (riseAt_bad hs hok) hlt]; rfl
      | true =>
        obtain ⟨h3, h4⟩ := h2 hok
        by_cases hk0 : k = 0
        · rw [h3 hk0]
          subst hk0
          exact ih 1 (by omega) (by rw [riseTo_succ, hu, riseAt_first hs hok]; rfl)
        · obtain ⟨r, hr, _⟩ := at_lt (l := l) (k := k - 1) (by omega)
          have hokr : ok r = true := by
            have := riseTo_at hu (k := k - 1) (by omega)
            unfold riseAt at this; rw [hr] at this
            simp only [Bool.and_eq_true] at this; exact this.1
          obtain ⟨h5, h6⟩ := h4 (by omega) r hr hokr
          cases hl : lt r s with
          | true =>
            rw [h5 hl]
            exact ih (k + 1) (by omega) (by rw [riseTo_succ, hu, riseAt_next hs hr (by omega) hok, hl]; rfl)
          | false => rw [h6 hl, riseTo_not (by rw [riseAt_next hs hr (by omega) hok, hl]) hlt]; rfl
  exact key l.length 0 (by omega) (riseTo_zero ok lt l)
end Go.Proofs.Ytgbcdmlcmnaimaa.QRiseV

namespace Go.Proofs.Ytgbcdmlcmnaimaa.QRiseL
open Go.RowKit
open Go.Proofs.Ytgbcdmlcmnaimaa.GoP Go.Proofs.Ytgbcdmlcmnaimaa.PlainStamp Go.Proofs.Ytgbcdmlcmnaimaa.QBase Go.Proofs.Ytgbcdmlcmnaimaa.QOrd Go.Proofs.Ytgbcdmlcmnaimaa.QLoop

/-- the same, for a loop that counts by itself and stops behind m: the list may be longer than m -/
theorem rise_lp {α R : Type} {ok : α → Bool} {lt : α → α → Bool} {l : List α} {m : Nat} {no : R} {yes : Option R} {f : Int → (Int → Option R) → (Int → Option R) → Option R} {fin : Int → Option R}
    (stop : ∀ (k : Nat) nx, (l.length ≤ k ∨ m < k) → k ≤ l.length → k ≤ m + 1 → f (k : Int) nx fin = fin (k : Int))
    (end_ : ∀ k : Int, fin k = if l.length ≤ m then yes else some no)
    (step : ∀ (k : Nat) nx s, k ≤ m → l[k]? = some s → (ok s = false → f (k : Int) nx fin = some no) ∧ (ok s = true → (k = 0 → f (k : Int) nx fin = nx ((k + 1 : Nat) : Int)) ∧ (0 < k → ∀ r, l[k-1]? = some r → ok r = true → (lt r s = true → f (k : Int) nx fin = nx ((k + 1 : Nat) : Int)) ∧ (lt r s = false → f (k : Int) nx fin = some no)))) :
    ∀ fuel k, m + 1 - k < fuel → k ≤ l.length → k ≤ m + 1 → riseTo ok lt l k = true → loopK f fuel (k : Int) fin = if riseL m ok lt l = true then yes else some no := by
  intro fuel
  induction fuel with
  | zero => intro k h; omega
  | succ n ih =>
    intro k hf hk hm hu
    show f (k : Int) (fun s' => loopK f n s' fin) fin = _
    by_cases hs : l.length ≤ k ∨ m < k
    · rw [stop k _ hs hk hm, end_]
      by_cases hl : l.length ≤ m
      · obtain rfl : k = l.length := by omega
        rw [if_pos hl, if_pos (by unfold riseL; simp [hl, hu])]
      · rw [if_neg hl, if_neg (by unfold riseL; simp [hl])]
    · have hlt : k < l.length := by omega
      obtain ⟨s, hs', _⟩ := at_lt hlt
      obtain ⟨h1, h2⟩ := step k (fun s' => loopK f n s' fin) s (by omega) hs'
      have bad : riseAt ok lt l k = false → riseL m ok lt l = false := by
        intro h; unfold riseL; rw [riseTo_not h hlt, Bool.and_false]
      cases hok : ok s with
      | false => rw [h1 hok, bad (riseAt_bad hs' hok)]; rfl
      | true =>
        obtain ⟨h3, h4⟩ := h2 hok
        by_cases hk0 : k = 0
        · rw [h3 hk0]
          subst hk0
          exact ih 1 (by omega) (by omega) (by omega) (by rw [riseTo_succ, hu, riseAt_first hs' hok]; rfl)
        · obtain ⟨r, hr, _⟩ := at_lt (l := l) (k := k - 1) (by omega)
          have hokr : ok r = true := by
            have := riseTo_at hu (k := k - 1) (by omega)
            unfold riseAt at this; rw [hr] at this
            simp only [Bool.and_eq_true] at this; exact this.1
          obtain ⟨h5, h6⟩ := h4 (by omega) r hr hokr
          cases hl : lt r s with
          | true =>
            rw [h5 hl]
            exact ih (k + 1) (by omega) (by omega) (by omega) (by rw [riseTo_succ, hu, riseAt_next hs' hr (by omega) hok, hl]; rfl)
          | false => rw [h6 hl, bad (by rw [riseAt_next hs' hr (by omega) hok, hl])]; rfl
/-- what each step gives holds between any two -/
theorem riseL_rel {α : Type} {m : Nat} {ok : α → Bool} {lt : α → α → Bool} (rel : α → α → Prop) (st : ∀ a b, ok a = true → ok b = true → lt a b = true → rel a b) (tr : ∀ a b c, rel a b → rel b c → rel a c) {l : List α} (h : riseL m ok lt l = true) {i j : Nat} {x y : α} (hij : i < j) (hx : l[i]? = some x) (hy : l[j]? = some y) : rel x y := by
  obtain ⟨d, rfl⟩ : ∃ d, j = i + d + 1 := ⟨j - i - 1, by omega⟩
  clear hij
  induction d generalizing y with
  | zero => exact st _ _ (riseL_ok h hx) (riseL_ok h hy) (riseL_step h hx hy)
  | succ d ih =>
    obtain ⟨z, hz, _⟩ := at_lt (l := l) (k := i + d + 1) (by have := (List.getElem?_eq_some_iff.1 hy).1; omega)
    exact tr _ _ _ (ih hz) (st _ _ (riseL_ok h hz) (riseL_ok h hy) (riseL_step (k := i + d + 1) h hz (by rw [← hy]; rfl)))
end Go.Proofs.Ytgbcdmlcmnaimaa.QRiseL

namespace Go.Proofs.Ytgbcdmlcmnaimaa.Q9List
open Go.RowKit
open Go.Proofs.Ytgbcdmlcmnaimaa.GoP Go.Proofs.Ytgbcdmlcmnaimaa.PlainStamp Go.Proofs.Ytgbcdmlcmnaimaa.QBase Go.Proofs.Ytgbcdmlcmnaimaa.QRiseV Go.Proofs.Ytgbcdmlcmnaimaa.QRiseL Go.Proofs.Ytgbcdmlcmnaimaa.QOrd Go.Proofs.Ytgbcdmlcmnaimaa.Q9Mail Go.Proofs.Ytgbcdmlcmnaimaa.QLoop Go.Proofs.Ytgbcdmlcmnaimaa.PMail

def goodM (l : List Mail) : Bool := riseL 20 okM ltM l
theorem isTime_eq (l : List Mail) (hl : l.length ≤ 9223372036854775807) : GiIsTimetable.P l = some (goodM l) := by
  simp only [GiIsTimetable.P, letK, iteK_if]
  by_cases h12 : l.length ≤ 20
  · rw [if_neg (by simp; omega), rise_loopV (ok := okM) (lt := ltM) (no := false)]
    · unfold goodM riseL; cases riseTo okM ltM l l.length <;> simp [h12, GiIsTimetable.e0]
    · intro k nx s hs
      have hi : idx l (k : Int) = some s := by rw [idx_nat, hs]
      have hk : k < l.length := (List.getElem?_eq_some_iff.1 hs).1
      simp only [GiIsTimetable.l0, hi, Option.bind_some, unMail, isMail_eq, letK, joinK, appK, iteK_if]
      refine ⟨fun h => by simp [h], fun h => ⟨fun h0 => by subst h0; simp [h], fun h0 r hr hokr => ?_⟩⟩
      rw [idx_pred h0 (by omega) hr]
      have hk0 : (0 : Int) < (k : Int) := by omega
      have hk1 : ¬ k = 0 := by omega
      obtain ⟨c, hc, hcc⟩ := compare_eq hokr h
      have he : ∀ x : Mail, Mail.mk x.leave x.from_ x.to_ x.arrive = x := fun x => rfl
      simp only [Option.bind_some, he, hc, h, ltM]
      exact ⟨fun hlt => by
        have : ¬ 0 ≤ c := by rw [hcc]; have := of_decide_eq_true hlt; omega
        simp [hk0, hk1, this], fun hge => by
        have : 0 ≤ c := by rw [hcc]; have := of_decide_eq_false hge; omega
        simp [hk0, hk1, this]⟩
  · rw [if_pos (by simp; omega)]; unfold goodM riseL; simp [h12]
theorem l9Good_eq (l : List Mail) (hl : l.length ≤ 9223372036854775807) : GsL9Good.P l = some (goodM l) := by
  simp only [GsL9Good.P]
  rw [rise_loopV (ok := okM) (lt := ltM) (no := false)]
  · unfold goodM riseL; simp only [GsL9Good.e0, letK]
    by_cases h12 : l.length ≤ 20
    · have : (l.length : Int) ≤ 20 := by omega
      cases riseTo okM ltM l l.length <;> simp [h12, this]
    · have : ¬ (l.length : Int) ≤ 20 := by omega
      cases riseTo okM ltM l l.length <;> simp [h12, this]
  · intro k nx s hs
    have hi : idx l (k : Int) = some s := by rw [idx_nat, hs]
    have hk : k < l.length := (List.getElem?_eq_some_iff.1 hs).1
    simp only [GsL9Good.l0, hi, Option.bind_some, unMail, l9One_eq, letK, joinK, appK, iteK_if]
    refine ⟨fun h => by simp [h], fun h => ⟨fun h0 => by subst h0; simp [h], fun h0 r hr hokr => ?_⟩⟩
    rw [idx_pred h0 (by omega) hr]
    have hk0 : (0 : Int) < (k : Int) := by omega
    have hk1 : ¬ k = 0 := by omega
    have he : ∀ x : Mail, Mail.mk x.leave x.from_ x.to_ x.arrive = x := fun x => rfl
    simp only [Option.bind_some, he, code_eq hokr, code_eq h, h, ltM]
    exact ⟨fun hlt => by
      have : ¬ codeM s ≤ codeM r := by have := of_decide_eq_true hlt; omega
      simp [hk0, hk1, this], fun hge => by
      have : codeM s ≤ codeM r := by have := of_decide_eq_false hge; omega
      simp [hk0, hk1, this]⟩
def askM (l : List Mail) (o m : Int) : Bool := goodM l && inB o 0 9 && inB m 0 9999
theorem canBegin_eq (l : List Mail) (hl : l.length ≤ 9223372036854775807) (o m : Int) : GiCanBegin.P l o m = some (askM l o m) := by
  simp only [GiCanBegin.P, isTime_eq l hl, isOffice_eq, isMinute_eq, Option.bind_some, joinK, appK, iteK_if, askM]
  cases goodM l <;> cases inB o 0 9 <;> simp
theorem l9Asked_eq (l : List Mail) (hl : l.length ≤ 9223372036854775807) (o m : Int) : GsL9Asked.P l o m = some (askM l o m) := by
  simp only [GsL9Asked.P, l9Good_eq l hl, l9Office_eq, l9Minute_eq, Option.bind_some, joinK, appK, iteK_if, askM]
  cases goodM l <;> cases inB o 0 9 <;> simp
theorem m_ok {l : List Mail} (h : goodM l = true) {k : Nat} {x : Mail} (hx : l[k]? = some x) : okM x = true := riseL_ok h hx
theorem m_mem {l : List Mail} (h : goodM l = true) {x : Mail} (hx : x ∈ l) : okM x = true := riseL_mem h hx
theorem m_len {l : List Mail} (h : goodM l = true) : l.length ≤ 20 := riseL_len h
theorem m_leave {l : List Mail} (h : goodM l = true) {i j : Nat} {x y : Mail} (hij : i < j) (hx : l[i]? = some x) (hy : l[j]? = some y) : x.leave ≤ y.leave := by
  have := riseL_rel (fun a b => a.leave ≤ b.leave) (fun a b ha hb hlt => by
    have h1 := okM_of ha
    have h2 := okM_of hb
    have h3 := of_decide_eq_true hlt
    unfold codeM at h3
    omega) (fun a b c h1 h2 => Int.le_trans h1 h2) h hij hx hy
  exact this
theorem ask_of {l : List Mail} {o m : Int} (h : askM l o m = true) : goodM l = true ∧ (0 ≤ o ∧ o ≤ 9) ∧ (0 ≤ m ∧ m ≤ 9999) := by
  unfold askM at h
  simp only [Bool.and_eq_true] at h
  exact ⟨h.1.1, inB_of h.1.2, inB_of h.2⟩
end Go.Proofs.Ytgbcdmlcmnaimaa.Q9List

namespace Go.Proofs.Ytgbcdmlcmnaimaa.Q9Dual
open Go.RowKit
open Go.Proofs.Ytgbcdmlcmnaimaa.GoP Go.Proofs.Ytgbcdmlcmnaimaa.PlainStamp Go.Proofs.Ytgbcdmlcmnaimaa.QBase Go.Proofs.Ytgbcdmlcmnaimaa.Q9Arr Go.Proofs.Ytgbcdmlcmnaimaa.Q9List Go.Proofs.Ytgbcdmlcmnaimaa.Q9Mail Go.Proofs.Ytgbcdmlcmnaimaa.QLoop Go.Proofs.Ytgbcdmlcmnaimaa.PMail Go.Proofs.Ytgbcdmlcmnaimaa.PIntA10

/-- a mail that can be reached takes its minute on -/
def stepE (s : List Int) (x : Mail) : List Int := if at_ s x.from_ ≤ x.leave then s.set x.to_.toNat (min (at_ s x.to_) x.arrive) else s
def startE (o m : Int) : List Int := (List.replicate 10 10000).set o.toNat m
def earlyM (l : List Mail) (o m : Int) : List Int := l.foldl stepE (startE o m)
/-- a mail from whose end one still comes in time tells the minute at which it leaves -/
def stepL (x : Mail) (t : List Int) : List Int := if x.arrive ≤ at_ t x.to_ then t.set x.from_.toNat (max (at_ t x.from_) x.leave) else t
def startL (o m : Int) : List Int := (List.replicate 10 (-1)).set o.toNat m
def lateM (l : List Mail) (o m : Int) : List Int := l.foldr stepL (startL o m)
theorem stepE_len {s : List Int} {x : Mail} : (stepE s x).length = s.length := by unfold stepE; split <;> simp
theorem stepL_len {s : List Int} {x : Mail} : (stepL x s).length = s.length := by unfold stepL; split <;> simp
theorem foldE_len (l : List Mail) : ∀ {s : List Int}, (l.foldl stepE s).length = s.length := by
  induction l with
  | nil => intro s; rfl
  | cons x l ih => intro s; rw [List.foldl_cons, ih, stepE_len]
theorem foldL_len (l : List Mail) {t : List Int} : (l.foldr stepL t).length = t.length := by
  induction l with
  | nil => rfl
  | cons x l ih => rw [List.foldr_cons, stepL_len, ih]
theorem startE_len (o m : Int) : (startE o m).length = 10 := by simp [startE]
theorem startL_len (o m : Int) : (startL o m).length = 10 := by simp [startL]
theorem early_len (l : List Mail) (o m : Int) : (earlyM l o m).length = 10 := by unfold earlyM; rw [foldE_len, startE_len]
theorem late_len (l : List Mail) (o m : Int) : (lateM l o m).length = 10 := by unfold lateM; rw [foldL_len, startL_len]
theorem startE_at {o m i : Int} (ho : 0 ≤ o ∧ o ≤ 9) (hi : 0 ≤ i ∧ i ≤ 9) : at_ (startE o m) i = if i = o then m else 10000 := by
  unfold startE; rw [at_set (by simp) ho hi, at_rep hi]
theorem startL_at {o m i : Int} (ho : 0 ≤ o ∧ o ≤ 9) (hi : 0 ≤ i ∧ i ≤ 9) : at_ (startL o m) i = if i = o then m else -1 := by
  unfold startL; rw [at_set (by simp) ho hi, at_rep hi]
theorem stepE_at {s : List Int} {x : Mail} {i : Int} (hs : s.length = 10) (hx : okM x = true) (hi : 0 ≤ i ∧ i ≤ 9) : at_ (stepE s x) i = if at_ s x.from_ ≤ x.leave ∧ i = x.to_ then min (at_ s i) x.arrive else at_ s i := by
  unfold stepE
  by_cases h : at_ s x.from_ ≤ x.leave
  · rw [if_pos h, at_set hs (okM_of hx).2.1 hi]
    by_cases e : i = x.to_
    · rw [if_pos e, if_pos ⟨h, e⟩, e]
    · rw [if_neg e, if_neg (fun q => e q.2)]
  · rw [if_neg h, if_neg (fun q => h q.1)]
theorem stepL_at {t : List Int} {x : Mail} {i : Int} (hs : t.length = 10) (hx : okM x = true) (hi : 0 ≤ i ∧ i ≤ 9) : at_ (stepL x t) i = if x.arrive ≤ at_ t x.to_ ∧ i = x.from_ then max (at_ t i) x.leave else at_ t i := by
  unfold stepL
  by_cases h : x.arrive ≤ at_ t x.to_
  · rw [if_pos h, at_set hs (okM_of hx).1 hi]
    by_cases e : i = x.from_
    · rw [if_pos e, if_pos ⟨h, e⟩, e]
    · rw [if_neg e, if_neg (fun q => e q.2)]
  · rw [if_neg h, if_neg (fun q => h q.1)]
/-- at some office one is not later than one may be -/
def meets (s t : List Int) : Prop := ∃ i, (0 ≤ i ∧ i ≤ 9) ∧ at_ s i ≤ at_ t i
theorem meets_step {s t : List Int} {x : Mail} (hs : s.length = 10) (ht : t.length = 10) (hx : okM x = true) : meets (stepE s x) t ↔ meets s (stepL x t) := by
  have hm := okM_of hx
  constructor
  · rintro ⟨i, hi, h⟩
    rw [stepE_at hs hx hi] at h
    split at h
    · rename_i hc
      by_cases h1 : at_ s i ≤ at_ t i
      · refine ⟨i, hi, ?_⟩; rw [stepL_at ht hx hi]; split <;> omega
      · refine ⟨x.from_, hm.1, ?_⟩
        rw [stepL_at ht hx hm.1, if_pos ⟨by rw [← hc.2]; omega, rfl⟩]
        have := hc.1; omega
    · refine ⟨i, hi, ?_⟩; rw [stepL_at ht hx hi]; split <;> omega
  · rintro ⟨i, hi, h⟩
    rw [stepL_at ht hx hi] at h
    split at h
    · rename_i hc
      by_cases h1 : at_ s i ≤ at_ t i
      · refine ⟨i, hi, ?_⟩; rw [stepE_at hs hx hi]; split <;> omega
      · refine ⟨x.to_, hm.2.1, ?_⟩
        rw [stepE_at hs hx hm.2.1, if_pos ⟨by rw [← hc.2]; omega, rfl⟩]
        have := hc.1; omega
    · refine ⟨i, hi, ?_⟩; rw [stepE_at hs hx hi]; split <;> omega
theorem meets_all (l : List Mail) (hl : ∀ x ∈ l, okM x = true) : ∀ {s t : List Int}, s.length = 10 → t.length = 10 → (meets (l.foldl stepE s) t ↔ meets s (l.foldr stepL t)) := by
  induction l with
  | nil => intro s t _ _; exact Iff.rfl
  | cons x l ih =>
    intro s t hs ht
    rw [List.foldl_cons, List.foldr_cons, ih (fun y hy => hl y (List.mem_cons_of_mem _ hy)) (by rw [stepE_len, hs]) ht]
    exact meets_step hs (by rw [foldL_len, ht]) (hl x (List.mem_cons_self ..))
/-- no minute falls below the first, and none rises -/
theorem foldE_low (l : List Mail) (hl : ∀ x ∈ l, okM x = true) {m : Int} : ∀ {s : List Int}, s.length = 10 → (∀ i, 0 ≤ i ∧ i ≤ 9 → m ≤ at_ s i) → ∀ i, 0 ≤ i ∧ i ≤ 9 → m ≤ at_ (l.foldl stepE s) i := by
  induction l with
  | nil => intro s _ h; exact h
  | cons x l ih =>
    intro s hs h
    rw [List.foldl_cons]
    refine ih (fun y hy => hl y (List.mem_cons_of_mem _ hy)) (by rw [stepE_len, hs]) (fun i hi => ?_)
    have hx := hl x (List.mem_cons_self ..)
    have hm := okM_of hx
    rw [stepE_at hs hx hi]
    have h1 := h i hi
    have h2 := h x.from_ hm.1
    split <;> omega
theorem foldE_up (l : List Mail) (hl : ∀ x ∈ l, okM x = true) {i : Int} (hi : 0 ≤ i ∧ i ≤ 9) : ∀ {s : List Int}, s.length = 10 → at_ (l.foldl stepE s) i ≤ at_ s i := by
  induction l with
  | nil => intro s _; exact Int.le_refl _
  | cons x l ih =>
    intro s hs
    rw [List.foldl_cons]
    refine Int.le_trans (ih (fun y hy => hl y (List.mem_cons_of_mem _ hy)) (by rw [stepE_len, hs])) ?_
    rw [stepE_at hs (hl x (List.mem_cons_self ..)) hi]
    split <;> omega
theorem foldL_up (l : List Mail) (hl : ∀ x ∈ l, okM x = true) {i : Int} (hi : 0 ≤ i ∧ i ≤ 9) {t : List Int} (ht : t.length = 10) : at_ t i ≤ at_ (l.foldr stepL t) i := by
  induction l with
  | nil => exact Int.le_refl _
  | cons x l ih =>
    rw [List.foldr_cons, stepL_at (by rw [foldL_len, ht]) (hl x (List.mem_cons_self ..)) hi]
    have := ih (fun y hy => hl y (List.mem_cons_of_mem _ hy))
    split <;> omega
theorem foldL_top (l : List Mail) (hl : ∀ x ∈ l, okM x = true) {B : Int} (hB : ∀ x ∈ l, x.leave ≤ B) {i : Int} (hi : 0 ≤ i ∧ i ≤ 9) {t : List Int} (ht : t.length = 10) : at_ (l.foldr stepL t) i ≤ max (at_ t i) B := by
  induction l with
  | nil => simp only [List.foldr_nil]; omega
  | cons x l ih =>
    rw [List.foldr_cons, stepL_at (by rw [foldL_len, ht]) (hl x (List.mem_cons_self ..)) hi]
    have h1 := ih (fun y hy => hl y (List.mem_cons_of_mem _ hy)) (fun y hy => hB y (List.mem_cons_of_mem _ hy))
    have h2 := hB x (List.mem_cons_self ..)
    split <;> omega
theorem early_low {l : List Mail} (hg : goodM l = true) {o m i : Int} (ho : 0 ≤ o ∧ o ≤ 9) (hm : m ≤ 9999) (hi : 0 ≤ i ∧ i ≤ 9) : m ≤ at_ (earlyM l o m) i :=
  foldE_low l (fun x hx => m_mem hg hx) (startE_len o m) (fun j hj => by rw [startE_at ho hj]; split <;> omega) i hi
theorem early_up {l : List Mail} (hg : goodM l = true) {o m i : Int} (ho : 0 ≤ o ∧ o ≤ 9) (hi : 0 ≤ i ∧ i ≤ 9) : at_ (earlyM l o m) i ≤ if i = o then m else 10000 := by
  have := foldE_up l (fun x hx => m_mem hg hx) hi (startE_len o m)
  rw [startE_at ho hi] at this; exact this
theorem early_top {l : List Mail} (hg : goodM l = true) {o m i : Int} (ho : 0 ≤ o ∧ o ≤ 9) (hm : m ≤ 9999) (hi : 0 ≤ i ∧ i ≤ 9) : at_ (earlyM l o m) i ≤ 10000 := by
  have := early_up hg (m := m) ho hi
  split at this <;> omega
theorem late_top {l : List Mail} (hg : goodM l = true) {o m i : Int} (ho : 0 ≤ o ∧ o ≤ 9) (hm : m ≤ 9999) (hi : 0 ≤ i ∧ i ≤ 9) : at_ (lateM l o m) i ≤ 9999 := by
  have := foldL_top l (fun x hx => m_mem hg hx) (B := 9999) (fun x hx => by have := okM_of (m_mem hg hx); omega) hi (startL_len o m)
  rw [startL_at ho hi] at this
  unfold lateM; split at this <;> omega
/-- one comes in time exactly if one is not later than the latest minute -/
theorem dual {l : List Mail} (hg : goodM l = true) {o m p b : Int} (ho : 0 ≤ o ∧ o ≤ 9) (hp : 0 ≤ p ∧ p ≤ 9) (hm : 0 ≤ m ∧ m ≤ 9999) (hb : b ≤ 9999) : at_ (earlyM l o m) p ≤ b ↔ m ≤ at_ (lateM l p b) o := by
  have h := meets_all l (fun x hx => m_mem hg hx) (startE_len o m) (startL_len p b)
  constructor
  · intro h1
    obtain ⟨i, hi, h2⟩ := h.1 ⟨p, hp, by rw [startL_at hp hp, if_pos rfl]; exact h1⟩
    rw [startE_at ho hi] at h2
    split at h2
    · rename_i e; rw [e] at h2; exact h2
    · have := late_top hg hp hb hi
      unfold lateM at this; omega
  · intro h1
    obtain ⟨i, hi, h2⟩ := h.2 ⟨o, ho, by rw [startE_at ho ho, if_pos rfl]; exact h1⟩
    rw [startL_at hp hi] at h2
    split at h2
    · rename_i e; rw [e] at h2; exact h2
    · have := early_low hg ho hm.2 hi
      unfold earlyM at this; omega
end Go.Proofs.Ytgbcdmlcmnaimaa.Q9Dual

namespace Go.Proofs.Ytgbcdmlcmnaimaa.Q9Cand
open Go.RowKit
open Go.Proofs.Ytgbcdmlcmnaimaa.GoP Go.Proofs.Ytgbcdmlcmnaimaa.PlainStamp Go.Proofs.Ytgbcdmlcmnaimaa.QBase Go.Proofs.Ytgbcdmlcmnaimaa.Q9Dual Go.Proofs.Ytgbcdmlcmnaimaa.Q9Arr Go.Proofs.Ytgbcdmlcmnaimaa.Q9List Go.Proofs.Ytgbcdmlcmnaimaa.Q9Mail Go.Proofs.Ytgbcdmlcmnaimaa.QLoop Go.Proofs.Ytgbcdmlcmnaimaa.PMail Go.Proofs.Ytgbcdmlcmnaimaa.PIntA10

theorem split_at {l : List Mail} {k : Nat} {x : Mail} (h : l[k]? = some x) : l = l.take k ++ x :: l.drop (k + 1) := by
  obtain ⟨hk, e⟩ := List.getElem?_eq_some_iff.1 h
  rw [← e, ← List.drop_eq_getElem_cons hk, List.take_append_drop]
/-- those ahead of a mail leave no later -/
theorem aheadM {l : List Mail} (hg : goodM l = true) {k : Nat} {x : Mail} (hx : l[k]? = some x) : ∀ y ∈ l.take k, y.leave ≤ x.leave := by
  intro y hy
  obtain ⟨j, hj⟩ := List.getElem?_of_mem hy
  rw [List.getElem?_take] at hj
  split at hj
  · exact m_leave hg (by assumption) hj hx
  · exact absurd hj (by simp)
theorem late_cut {l : List Mail} {k : Nat} {x : Mail} (hx : l[k]? = some x) (p b : Int) : lateM l p b = (l.take k).foldr stepL (stepL x (lateM (l.drop (k + 1)) p b)) := by
  have h := split_at hx
  show l.foldr stepL (startL p b) = _
  conv => lhs; rw [h]
  rw [List.foldr_append, List.foldr_cons]; rfl
/-- whether one still comes in time behind a mail is told by those behind it alone -/
theorem late_behind {l : List Mail} (hg : goodM l = true) {k : Nat} {x : Mail} (hx : l[k]? = some x) (p b : Int) : x.arrive ≤ at_ (lateM l p b) x.to_ ↔ x.arrive ≤ at_ (lateM (l.drop (k + 1)) p b) x.to_ := by
  have hok := m_ok hg hx
  have hm := okM_of hok
  have hd := late_len (l.drop (k + 1)) p b
  have h1 : at_ (stepL x (lateM (l.drop (k + 1)) p b)) x.to_ = at_ (lateM (l.drop (k + 1)) p b) x.to_ := by
    rw [stepL_at hd hok hm.2.1, if_neg (fun q => hm.2.2.1 q.2.symm)]
  rw [late_cut hx p b]
  have hmem : ∀ y ∈ l.take k, okM y = true := fun y hy => m_mem hg (List.mem_of_mem_take hy)
  have h2 := foldL_up (l.take k) hmem hm.2.1 (t := stepL x (lateM (l.drop (k + 1)) p b)) (by rw [stepL_len, hd])
  have h3 := foldL_top (l.take k) hmem (aheadM hg hx) hm.2.1 (t := stepL x (lateM (l.drop (k + 1)) p b)) (by rw [stepL_len, hd])
  rw [h1] at h2 h3
  constructor
  · intro h; omega
  · intro h; omega
theorem late_from {l : List Mail} (hg : goodM l = true) {k : Nat} {x : Mail} (hx : l[k]? = some x) {p b : Int} (h : x.arrive ≤ at_ (lateM l p b) x.to_) : x.leave ≤ at_ (lateM l p b) x.from_ := by
  have hok := m_ok hg hx
  have hm := okM_of hok
  have hd := late_len (l.drop (k + 1)) p b
  have h1 := (late_behind hg hx p b).1 h
  rw [late_cut hx p b]
  have hmem : ∀ y ∈ l.take k, okM y = true := fun y hy => m_mem hg (List.mem_of_mem_take hy)
  refine Int.le_trans ?_ (foldL_up (l.take k) hmem hm.1 (by rw [stepL_len, hd]))
  rw [stepL_at hd hok hm.1, if_pos ⟨h1, rfl⟩]; omega
/-- with a mail one comes no earlier than without asking for it -/
theorem take_le {l : List Mail} (hg : goodM l = true) {k : Nat} {x : Mail} (hx : l[k]? = some x) {m p : Int} (hp : 0 ≤ p ∧ p ≤ 9) (hm : 0 ≤ m ∧ m ≤ x.leave) : at_ (earlyM l x.from_ m) p ≤ at_ (earlyM l x.to_ x.arrive) p := by
  have ho := okM_of (m_ok hg hx)
  obtain ⟨b, hb⟩ : ∃ b, b = at_ (earlyM l x.to_ x.arrive) p := ⟨_, rfl⟩
  rw [← hb]
  by_cases h : b ≤ 9999
  · have h1 := (dual hg ho.2.1 hp (by omega) h).1 (Int.le_of_eq hb.symm)
    have h2 := late_from hg hx h1
    exact (dual hg ho.1 hp (by omega) h).2 (by omega)
  · have := early_top hg (m := m) ho.1 (by omega) hp; omega
/-- where one may be later than at first, some mail leads on -/
theorem late_some (l : List Mail) (hl : ∀ x ∈ l, okM x = true) {p b o m : Int} (hp : 0 ≤ p ∧ p ≤ 9) (ho : 0 ≤ o ∧ o ≤ 9) (h0 : at_ (startL p b) o < m) (h : m ≤ at_ (lateM l p b) o) : ∃ x ∈ l, x.from_ = o ∧ m ≤ x.leave ∧ x.arrive ≤ at_ (lateM l p b) x.to_ := by
  induction l with
  | nil => exact absurd h (by simp only [lateM, List.foldr_nil]; omega)
  | cons x l ih =>
    have hok := hl x (List.mem_cons_self ..)
    have hm := okM_of hok
    have hlen := late_len l p b
    have e : lateM (x :: l) p b = stepL x (lateM l p b) := rfl
    by_cases h1 : m ≤ at_ (lateM l p b) o
    · obtain ⟨y, hy, h2, h3, h4⟩ := ih (fun y hy => hl y (List.mem_cons_of_mem _ hy)) h1
      refine ⟨y, List.mem_cons_of_mem _ hy, h2, h3, Int.le_trans h4 ?_⟩
      rw [e, stepL_at hlen hok (okM_of (hl y (List.mem_cons_of_mem _ hy))).2.1]
      split <;> omega
    · rw [e, stepL_at hlen hok ho] at h
      split at h
      · rename_i hc
        refine ⟨x, List.mem_cons_self .., hc.2.symm, by omega, ?_⟩
        rw [e, stepL_at hlen hok hm.2.1, if_neg (fun q => hm.2.2.1 q.2.symm)]
        exact hc.1
      · exact absurd h h1
/-- a mail that leads on from an office at a minute -/
def cand (l : List Mail) (p e o m : Int) (x : Mail) : Bool := decide (x.from_ = o ∧ m ≤ x.leave ∧ x.arrive ≤ at_ (lateM l p e) x.to_)
theorem cand_iff {l : List Mail} (hg : goodM l = true) {p e o m : Int} (hp : 0 ≤ p ∧ p ≤ 9) (hm : 0 ≤ m) (he : e ≤ 9999) (hE : at_ (earlyM l o m) p = e) {k : Nat} {x : Mail} (hx : l[k]? = some x) :
    cand l p e o m x = decide (x.from_ = o ∧ m ≤ x.leave ∧ at_ (earlyM l x.to_ x.arrive) p = e) := by
  have h1 := okM_of (m_ok hg hx)
  unfold cand
  congr 1
  rw [eq_iff_iff]
  constructor
  · rintro ⟨rfl, h3, h4⟩
    have h5 := (dual hg h1.2.1 hp (by omega) he).2 h4
    have h6 := take_le hg hx hp ⟨hm, h3⟩
    exact ⟨rfl, h3, by omega⟩
  · rintro ⟨h2, h3, h4⟩
    exact ⟨h2, h3, (dual hg h1.2.1 hp (by omega) he).1 (Int.le_of_eq h4)⟩
theorem cand_none {l : List Mail} (hg : goodM l = true) {p e o m : Int} (hp : 0 ≤ p ∧ p ≤ 9) (ho : 0 ≤ o ∧ o ≤ 9) (hm : 0 ≤ m) (he : e ≤ 9999) (hE : at_ (earlyM l o m) p = e) (hm9 : m ≤ 9999) :
    (∀ x ∈ l, cand l p e o m x = false) ↔ o = p ∧ m = e := by
  constructor
  · intro h
    have h1 := (dual hg ho hp ⟨hm, hm9⟩ he).1 (Int.le_of_eq hE)
    have hup := early_up hg (m := m) ho hp
    have hlow := early_low hg ho hm9 hp
    by_cases hop : o = p
    · rw [if_pos hop.symm] at hup; exact ⟨hop, by omega⟩
    · obtain ⟨x, hx, h2, h3, h4⟩ := late_some l (fun x hx => m_mem hg hx) hp ho (m := m) (by rw [startL_at hp ho, if_neg hop]; omega) h1
      have := h x hx
      unfold cand at this
      rw [decide_eq_true (show x.from_ = o ∧ m ≤ x.leave ∧ x.arrive ≤ at_ (lateM l p e) x.to_ from ⟨h2, h3, h4⟩)] at this
      exact absurd this (by simp)
  · rintro ⟨rfl, rfl⟩ x hx
    obtain ⟨k, hk⟩ := List.getElem?_of_mem hx
    have h1 := okM_of (m_mem hg hx)
    rw [cand_iff hg hp hm he hE hk, decide_eq_false]
    rintro ⟨h2, h3, h4⟩
    have := early_low hg h1.2.1 (m := x.arrive) (by omega) hp
    omega
end Go.Proofs.Ytgbcdmlcmnaimaa.Q9Cand

namespace Go.Proofs.Ytgbcdmlcmnaimaa.Q9Late
open Go.RowKit
open Go.Proofs.Ytgbcdmlcmnaimaa.GoP Go.Proofs.Ytgbcdmlcmnaimaa.PlainStamp Go.Proofs.Ytgbcdmlcmnaimaa.QBase Go.Proofs.Ytgbcdmlcmnaimaa.QFoldS Go.Proofs.Ytgbcdmlcmnaimaa.Q9Cand Go.Proofs.Ytgbcdmlcmnaimaa.Q9Dual Go.Proofs.Ytgbcdmlcmnaimaa.Q9Arr Go.Proofs.Ytgbcdmlcmnaimaa.Q9List Go.Proofs.Ytgbcdmlcmnaimaa.Q9Mail Go.Proofs.Ytgbcdmlcmnaimaa.QUp Go.Proofs.Ytgbcdmlcmnaimaa.QAll Go.Proofs.Ytgbcdmlcmnaimaa.QLoop Go.Proofs.Ytgbcdmlcmnaimaa.PMail Go.Proofs.Ytgbcdmlcmnaimaa.PIntA10 Go.Proofs.Ytgbcdmlcmnaimaa.GoA

theorem latest_eq {fuel : Nat} {l : List Mail} (hg : goodM l = true) {p : Int} (hp : 0 ≤ p ∧ p ≤ 9) (b : Int) (hf : 20 < fuel) : GiLatestMinutes.P fuel l p b = some (toA (lateM l p b)) := by
  have hlen := m_len hg
  simp only [GiLatestMinutes.P, filled_eq, Option.bind_some, un_eq, letK]
  rw [ten (by simp), idx_at (by simp) hp, Option.bind_some, wrap_in (by omega) (by omega)]
  refine lp_is (n := l.length) _ (fun k (s : List Int × Int) => s = (lateM (l.drop (l.length - k)) p b, (l.length : Int) - 1 - (k : Int))) ?_ ?_ fuel 0 _ (by omega) (by omega) ?_
  · intro k s nx hk hI hn
    subst hI
    have hq : l.length - k - 1 < l.length := by omega
    have hx : l[l.length - k - 1]? = some l[l.length - k - 1] := List.getElem?_eq_getElem hq
    have hi : idx l ((l.length : Int) - 1 - (k : Int)) = some l[l.length - k - 1] := by
      rw [show (l.length : Int) - 1 - (k : Int) = ((l.length - k - 1 : Nat) : Int) by omega, idx_nat, hx]
    have hd : lateM (l.drop (l.length - (k + 1))) p b = stepL l[l.length - k - 1] (lateM (l.drop (l.length - k)) p b) := by
      unfold lateM
      rw [show l.length - (k + 1) = l.length - k - 1 by omega, List.drop_eq_getElem_cons hq, List.foldr_cons, show l.length - k - 1 + 1 = l.length - k by omega]
    have hok := okM_of (m_ok hg hx)
    have h0 : (0 : Int) ≤ (l.length : Int) - 1 - (k : Int) := by omega
    simp only [GiLatestMinutes.l0, unp2_mk, letK, decide_eq_true h0, iteK_if, if_true, hi, Option.bind_some]
    have hn2 := hn (stepL l[l.length - k - 1] (lateM (l.drop (l.length - k)) p b), (l.length : Int) - 1 - (k : Int) - 1) (by rw [hd]; congr 1; omega)
    revert hok hn2
    generalize l[l.length - k - 1] = x
    intro hok hn2
    obtain ⟨c, d, e, g⟩ := x
    dsimp only at hok
    simp only [unMail, idx_at (late_len _ p b) hok.2.1, idx_at (late_len _ p b) hok.1, Option.bind_some]
    rw [wrap_in (by omega) (by omega)]
    unfold stepL at hn2
    dsimp only at hn2
    by_cases h : g ≤ at_ (lateM (l.drop (l.length - k)) p b) e
    · rw [if_pos h] at hn2; rw [if_pos (by simpa using h)]; exact hn2
    · rw [if_neg h] at hn2; rw [if_neg (by simpa using h)]; exact hn2
  · intro s nx hI
    subst hI
    have h0 : ¬ (0 : Int) ≤ (l.length : Int) - 1 - (l.length : Int) := by omega
    simp only [GiLatestMinutes.l0, unp2_mk, letK, decide_eq_false h0, iteK_if, Bool.false_eq_true, if_false, appK, GiLatestMinutes.e0, Nat.sub_self, List.drop_zero]
    rfl
  · simp [lateM]; rfl
end Go.Proofs.Ytgbcdmlcmnaimaa.Q9Late

namespace Go.Proofs.Ytgbcdmlcmnaimaa.Q9Early
open Go.RowKit
open Go.Proofs.Ytgbcdmlcmnaimaa.GoP Go.Proofs.Ytgbcdmlcmnaimaa.PlainStamp Go.Proofs.Ytgbcdmlcmnaimaa.QBase Go.Proofs.Ytgbcdmlcmnaimaa.QFoldS Go.Proofs.Ytgbcdmlcmnaimaa.Q9Dual Go.Proofs.Ytgbcdmlcmnaimaa.Q9Arr Go.Proofs.Ytgbcdmlcmnaimaa.Q9List Go.Proofs.Ytgbcdmlcmnaimaa.Q9Mail Go.Proofs.Ytgbcdmlcmnaimaa.QLoop Go.Proofs.Ytgbcdmlcmnaimaa.PMail Go.Proofs.Ytgbcdmlcmnaimaa.PIntA10 Go.Proofs.Ytgbcdmlcmnaimaa.GoA

theorem least_eq (a b : Int) : GsL1Least.P a b = some (min a b) := by
  simp only [GsL1Least.P, letK, iteK_if]
  by_cases h : a < b
  · rw [if_pos (by simpa using h)]; congr 1; omega
  · rw [if_neg (by simpa using h)]; congr 1; omega
theorem earliest_eq {l : List Mail} (hg : goodM l = true) {o : Int} (ho : 0 ≤ o ∧ o ≤ 9) (m : Int) : GiEarliestMinutes.P l o m = some (toA (earlyM l o m)) := by
  simp only [GiEarliestMinutes.P, filled_eq, Option.bind_some, un_eq, letK]
  rw [ten (by simp), idx_at (by simp) ho, Option.bind_some, fold_cnt (g := stepE) (J := fun s => s.length = 10)]
  · rfl
  · intro k x s nx hx hs
    have hk : idx l (k : Int) = some x := by rw [idx_nat, hx]
    have hm := okM_of (m_ok hg hx)
    obtain ⟨a, b, c, d⟩ := x
    dsimp only at hm
    refine ⟨?_, by rw [stepE_len, hs]⟩
    simp only [GiEarliestMinutes.l0, letK, hk, Option.bind_some, unMail, idx_at hs hm.1, iteK_if, stepE]
    by_cases h : at_ s b ≤ a
    · simp [h, idx_at hs hm.2.1, appK]
    · simp [h, appK]
  · simp
theorem times_eq {l : List Mail} (hg : goodM l = true) {o : Int} (ho : 0 ≤ o ∧ o ≤ 9) (m : Int) : GsL9Times.P l o m = some (earlyM l o m) := by
  simp only [GsL9Times.P, letK]
  rw [guardK_pos (by omega)]
  have h10 : cntK GsL9Times.l0 (List.replicate 10 (0 : Int)).length 0 (List.replicate 10 (0 : Int)) (GsL9Times.e0 l o m) = GsL9Times.e0 l o m (List.replicate 10 10000) := rfl
  rw [h10]
  simp only [GsL9Times.e0, letK]
  rw [idx_at (by simp) ho, Option.bind_some, fold_cnt (g := stepE) (J := fun s => s.length = 10)]
  · rfl
  · intro k x s nx hx hs
    have hk : idx l (k : Int) = some x := by rw [idx_nat, hx]
    have hm := okM_of (m_ok hg hx)
    obtain ⟨a, b, c, d⟩ := x
    dsimp only at hm
    refine ⟨?_, by rw [stepE_len, hs]⟩
    simp only [GsL9Times.l1, letK, hk, Option.bind_some, unMail, idx_at hs hm.1, iteK_if, stepE]
    by_cases h : at_ s b ≤ a
    · simp [h, idx_at hs hm.2.1, appK, least_eq]
    · simp [h, appK]
  · simp
end Go.Proofs.Ytgbcdmlcmnaimaa.Q9Early

namespace Go.Proofs.Ytgbcdmlcmnaimaa.QFold
open Go.RowKit
open Go.Proofs.Ytgbcdmlcmnaimaa.GoP Go.Proofs.Ytgbcdmlcmnaimaa.PlainStamp Go.Proofs.Ytgbcdmlcmnaimaa.QBase Go.Proofs.Ytgbcdmlcmnaimaa.QLoop

theorem find_val {α R : Type} {l : List α} {p : α → Bool} {f : Nat → Unit → (Unit → Option R) → (Unit → Option R) → Option R} {fin : Unit → Option R} {yes : α → Option R}
    (step : ∀ k nx x, l[k]? = some x → f k () nx fin = if p x = true then yes x else nx ()) : cntK f l.length 0 () fin = match l.find? p with | some x => yes x | none => fin () := by
  have key : ∀ m k, k + m = l.length → cntK f m k () fin = match (l.drop k).find? p with | some x => yes x | none => fin () := by
    intro m
    induction m with
    | zero => intro k hk; rw [List.drop_of_length_le (by omega)]; rfl
    | succ m ih =>
      intro k hk
      obtain ⟨x, hx, _⟩ := at_lt (l := l) (k := k) (by omega)
      obtain ⟨hlt, e⟩ := List.getElem?_eq_some_iff.1 hx
      show f k () _ fin = _
      rw [step k _ x hx, List.drop_eq_getElem_cons hlt, e, List.find?_cons]
      cases hp : p x with
      | true => simp
      | false => simp only [Bool.false_eq_true, if_false]; exact ih (k + 1) (by omega)
  exact key l.length 0 (by omega)
end Go.Proofs.Ytgbcdmlcmnaimaa.QFold

namespace Go.Proofs.Ytgbcdmlcmnaimaa.Q8List
open Go.RowKit
open Go.Proofs.Ytgbcdmlcmnaimaa.GoP Go.Proofs.Ytgbcdmlcmnaimaa.PlainStamp Go.Proofs.Ytgbcdmlcmnaimaa.QBase Go.Proofs.Ytgbcdmlcmnaimaa.QRiseL Go.Proofs.Ytgbcdmlcmnaimaa.QOrd Go.Proofs.Ytgbcdmlcmnaimaa.Q8Rate Go.Proofs.Ytgbcdmlcmnaimaa.QLoop Go.Proofs.Ytgbcdmlcmnaimaa.PRate

def okRs (l : List Rate) : Bool := riseL 16 okR linkR l
theorem areRates_eq (l : List Rate) (hl : l.length ≤ 9223372036854775807) : GiAreRates.P l = some (okRs l) := by
  simp only [GiAreRates.P, letK, iteK_if]
  by_cases h12 : l.length ≤ 16
  · rw [if_neg (by simp; omega), rise_loop (ok := okR) (lt := linkR) (no := false)]
    · unfold okRs riseL; cases riseTo okR linkR l l.length <;> simp [h12, GiAreRates.e0]
    · intro k nx s hs
      have hi : idx l (k : Int) = some s := by rw [idx_nat, hs]
      have hk : k < l.length := (List.getElem?_eq_some_iff.1 hs).1
      simp only [GiAreRates.l0, hi, Option.bind_some, unRate, isRate_eq, letK, joinK, appK, iteK_if]
      refine ⟨fun h => by simp [h], fun h => ⟨fun h0 => by subst h0; simp [h], fun h0 r hr => ?_⟩⟩
      rw [idx_pred h0 (by omega) hr]
      have hk0 : (0 : Int) < (k : Int) := by omega
      have hk1 : ¬ k = 0 := by omega
      exact ⟨fun hlt => by simp [h, hk0, hk1, canFollow_eq, hlt], fun hge => by simp [h, hk0, hk1, canFollow_eq, hge]⟩
  · rw [if_pos (by simp; omega)]; unfold okRs riseL; simp [h12]
theorem l8Good_eq {fuel : Nat} (l : List Rate) (hl : l.length ≤ 9223372036854775807) (hf : 17 < fuel) : GsL8Good.P fuel l = some (okRs l) := by
  simp only [GsL8Good.P]
  have key := rise_lp (ok := okR) (lt := linkR) (l := l) (m := 16) (no := false) (yes := some true) (f := GsL8Good.l0 l) (fin := GsL8Good.e0 l) ?_ ?_ ?_ fuel 0 (by omega) (by omega) (by omega) rfl
  · rw [show ((0 : Nat) : Int) = 0 from rfl] at key
    rw [key]; unfold okRs; cases riseL 16 okR linkR l <;> rfl
  · intro k nx hs h1 h2
    simp only [GsL8Good.l0, letK, joinK, appK, iteK_if]
    by_cases hk : l.length ≤ k
    · have : ¬ ((k : Int) < (l.length : Int)) := by omega
      simp [this]
    · have h3 : ((k : Int) < (l.length : Int)) := by omega
      have h4 : ¬ ((k : Int) ≤ 16) := by omega
      simp [h3, h4]
  · intro k
    simp only [GsL8Good.e0, letK]
    by_cases h : l.length ≤ 16
    · rw [if_pos h]; simp; omega
    · rw [if_neg h]; simp; omega
  · intro k nx s hk16 hs
    have hi : idx l (k : Int) = some s := by rw [idx_nat, hs]
    have hk : k < l.length := (List.getElem?_eq_some_iff.1 hs).1
    have h1 : ((k : Int) < (l.length : Int)) := by omega
    have h2 : (k : Int) ≤ 16 := by omega
    have hw : IntKind.i64.wrap ((k : Int) + 1) = ((k + 1 : Nat) : Int) := by rw [wrap_in (by omega) (by omega)]; omega
    simp only [GsL8Good.l0, letK, joinK, appK, iteK_if, decide_eq_true h1, decide_eq_true h2, if_true, hi, Option.bind_some, unRate, l8One_eq, hw]
    refine ⟨fun h => by simp [h], fun h => ⟨fun h0 => by subst h0; simp [h], fun h0 r hr hokr => ?_⟩⟩
    rw [idx_pred h0 (by omega) hr]
    have hk0 : (0 : Int) < (k : Int) := by omega
    have hk1 : ¬ k = 0 := by omega
    simp only [Option.bind_some, l8Code_eq h, l8Code_eq hokr, link_code hokr h]
    have he : ∀ x : Rate, Rate.mk x.zone x.grams x.from_ x.until_ x.cents = x := fun x => rfl
    simp only [h, decide_eq_true hk0, Bool.not_true, Bool.false_eq_true, if_false, if_true]
    constructor
    · intro hlt
      simp only [Bool.and_eq_true, decide_eq_true_eq, Bool.not_eq_true'] at hlt
      obtain ⟨c1, c2⟩ := hlt
      have : ¬ (codeR s ≤ codeR r) := by omega
      by_cases e1 : r.zone = s.zone
      · by_cases e2 : r.grams = s.grams
        · have e3 : ¬ (s.from_ ≤ r.until_) := by simpa [e1, e2] using c2
          simp [this, e1, e2, e3]
        · simp [this, e1, e2]
      · simp [this, e1]
    · intro hge
      by_cases c1 : codeR r < codeR s
      · have : ¬ (codeR s ≤ codeR r) := by omega
        simp only [decide_eq_true c1, Bool.true_and, Bool.not_eq_false', Bool.and_eq_true, decide_eq_true_eq] at hge
        simp [this, hge.1.1, hge.1.2, hge.2]
      · have : codeR s ≤ codeR r := by omega
        simp [this]
theorem rs_mem {l : List Rate} (h : okRs l = true) {x : Rate} (hx : x ∈ l) : okR x = true := riseL_mem h hx
end Go.Proofs.Ytgbcdmlcmnaimaa.Q8List

namespace Go.Proofs.Ytgbcdmlcmnaimaa.Q8For
open Go.RowKit
open Go.Proofs.Ytgbcdmlcmnaimaa.GoP Go.Proofs.Ytgbcdmlcmnaimaa.PlainStamp Go.Proofs.Ytgbcdmlcmnaimaa.QBase Go.Proofs.Ytgbcdmlcmnaimaa.QFold Go.Proofs.Ytgbcdmlcmnaimaa.QRiseL Go.Proofs.Ytgbcdmlcmnaimaa.QOrd Go.Proofs.Ytgbcdmlcmnaimaa.Q8List Go.Proofs.Ytgbcdmlcmnaimaa.Q8Rate Go.Proofs.Ytgbcdmlcmnaimaa.QLoop Go.Proofs.Ytgbcdmlcmnaimaa.PRate

def onB (day zone grams : Int) (r : Rate) : Bool := decide (r.zone = zone) && decide (grams ≤ r.grams) && inB day r.from_ r.until_
def rateV (l : List Rate) (day zone grams : Int) : Int := match l.find? (onB day zone grams) with | some r => r.cents | none => 0
theorem rateOn_eq (l : List Rate) (day zone grams : Int) : GiRateOn.P l day zone grams = some (rateV l day zone grams) := by
  simp only [GiRateOn.P]
  rw [find_val (p := onB day zone grams) (yes := fun x => some x.cents)]
  · unfold rateV; cases l.find? (onB day zone grams) <;> rfl
  · intro k nx x hx
    have hi : idx l (k : Int) = some x := by rw [idx_nat, hx]
    simp only [GiRateOn.l0, hi, Option.bind_some, unRate, within_eq, letK, joinK, appK, iteK_if, onB]
    by_cases h1 : x.zone = zone <;> by_cases h2 : grams ≤ x.grams <;> simp [h1, h2]
theorem l8For_eq (l : List Rate) (day zone grams : Int) : GsL8For.P l day zone grams = some (rateV l day zone grams) := by
  simp only [GsL8For.P]
  rw [find_val (p := onB day zone grams) (yes := fun x => some x.cents)]
  · unfold rateV; cases l.find? (onB day zone grams) <;> rfl
  · intro k nx x hx
    have hi : idx l (k : Int) = some x := by rw [idx_nat, hx]
    simp only [GsL8For.l0, hi, Option.bind_some, unRate, l1In_eq, letK, joinK, appK, iteK_if, onB]
    by_cases h1 : x.zone = zone <;> by_cases h2 : grams ≤ x.grams <;> simp [h1, h2]
theorem rateV_nonneg {l : List Rate} (h : okRs l = true) (day zone grams : Int) : 0 ≤ rateV l day zone grams := by
  unfold rateV
  cases hf : l.find? (onB day zone grams) with
  | none => exact Int.le_refl _
  | some r => have := okR_of (rs_mem h (List.mem_of_find?_eq_some hf)); dsimp only; omega
end Go.Proofs.Ytgbcdmlcmnaimaa.Q8For

namespace Go.Proofs.Ytgbcdmlcmnaimaa.Q10Fault
open Go.RowKit
open Go.Proofs.Ytgbcdmlcmnaimaa.GoP Go.Proofs.Ytgbcdmlcmnaimaa.PlainStamp Go.Proofs.Ytgbcdmlcmnaimaa.QBase Go.Proofs.Ytgbcdmlcmnaimaa.Q10Cover Go.Proofs.Ytgbcdmlcmnaimaa.Q8For Go.Proofs.Ytgbcdmlcmnaimaa.Q8List Go.Proofs.Ytgbcdmlcmnaimaa.Q8Rate Go.Proofs.Ytgbcdmlcmnaimaa.Q9Early Go.Proofs.Ytgbcdmlcmnaimaa.Q9Dual Go.Proofs.Ytgbcdmlcmnaimaa.Q9Arr Go.Proofs.Ytgbcdmlcmnaimaa.Q9List Go.Proofs.Ytgbcdmlcmnaimaa.QLoop Go.Proofs.Ytgbcdmlcmnaimaa.PCover Go.Proofs.Ytgbcdmlcmnaimaa.PRate Go.Proofs.Ytgbcdmlcmnaimaa.PMail Go.Proofs.Ytgbcdmlcmnaimaa.PIntA10

def endV (ms : List Mail) (x : Cover) : Int := at_ (earlyM ms x.from_ x.leave) x.to_
def rateC (rs : List Rate) (x : Cover) : Int := rateV rs x.day x.zone x.grams
def faultV (rs : List Rate) (ms : List Mail) (x : Cover) : Int :=
  if rateC rs x = 0 then 1 else if x.paid < rateC rs x then 2 else if 2 * rateC rs x < x.paid then 3 else if endV ms x = 10000 then 4 else if x.arrive < endV ms x then 5 else 0
theorem fault_range (rs : List Rate) (ms : List Mail) (x : Cover) : 0 ≤ faultV rs ms x ∧ faultV rs ms x ≤ 5 := by
  unfold faultV; repeat' split
  all_goals omega
theorem rateC_le {rs : List Rate} (h : okRs rs = true) (x : Cover) : 0 ≤ rateC rs x ∧ rateC rs x ≤ 9999 := by
  refine ⟨rateV_nonneg h _ _ _, ?_⟩
  unfold rateC rateV
  cases hf : rs.find? (onB x.day x.zone x.grams) with
  | none => simp
  | some r => have := okR_of (rs_mem h (List.mem_of_find?_eq_some hf)); dsimp only; omega
theorem fault_impl {rs : List Rate} {ms : List Mail} {x : Cover} (hr : okRs rs = true) (hm : goodM ms = true) (hx : okC x = true) : GiFaultOn.P rs ms x = some (faultV rs ms x) := by
  have hc := okC_of hx
  have hrt := rateC_le hr x
  have he : GiEarliestEnd.P ms x = some (endV ms x) := by
    obtain ⟨a, b, c, d, e, f, g, h, i⟩ := x
    dsimp only at hc
    simp only [GiEarliestEnd.P, unCover, earliest_eq hm hc.2.2.2.1, Option.bind_some, un_eq, letK, ten (early_len ms f h), idx_at (early_len ms f h) hc.2.2.2.2.1, endV]
  have ht : GiRateOfCover.P rs x = some (rateC rs x) := by
    obtain ⟨a, b, c, d, e, f, g, h, i⟩ := x
    simp only [GiRateOfCover.P, unCover, rateOn_eq, Option.bind_some, letK, rateC]
  obtain ⟨a, b, c, d, e, f, g, h, i⟩ := x
  dsimp only at hc
  simp only [GiFaultOn.P, unCover, he, ht, Option.bind_some, letK, joinK, appK, iteK_if, faultV]
  rw [wrap_in (by omega) (by omega)]
  simp only [decide_eq_true_eq, beq_iff_eq]
  simp only [apply_ite some]
theorem fault_spec {rs : List Rate} {ms : List Mail} {x : Cover} (hr : okRs rs = true) (hm : goodM ms = true) (hx : okC x = true) : GsL10Fault.P rs ms x = some (faultV rs ms x) := by
  have hc := okC_of hx
  have hrt := rateC_le hr x
  have e1 : GsL8For.P rs x.day x.zone x.grams = some (rateC rs x) := l8For_eq _ _ _ _
  have e2 : idx (earlyM ms x.from_ x.leave) x.to_ = some (endV ms x) := idx_at (early_len ms _ _) hc.2.2.2.2.1
  have e3 := times_eq hm hc.2.2.2.1 x.leave
  obtain ⟨a, b, c, d, e, f, g, h, i⟩ := x
  dsimp only at hc e1 e2 e3
  simp only [GsL10Fault.P, unCover, e1, e2, e3, Option.bind_some, letK, joinK, appK, iteK_if, faultV]
  rw [wrap_in (by omega) (by omega)]
  simp only [decide_eq_true_eq, beq_iff_eq]
  simp only [apply_ite some]
end Go.Proofs.Ytgbcdmlcmnaimaa.Q10Fault

namespace Go.Proofs.Ytgbcdmlcmnaimaa.Q9At
open Go.RowKit
open Go.Proofs.Ytgbcdmlcmnaimaa.GoP Go.Proofs.Ytgbcdmlcmnaimaa.PlainStamp Go.Proofs.Ytgbcdmlcmnaimaa.QBase Go.Proofs.Ytgbcdmlcmnaimaa.Q9Early Go.Proofs.Ytgbcdmlcmnaimaa.Q9Dual Go.Proofs.Ytgbcdmlcmnaimaa.Q9Arr Go.Proofs.Ytgbcdmlcmnaimaa.Q9List Go.Proofs.Ytgbcdmlcmnaimaa.Q9Mail Go.Proofs.Ytgbcdmlcmnaimaa.QLoop Go.Proofs.Ytgbcdmlcmnaimaa.PMail Go.Proofs.Ytgbcdmlcmnaimaa.PIntA10

def atRes (l : List Mail) (o m p : Int) : Int × Bool := if askM l o m = true ∧ inB p 0 9 = true ∧ at_ (earlyM l o m) p ≠ 10000 then (at_ (earlyM l o m) p, true) else (0, false)
theorem at_impl (l : List Mail) (hl : l.length ≤ 9223372036854775807) (o m p : Int) : GiEarliestAt.P l o m p = some (atRes l o m p) := by
  simp only [GiEarliestAt.P, canBegin_eq l hl, isOffice_eq, Option.bind_some, letK, joinK, appK, iteK_if, atRes]
  cases ha : askM l o m with
  | false => simp
  | true =>
    obtain ⟨hg, ho, hm⟩ := ask_of ha
    cases hp : inB p 0 9 with
    | false => simp
    | true =>
      have hp2 := inB_of hp
      simp only [Bool.not_true, Bool.false_eq_true, if_false, earliest_eq hg ho, Option.bind_some, un_eq, ten (early_len l o m), idx_at (early_len l o m) hp2]
      by_cases h : at_ (earlyM l o m) p = 10000 <;> simp [h]
theorem at_spec (l : List Mail) (hl : l.length ≤ 9223372036854775807) (o m p : Int) : GsEarliestAt.P l o m p = some (atRes l o m p) := by
  simp only [GsEarliestAt.P, l9Asked_eq l hl, l9Office_eq, Option.bind_some, letK, joinK, appK, iteK_if, atRes]
  cases ha : askM l o m with
  | false => simp
  | true =>
    obtain ⟨hg, ho, hm⟩ := ask_of ha
    cases hp : inB p 0 9 with
    | false => simp
    | true =>
      have hp2 := inB_of hp
      simp only [Bool.not_true, Bool.false_eq_true, if_false, times_eq hg ho, Option.bind_some, idx_at (early_len l o m) hp2]
      by_cases h : at_ (earlyM l o m) p = 10000 <;> simp [h]
end Go.Proofs.Ytgbcdmlcmnaimaa.Q9At

namespace Go.Proofs.Ytgbcdmlcmnaimaa.Q9Drop
open Go.RowKit
open Go.Proofs.Ytgbcdmlcmnaimaa.GoP Go.Proofs.Ytgbcdmlcmnaimaa.PlainStamp Go.Proofs.Ytgbcdmlcmnaimaa.QBase Go.Proofs.Ytgbcdmlcmnaimaa.QLoop

/-- a counted loop through a list, by what is still to come -/
theorem cnt_drop {α σ ρ : Type} {l : List α} {f : Nat → σ → (σ → Option ρ) → (σ → Option ρ) → Option ρ} {fin : σ → Option ρ} (F : List α → σ → Option ρ) (nil : ∀ s, F [] s = fin s)
    (cons : ∀ k x s nx, l[k]? = some x → (∀ s', nx s' = F (l.drop (k + 1)) s') → f k s nx fin = F (x :: l.drop (k + 1)) s) (s : σ) : cntK f l.length 0 s fin = F l s := by
  have key : ∀ m k s, k + m = l.length → cntK f m k s fin = F (l.drop k) s := by
    intro m
    induction m with
    | zero => intro k s hk; rw [List.drop_eq_nil_of_le (by omega), nil]; rfl
    | succ m ih =>
      intro k s hk
      have hlt : k < l.length := by omega
      have hd : l.drop k = l[k] :: l.drop (k + 1) := List.drop_eq_getElem_cons hlt
      rw [hd]
      exact cons k l[k] s _ (List.getElem?_eq_getElem hlt) (fun s' => ih (k + 1) s' (by omega))
  exact key l.length 0 s (by omega)
/-- the first place that is good, or none -/
theorem first_or (p : Nat → Bool) (n : Nat) : (∀ k, k < n → p k = false) ∨ ∃ k, k < n ∧ p k = true ∧ ∀ j, j < k → p j = false := by
  induction n with
  | zero => exact Or.inl (fun k h => by omega)
  | succ n ih =>
    rcases ih with h | ⟨k, h1, h2, h3⟩
    · cases hp : p n with
      | true => exact Or.inr ⟨n, by omega, hp, h⟩
      | false => exact Or.inl (fun k hk => by by_cases he : k = n; · rw [he]; exact hp
                                              · exact h k (by omega))
    · exact Or.inr ⟨k, by omega, h2, h3⟩
theorem cnt_none {σ ρ : Type} {f : Nat → σ → (σ → Option ρ) → (σ → Option ρ) → Option ρ} {fin : σ → Option ρ} {n : Nat} {s : σ} {p : Nat → Bool} (step : ∀ k nx, k < n → p k = false → f k s nx fin = nx s) (h : ∀ k, k < n → p k = false) : cntK f n 0 s fin = fin s := by
  have key : ∀ m k, k + m = n → cntK f m k s fin = fin s := by
    intro m
    induction m with
    | zero => intro k hk; rfl
    | succ m ih => intro k hk; show f k s _ fin = _; rw [step k _ (by omega) (h k (by omega))]; exact ih (k + 1) (by omega)
  exact key n 0 (by omega)
theorem cnt_first {σ ρ : Type} {f : Nat → σ → (σ → Option ρ) → (σ → Option ρ) → Option ρ} {fin : σ → Option ρ} {n : Nat} {s : σ} {p : Nat → Bool} {j : Nat} {r : Option ρ} (hj : j < n) (step : ∀ k nx, k < j → p k = false → f k s nx fin = nx s) (h : ∀ k, k < j → p k = false) (yes : ∀ nx, f j s nx fin = r) : cntK f n 0 s fin = r := by
  have key : ∀ d m k, k + d = j → k + m = n → cntK f m k s fin = r := by
    intro d
    induction d with
    | zero => intro m k hk hm
              obtain ⟨m, rfl⟩ : ∃ q, m = q + 1 := ⟨m - 1, by omega⟩
              obtain rfl : k = j := by omega
              exact yes _
    | succ d ih => intro m k hk hm
                   obtain ⟨m, rfl⟩ : ∃ q, m = q + 1 := ⟨m - 1, by omega⟩
                   show f k s _ fin = _
                   rw [step k _ (by omega) (h k (by omega))]
                   exact ih m (k + 1) (by omega) (by omega)
  exact key j n 0 (by omega) (by omega)
end Go.Proofs.Ytgbcdmlcmnaimaa.Q9Drop

namespace Go.Proofs.Ytgbcdmlcmnaimaa.Q9End
open Go.RowKit
open Go.Proofs.Ytgbcdmlcmnaimaa.GoP Go.Proofs.Ytgbcdmlcmnaimaa.PlainStamp Go.Proofs.Ytgbcdmlcmnaimaa.QBase Go.Proofs.Ytgbcdmlcmnaimaa.Q9Drop Go.Proofs.Ytgbcdmlcmnaimaa.Q9List Go.Proofs.Ytgbcdmlcmnaimaa.Q9Mail Go.Proofs.Ytgbcdmlcmnaimaa.QLoop Go.Proofs.Ytgbcdmlcmnaimaa.PMail

/-- where a list of numbers ends, if it is a route -/
def endF (l : List Mail) : List Int → Int → Int → Option (Int × Int)
  | [], o, m => some (o, m)
  | i :: r, o, m => if 0 ≤ i then (match l[i.toNat]? with | none => none | some x => if x.from_ = o ∧ m ≤ x.leave then endF l r x.to_ x.arrive else none) else none
def endRes (l : List Mail) (r : List Int) (s : Int × Int) : Option (Int × Int × Bool) := some (match endF l r s.1 s.2 with | none => (0, 0, false) | some (a, b) => (a, b, true))
theorem canTake_eq (x : Mail) (o m : Int) : GiCanTake.P x o m = some (decide (x.from_ = o ∧ m ≤ x.leave)) := by
  obtain ⟨a, b, c, d⟩ := x
  simp only [GiCanTake.P, unMail, letK, joinK, appK, iteK_if]
  by_cases h1 : b = o <;> by_cases h2 : m ≤ a <;> simp [h1, h2]
theorem end_loop (l : List Mail) (hl : l.length ≤ 9223372036854775807) (r : List Int) (s : Int × Int) : cntK (GiEndOfRoute.l0 l r) r.length 0 s GiEndOfRoute.e0 = endRes l r s := by
  refine cnt_drop (endRes l) (fun s => rfl) (fun k i s nx hi hn => ?_) s
  obtain ⟨o, m⟩ := s
  have hx : idx r (k : Int) = some i := by rw [idx_nat, hi]
  simp only [GiEndOfRoute.l0, unp2_mk, hx, Option.bind_some, letK, within_eq, canTake_eq, joinK, appK, iteK_if]
  rw [wrap_in (by omega) (by omega)]
  unfold endRes
  simp only [endF]
  by_cases h0 : 0 ≤ i
  · by_cases h1 : i ≤ (l.length : Int) - 1
    · have hb : inB i 0 ((l.length : Int) - 1) = true := by unfold inB; simp [h0, h1]
      have hk : i.toNat < l.length := by omega
      have hl2 : l[i.toNat]? = some l[i.toNat] := List.getElem?_eq_getElem hk
      have hl3 : idx l i = some l[i.toNat] := by unfold idx; rw [if_pos h0, hl2]
      rw [hb, hl3, hl2]
      generalize l[i.toNat] = x
      obtain ⟨a, b, c, d⟩ := x
      simp only [Option.bind_some, unMail, Bool.not_true, Bool.false_eq_true, if_false, if_pos h0, hn]
      by_cases hc : b = o ∧ m ≤ a
      · simp [hc, endRes]
      · simp [hc]
    · have hb : inB i 0 ((l.length : Int) - 1) = false := by unfold inB; simp [h1]
      have hl2 : l[i.toNat]? = none := List.getElem?_eq_none (by omega)
      rw [hb, hl2, if_pos h0]; rfl
  · have hb : inB i 0 ((l.length : Int) - 1) = false := by unfold inB; simp [h0]
    rw [hb, if_neg h0]; rfl
def endA (l : List Mail) (o m : Int) (r : List Int) : Int × Int × Bool := if askM l o m = true then (match endF l r o m with | none => (0, 0, false) | some (a, b) => (a, b, true)) else (0, 0, false)
theorem end_impl (l : List Mail) (hl : l.length ≤ 9223372036854775807) (o m : Int) (r : List Int) : GiEndOfRoute.P l o m r = some (endA l o m r) := by
  simp only [GiEndOfRoute.P, canBegin_eq l hl, Option.bind_some, letK, iteK_if, end_loop l hl, endA, endRes]
  cases askM l o m <;> rfl
def isRt (l : List Mail) (o m : Int) (r : List Int) : Bool × Bool := if askM l o m = true ∧ r.length ≤ 20 then ((endF l r o m).isSome, true) else (false, false)
end Go.Proofs.Ytgbcdmlcmnaimaa.Q9End

namespace Go.Proofs.Ytgbcdmlcmnaimaa.Q9Best
open Go.RowKit
open Go.Proofs.Ytgbcdmlcmnaimaa.GoP Go.Proofs.Ytgbcdmlcmnaimaa.PlainStamp Go.Proofs.Ytgbcdmlcmnaimaa.QBase Go.Proofs.Ytgbcdmlcmnaimaa.Q9Late Go.Proofs.Ytgbcdmlcmnaimaa.Q9Early Go.Proofs.Ytgbcdmlcmnaimaa.Q9At Go.Proofs.Ytgbcdmlcmnaimaa.QFoldS Go.Proofs.Ytgbcdmlcmnaimaa.Q9Drop Go.Proofs.Ytgbcdmlcmnaimaa.Q9End Go.Proofs.Ytgbcdmlcmnaimaa.Q9Cand Go.Proofs.Ytgbcdmlcmnaimaa.Q9Dual Go.Proofs.Ytgbcdmlcmnaimaa.Q9Arr Go.Proofs.Ytgbcdmlcmnaimaa.Q9List Go.Proofs.Ytgbcdmlcmnaimaa.Q9Mail Go.Proofs.Ytgbcdmlcmnaimaa.QUp Go.Proofs.Ytgbcdmlcmnaimaa.QAll Go.Proofs.Ytgbcdmlcmnaimaa.QLoop Go.Proofs.Ytgbcdmlcmnaimaa.PMail Go.Proofs.Ytgbcdmlcmnaimaa.PIntA10 Go.Proofs.Ytgbcdmlcmnaimaa.GoA

/-- the round of both: the first mail that leads on, or the end -/
theorem both {l : List Mail} (hg : goodM l = true) {p e : Int} (hp : 0 ≤ p ∧ p ≤ 9) (he : 0 ≤ e ∧ e ≤ 9999) : ∀ (fuel : Nat) (o m : Int) (acc : List Int), (0 ≤ o ∧ o ≤ 9) → (0 ≤ m ∧ m ≤ e) → at_ (earlyM l o m) p = e → (acc.length : Int) ≤ m → e - m < (fuel : Int) →
    ∃ r, loopK (GiFirstRoute.l0 l (lateM l p e)) fuel (o, m, acc) GiFirstRoute.e0 = some (acc ++ r) ∧ loopK (GsBestRoute.l0 l p e) fuel (o, m, acc) GsBestRoute.e0 = some (acc ++ r, true) ∧ endF l r o m = some (p, e) ∧ (r.length : Int) ≤ e - m := by
  intro fuel
  induction fuel with
  | zero => intro o m acc _ _ _ _ hf; omega
  | succ n ih =>
    intro o m acc ho hm hE hacc hf
    have hlen := m_len hg
    have step : ∀ (k : Nat) (x : Mail), l[k]? = some x → cand l p e o m x = true → ∃ r, loopK (GiFirstRoute.l0 l (lateM l p e)) n (x.to_, x.arrive, acc ++ [(k : Int)]) GiFirstRoute.e0 = some (acc ++ [(k : Int)] ++ r) ∧ loopK (GsBestRoute.l0 l p e) n (x.to_, x.arrive, acc ++ [(k : Int)]) GsBestRoute.e0 = some (acc ++ [(k : Int)] ++ r, true) ∧ endF l r x.to_ x.arrive = some (p, e) ∧ (r.length : Int) ≤ e - x.arrive ∧ x.from_ = o ∧ m ≤ x.leave ∧ x.leave < x.arrive := by
      intro k x hx hc
      have hx1 := okM_of (m_ok hg hx)
      rw [cand_iff hg hp hm.1 he.2 hE hx] at hc
      obtain ⟨h1, h2, h3⟩ := of_decide_eq_true hc
      have h4 := early_low hg hx1.2.1 (m := x.arrive) (by omega) hp
      obtain ⟨r, r1, r2, r3, r4⟩ := ih x.to_ x.arrive (acc ++ [(k : Int)]) hx1.2.1 (by omega) h3 (by simp; omega) (by omega)
      exact ⟨r, r1, r2, r3, r4, h1, h2, hx1.2.2.2.2.1⟩
    -- a round of the program's inner loop
    have inner1 : ∀ (k : Nat) nx, k < l.length → (match l[k]? with | none => false | some x => cand l p e o m x) = false → GiFirstRoute.l1 l (lateM l p e) (fun s' => loopK (GiFirstRoute.l0 l (lateM l p e)) n s' GiFirstRoute.e0) k (o, m, acc) nx GiFirstRoute.e1 = nx (o, m, acc) := by
      intro k nx hk hc
      have hx : l[k]? = some l[k] := List.getElem?_eq_getElem hk
      have hi : idx l (k : Int) = some l[k] := by rw [idx_nat, hx]
      have hx1 := okM_of (m_ok hg hx)
      rw [hx] at hc
      try dsimp only at hc
      revert hi hx1 hc
      generalize l[k] = x
      intro hc hi hx1
      obtain ⟨a, b, c, d⟩ := x
      try dsimp only at hx1
      unfold cand at hc
      have hc2 := of_decide_eq_false hc
      try dsimp only at hc2
      simp only [GiFirstRoute.l1, unp3_mk, hi, Option.bind_some, unMail, canTake_eq, joinK, appK, iteK_if, idx_at (late_len l p e) hx1.2.1, letK]
      by_cases h1 : b = o ∧ m ≤ a
      · have h2 : ¬ d ≤ at_ (lateM l p e) c := fun q => hc2 ⟨h1.1, h1.2, q⟩
        simp [h1, h2]
      · simp [h1]
    have inner2 : ∀ (k : Nat) nx, k < l.length → (match l[k]? with | none => false | some x => cand l p e o m x) = false → GsBestRoute.l1 l p e k (o, m, acc) nx (GsBestRoute.e1 (fun s' => loopK (GsBestRoute.l0 l p e) n s' GsBestRoute.e0)) = nx (o, m, acc) := by
      intro k nx hk hc
      have hx : l[k]? = some l[k] := List.getElem?_eq_getElem hk
      have hi : idx l (k : Int) = some l[k] := by rw [idx_nat, hx]
      have hx1 := okM_of (m_ok hg hx)
      have hci := cand_iff hg hp hm.1 he.2 hE hx
      rw [hx] at hc
      try dsimp only at hc
      rw [hci] at hc
      revert hi hx1 hc
      generalize l[k] = x
      intro hc hi hx1
      obtain ⟨a, b, c, d⟩ := x
      try dsimp only at hx1
      have hc2 := of_decide_eq_false hc
      try dsimp only at hc2
      simp only [GsBestRoute.l1, unp3_mk, hi, Option.bind_some, unMail, joinK, appK, iteK_if, letK, times_eq hg hx1.2.1, idx_at (early_len l c d) hp]
      by_cases h1 : b = o
      · by_cases h2 : m ≤ a
        · have h3 : ¬ at_ (earlyM l c d) p = e := fun q => hc2 ⟨h1, h2, q⟩
          simp [h1, h2, h3]
        · simp [h1, h2]
      · simp [h1]
    show ∃ r, GiFirstRoute.l0 l (lateM l p e) (o, m, acc) (fun s' => loopK (GiFirstRoute.l0 l (lateM l p e)) n s' GiFirstRoute.e0) GiFirstRoute.e0 = some (acc ++ r) ∧ GsBestRoute.l0 l p e (o, m, acc) (fun s' => loopK (GsBestRoute.l0 l p e) n s' GsBestRoute.e0) GsBestRoute.e0 = some (acc ++ r, true) ∧ _
    have hnone := cand_none hg hp ho hm.1 he.2 hE (by omega)
    rcases first_or (fun k => match l[k]? with | none => false | some x => cand l p e o m x) l.length with h | ⟨k, hk, hk2, hk3⟩
    · have hend := hnone.1 (fun x hx => by
        obtain ⟨k, hk⟩ := List.getElem?_of_mem hx
        have := h k (List.getElem?_eq_some_iff.1 hk).1
        rw [hk] at this; exact this)
      obtain ⟨rfl, rfl⟩ := hend
      refine ⟨[], ?_, ?_, rfl, by simp⟩
      · simp only [GiFirstRoute.l0, unp3_mk]
        rw [cnt_none inner1 h]; simp [GiFirstRoute.e1, unp3_mk]
      · simp [GsBestRoute.l0, unp3_mk, letK, joinK, appK, iteK_if, GsBestRoute.e0]
    · have hx : l[k]? = some l[k] := List.getElem?_eq_getElem hk
      have hi : idx l (k : Int) = some l[k] := by rw [idx_nat, hx]
      have hx1 := okM_of (m_ok hg hx)
      have hci := cand_iff hg hp hm.1 he.2 hE hx
      rw [hx] at hk2
      try dsimp only at hk2
      obtain ⟨r, r1, r2, r3, r4, r5, r6, r7⟩ := step k l[k] hx hk2
      refine ⟨(k : Int) :: r, ?_, ?_, ?_, ?_⟩
      · rw [show acc ++ (k : Int) :: r = acc ++ [(k : Int)] ++ r by simp]
        simp only [GiFirstRoute.l0, unp3_mk]
        refine cnt_first (p := fun k => match l[k]? with | none => false | some x => cand l p e o m x) hk (fun k nx h1 h2 => inner1 k nx (by omega) h2) hk3 (fun nx => ?_)
        rw [← r1]
        unfold cand at hk2
        have hc2 := of_decide_eq_true hk2
        clear r1 r2 r3 r4 hk2 hci hx
        revert hi hx1 hc2
        generalize l[k] = x
        intro hi hx1 hc2
        obtain ⟨a, b, c, d⟩ := x
        dsimp only at hx1 hc2
        simp only [GiFirstRoute.l1, unp3_mk, hi, Option.bind_some, unMail, canTake_eq, joinK, appK, iteK_if, idx_at (late_len l p e) hx1.2.1, letK]
        rw [guardK_pos (by omega)]
        simp [hc2]
      · rw [show acc ++ (k : Int) :: r = acc ++ [(k : Int)] ++ r by simp]
        have hne : ¬ (o = p ∧ m = e) := by
          intro q
          have := hnone.2 q l[k] (List.mem_of_getElem? hx)
          rw [this] at hk2; exact absurd hk2 (by simp)
        simp only [GsBestRoute.l0, unp3_mk, letK, joinK, appK, iteK_if]
        have hgo : cntK (GsBestRoute.l1 l p e) l.length 0 (o, m, acc) (GsBestRoute.e1 (fun s' => loopK (GsBestRoute.l0 l p e) n s' GsBestRoute.e0)) = some (acc ++ [(k : Int)] ++ r, true) := by
          refine cnt_first (p := fun k => match l[k]? with | none => false | some x => cand l p e o m x) hk (fun k nx h1 h2 => inner2 k nx (by omega) h2) hk3 (fun nx => ?_)
          rw [← r2]
          rw [hci] at hk2
          have hc2 := of_decide_eq_true hk2
          clear r1 r2 r3 r4 hk2 hci hx
          revert hi hx1 hc2
          generalize l[k] = x
          intro hi hx1 hc2
          obtain ⟨a, b, c, d⟩ := x
          dsimp only at hx1 hc2
          simp only [GsBestRoute.l1, unp3_mk, hi, Option.bind_some, unMail, joinK, appK, iteK_if, letK, times_eq hg hx1.2.1, idx_at (early_len l c d) hp]
          rw [guardK_pos (by omega)]
          simp [hc2, GsBestRoute.e1, unp3_mk, appK]
        by_cases h1 : o = p
        · have h2 : ¬ m = e := fun q => hne ⟨h1, q⟩
          simp [h1, h2] at hgo ⊢
          exact hgo
        · simp [h1] at hgo ⊢
          exact hgo
      · simp only [endF]
        rw [if_pos (by omega), show ((k : Int)).toNat = k by omega, hx]
        dsimp only
        rw [if_pos ⟨r5, r6⟩]; exact r3
      · simp; omega
theorem best_both {fuel : Nat} (l : List Mail) (hl : l.length ≤ 9223372036854775807) (o m p : Int) (hf : 10000 < fuel) : ∃ r ok, GiBestRoute.P fuel l o m p = some (r, ok) ∧ GsBestRoute.P fuel l o m p = some (r, ok) ∧ r.length ≤ 10000 ∧ ok = (atRes l o m p).2 ∧ (ok = true → endF l r o m = some (p, (atRes l o m p).1)) := by
  simp only [GiBestRoute.P, GsBestRoute.P, at_impl l hl, at_spec l hl]
  by_cases h : askM l o m = true ∧ inB p 0 9 = true ∧ at_ (earlyM l o m) p ≠ 10000
  · have hr : atRes l o m p = (at_ (earlyM l o m) p, true) := by unfold atRes; rw [if_pos h]
    obtain ⟨h1, h2, h3⟩ := h
    obtain ⟨hg, ho, hm⟩ := ask_of h1
    have hp := inB_of h2
    have htop := early_top hg (m := m) ho hm.2 hp
    have hlow := early_low hg (m := m) ho hm.2 hp
    rw [hr]
    obtain ⟨r, r1, r2, r3, r4⟩ := both hg hp (e := at_ (earlyM l o m) p) (by omega) fuel o m [] ho (by omega) rfl (by simp; omega) (by omega)
    rw [List.nil_append] at r1 r2
    refine ⟨r, true, ?_, ?_, by omega, rfl, fun _ => r3⟩
    · simp only [bind2_some, letK, iteK_if, Bool.not_true, Bool.false_eq_true, if_false, latest_eq hg hp _ (show 20 < fuel by omega), Option.bind_some, un_eq, GiFirstRoute.P]
      rw [ten (late_len l p _), r1]; rfl
    · simp only [bind2_some, letK, iteK_if, Bool.not_true, Bool.false_eq_true, if_false]
      exact r2
  · have hr : atRes l o m p = (0, false) := by unfold atRes; rw [if_neg h]
    rw [hr]
    exact ⟨[], false, rfl, rfl, by simp, rfl, fun q => absurd q (by simp)⟩
end Go.Proofs.Ytgbcdmlcmnaimaa.Q9Best

namespace Go.Proofs.Ytgbcdmlcmnaimaa.Q10Route
open Go.RowKit
open Go.Proofs.Ytgbcdmlcmnaimaa.GoP Go.Proofs.Ytgbcdmlcmnaimaa.PlainStamp Go.Proofs.Ytgbcdmlcmnaimaa.QBase Go.Proofs.Ytgbcdmlcmnaimaa.Q10Fault Go.Proofs.Ytgbcdmlcmnaimaa.Q10Cover Go.Proofs.Ytgbcdmlcmnaimaa.Q9Best Go.Proofs.Ytgbcdmlcmnaimaa.Q9At Go.Proofs.Ytgbcdmlcmnaimaa.Q9Early Go.Proofs.Ytgbcdmlcmnaimaa.Q9Dual Go.Proofs.Ytgbcdmlcmnaimaa.Q9Arr Go.Proofs.Ytgbcdmlcmnaimaa.Q9List Go.Proofs.Ytgbcdmlcmnaimaa.Q9End Go.Proofs.Ytgbcdmlcmnaimaa.Q9Mail Go.Proofs.Ytgbcdmlcmnaimaa.QLoop Go.Proofs.Ytgbcdmlcmnaimaa.PCover Go.Proofs.Ytgbcdmlcmnaimaa.PMail Go.Proofs.Ytgbcdmlcmnaimaa.PIntA10

theorem end_impl {ms : List Mail} {x : Cover} (hm : goodM ms = true) (hx : okC x = true) : GiEarliestEnd.P ms x = some (endV ms x) := by
  have hc := okC_of hx
  obtain ⟨a, b, c, d, e, f, g, h, i⟩ := x
  dsimp only at hc
  simp only [GiEarliestEnd.P, unCover, earliest_eq hm hc.2.2.2.1, Option.bind_some, un_eq, letK, ten (early_len ms f h), idx_at (early_len ms f h) hc.2.2.2.2.1, endV]
theorem at_cover {ms : List Mail} {x : Cover} (hm : goodM ms = true) (hx : okC x = true) : atRes ms x.from_ x.leave x.to_ = if endV ms x = 10000 then (0, false) else (endV ms x, true) := by
  have hc := okC_of hx
  have h1 : inB x.from_ 0 9 = true := by unfold inB; simp; omega
  have h2 : inB x.leave 0 9999 = true := by unfold inB; simp; omega
  have h3 : inB x.to_ 0 9 = true := by unfold inB; simp; omega
  unfold atRes
  simp only [askM, hm, h1, h2, h3, Bool.and_self, true_and]
  unfold endV
  by_cases he : at_ (earlyM ms x.from_ x.leave) x.to_ = 10000
  · rw [if_pos he, if_neg (fun h => h he)]
  · rw [if_neg he, if_pos he]
theorem route_l10 {fuel : Nat} {ms : List Mail} (hl : ms.length ≤ 9223372036854775807) {x : Cover} (hm : goodM ms = true) (hx : okC x = true) (hf : 10000 < fuel) :
    ∃ r ok, GsL10Route.P fuel ms x = some (r, ok) ∧ r.length ≤ 10000 ∧ ok = decide (endV ms x ≤ x.arrive) ∧ (ok = true → GiBestRoute.P fuel ms x.from_ x.leave x.to_ = some (r, true) ∧ endF ms r x.from_ x.leave = some (x.to_, endV ms x)) ∧ (ok = false → r = []) := by
  have hc := okC_of hx
  have ha := at_cover hm hx
  obtain ⟨r, ok, b1, b2, b3, b4, b5⟩ := best_both (fuel := fuel) ms hl x.from_ x.leave x.to_ hf
  have e1 := at_spec ms hl x.from_ x.leave x.to_
  obtain ⟨a, b, c, d, e, f, g, h, i⟩ := x
  dsimp only at hc ha b1 b2 b4 b5 e1 ⊢
  simp only [GsL10Route.P, unCover, e1, ha, letK, joinK, appK, iteK_if]
  by_cases he : endV ms ⟨a, b, c, d, e, f, g, h, i⟩ = 10000
  · have h9 : ¬ endV ms ⟨a, b, c, d, e, f, g, h, i⟩ ≤ i := by omega
    exact ⟨[], false, by simp [he, bind2], by simp, by simp [h9], by simp, by simp⟩
  · rw [if_neg he]
    simp only [bind2_some, Bool.not_true, Bool.false_eq_true, if_false]
    by_cases hi : i < endV ms ⟨a, b, c, d, e, f, g, h, i⟩
    · have h9 : ¬ endV ms ⟨a, b, c, d, e, f, g, h, i⟩ ≤ i := by omega
      exact ⟨[], false, by simp [hi], by simp, by simp [h9], by simp, by simp⟩
    · have h9 : endV ms ⟨a, b, c, d, e, f, g, h, i⟩ ≤ i := by omega
      rw [ha, if_neg he] at b4 b5
      dsimp only at b4 b5
      subst b4
      exact ⟨r, true, by simp [hi, b2, bind2], b3, by simp [h9], fun _ => ⟨b1, b5 rfl⟩, by simp⟩
theorem route_both {fuel : Nat} {ms : List Mail} (hl : ms.length ≤ 9223372036854775807) (x : Cover) (hf : 10000 < fuel) :
    ∃ r ok, GiRouteOn.P fuel ms x = some (r, ok) ∧ GsRouteOn.P fuel ms x = some (r, ok) ∧ r.length ≤ 10000 ∧ ok = (goodM ms && okC x && decide (endV ms x ≤ x.arrive)) ∧ (ok = true → endF ms r x.from_ x.leave = some (x.to_, endV ms x)) ∧ (ok = false → r = []) := by
  have e1 := isCover_eq x
  have e2 := l10One_eq x
  have e3 := fun h1 h2 => end_impl (ms := ms) (x := x) h1 h2
  have e4 := fun h1 h2 => route_l10 (fuel := fuel) (ms := ms) hl (x := x) h1 h2 hf
  obtain ⟨a, b, c, d, e, f, g, h, i⟩ := x
  dsimp only at e4 ⊢
  simp only [GiRouteOn.P, GsRouteOn.P, unCover, isTime_eq ms hl, l9Good_eq ms hl, e1, e2, Option.bind_some, letK, joinK, appK, iteK_if]
  cases hm : goodM ms with
  | false => exact ⟨[], false, by simp, by simp, by simp, by simp, by simp, by simp⟩
  | true =>
    cases hc : okC ⟨a, b, c, d, e, f, g, h, i⟩ with
    | false => exact ⟨[], false, by simp, by simp, by simp, by simp, by simp, by simp⟩
    | true =>
      obtain ⟨r, ok, r1, r2, r3, r4, r5⟩ := e4 hm hc
      simp only [Bool.not_true, Bool.false_eq_true, if_false, e3 hm hc, r1, Option.bind_some, bind2_some]
      by_cases hi : i < endV ms ⟨a, b, c, d, e, f, g, h, i⟩
      · have h9 : ¬ endV ms ⟨a, b, c, d, e, f, g, h, i⟩ ≤ i := by omega
        have hok : ok = false := by rw [r3]; simp [h9]
        subst hok
        rw [r5 rfl]
        exact ⟨[], false, by simp [hi], rfl, by simp, by simp [h9], by simp, by simp⟩
      · have h9 : endV ms ⟨a, b, c, d, e, f, g, h, i⟩ ≤ i := by omega
        have hok : ok = true := by rw [r3]; simp [h9]
        subst hok
        obtain ⟨q1, q2⟩ := r4 rfl
        exact ⟨r, true, by simp [hi, q1, bind2], rfl, r2, by simp [h9], fun _ => q2, by simp⟩
end Go.Proofs.Ytgbcdmlcmnaimaa.Q10Route

namespace Go.Proofs.Ytgbcdmlcmnaimaa.Q10FaultOf
open Go.RowKit
open Go.Proofs.Ytgbcdmlcmnaimaa.GoP Go.Proofs.Ytgbcdmlcmnaimaa.PlainStamp Go.Proofs.Ytgbcdmlcmnaimaa.QBase Go.Proofs.Ytgbcdmlcmnaimaa.Q10Fault Go.Proofs.Ytgbcdmlcmnaimaa.Q10Cover Go.Proofs.Ytgbcdmlcmnaimaa.Q8For Go.Proofs.Ytgbcdmlcmnaimaa.Q8List Go.Proofs.Ytgbcdmlcmnaimaa.Q9List Go.Proofs.Ytgbcdmlcmnaimaa.QLoop Go.Proofs.Ytgbcdmlcmnaimaa.PCover Go.Proofs.Ytgbcdmlcmnaimaa.PRate Go.Proofs.Ytgbcdmlcmnaimaa.PMail

def askB (rs : List Rate) (ms : List Mail) : Bool := okRs rs && goodM ms
theorem can_eq (rs : List Rate) (ms : List Mail) (hr : rs.length ≤ 9223372036854775807) (hm : ms.length ≤ 9223372036854775807) : GiCanCheckCovers.P rs ms = some (askB rs ms) := by
  simp only [GiCanCheckCovers.P, areRates_eq rs hr, isTime_eq ms hm, Option.bind_some, letK, joinK, appK, iteK_if, askB]
  cases okRs rs <;> simp
theorem ask_of {rs : List Rate} {ms : List Mail} (h : askB rs ms = true) : okRs rs = true ∧ goodM ms = true := by
  simpa [askB] using h
def faultRes (rs : List Rate) (ms : List Mail) (x : Cover) : Int × Bool := if (askB rs ms && okC x) = true then (faultV rs ms x, true) else (0, false)
theorem faultOf_impl (rs : List Rate) (ms : List Mail) (x : Cover) (hr : rs.length ≤ 9223372036854775807) (hm : ms.length ≤ 9223372036854775807) : GiFaultOf.P rs ms x = some (faultRes rs ms x) := by
  have e1 := isCover_eq x
  have e2 := fun h1 h2 h3 => fault_impl (rs := rs) (ms := ms) (x := x) h1 h2 h3
  obtain ⟨a, b, c, d, e, f, g, h, i⟩ := x
  simp only [GiFaultOf.P, unCover, can_eq rs ms hr hm, e1, Option.bind_some, letK, joinK, appK, iteK_if, faultRes]
  cases ha : askB rs ms with
  | false => simp
  | true =>
    cases hc : okC ⟨a, b, c, d, e, f, g, h, i⟩ with
    | false => simp
    | true => simp [e2 (ask_of ha).1 (ask_of ha).2 hc]
theorem faultOf_spec {fuel : Nat} (rs : List Rate) (ms : List Mail) (x : Cover) (hr : rs.length ≤ 9223372036854775807) (hm : ms.length ≤ 9223372036854775807) (hf : 17 < fuel) : GsFaultOf.P fuel rs ms x = some (faultRes rs ms x) := by
  have e1 := l10One_eq x
  have e3 := l8Good_eq (fuel := fuel) rs hr hf
  have e4 := l9Good_eq ms hm
  have e2 := fun h1 h2 h3 => fault_spec (rs := rs) (ms := ms) (x := x) h1 h2 h3
  obtain ⟨a, b, c, d, e, f, g, h, i⟩ := x
  cases ha : okRs rs with
  | false => rw [ha] at e3; simp [GsFaultOf.P, unCover, e3, letK, joinK, appK, iteK_if, faultRes, askB, ha]
  | true =>
    rw [ha] at e3
    cases hb : goodM ms with
    | false => rw [hb] at e4; simp [GsFaultOf.P, unCover, e3, e4, letK, joinK, appK, iteK_if, faultRes, askB, ha, hb]
    | true =>
      rw [hb] at e4
      cases hc : okC ⟨a, b, c, d, e, f, g, h, i⟩ with
      | false => rw [hc] at e1; simp [GsFaultOf.P, unCover, e3, e4, e1, letK, joinK, appK, iteK_if, faultRes, askB, ha, hb, hc]
      | true => rw [hc] at e1; simp [GsFaultOf.P, unCover, e3, e4, e1, letK, joinK, appK, iteK_if, faultRes, askB, ha, hb, hc, e2 ha hb hc]
end Go.Proofs.Ytgbcdmlcmnaimaa.Q10FaultOf

namespace Go.Proofs.Ytgbcdmlcmnaimaa.GlVHas
open Go.RowKit
open Go.Proofs.Ytgbcdmlcmnaimaa.Rowed Go.Proofs.Ytgbcdmlcmnaimaa.Turn Go.Proofs.Ytgbcdmlcmnaimaa.Aid Go.Proofs.Ytgbcdmlcmnaimaa.GoP Go.Proofs.Ytgbcdmlcmnaimaa.GoM

def l0 (l : (List Int)) (x : Int) (k0 : Nat) (s : Unit) (nx0 bk0 : Unit → Option (Bool)) : Option (Bool) :=
 
 Option.bind (idx l (k0 : Int)) fun (yt_8 : Int) =>
 letK (yt_8 == x) fun (t_11 : Bool) =>
 iteK t_11
 (some true)
 (appK nx0 ())

def e0  (s : Unit) : Option (Bool) :=
 
 some false

def P (l : (List Int)) (x : Int) : Option (Bool) :=
 cntK (l0 l x) (l.length) 0 () (e0 )

set_option maxRecDepth 100000 in
set_option maxHeartbeats 2000000 in
theorem C (l : (List Int)) (x : Int) (A0 : Option Addr) (c0 : Nat)  (w : World) (M0 : Hid (Cells w 1 A0 l.length (HelpInt.iv l))) (N0 : Hid (l.length ≤ 9223372036854775807))  {r : Bool} (H : Hid (P l x = some r)) :
  Calls Try.prog 33 #[.slice A0 l.length c0, .int .i64 x] w (Gives (.bool r) w) := by
 have HB := Lib.hid (Below.refl w.heap.size w); unfold P at H; have N0o := N0.out
 go_enter Try.func33, Try.ntmps33
 go_wp2_with fail; go_loopg [5] (l.length) (fun m_ v5_ wr => ∃ (k0 : Nat) , k0 + m_ = l.length ∧ v5_ = .int .i64 (k0 : Int) ∧ Hid (cntK (l0 l x) m_ k0 () (e0 ) = some r) ∧ Hid (Below w.heap.size w wr))
 case atStart => exact ⟨0, by omega, rfl, H, HB⟩
 case round =>
  obtain ⟨k0, hkm0, rfl, H, a10⟩ := hrel; rename World => wr0
  cases gk with
  | zero =>
   obtain rfl : k0 = l.length := (by omega); have hc0 : decide (((l.length : Nat) : Int) < ((l.length : Nat) : Int)) = false := (by simp); replace H := cnt_zero H; unfold e0 at H; obtain rfl := ret_hid H; go_wp2_with fail; go_ret; exact ⟨rfl, a10.out⟩
  | succ m0 =>
   have hlt0 : k0 < l.length := (by omega); have hc0 : decide ((k0 : Int) < ((l.length : Nat) : Int)) = true := (by simp; omega); replace H := cnt_succ H; unfold l0 at H; replace H := idx_hid H; obtain ⟨nt_8, yt_8, et_8, lt_8, gt_8, H⟩ := H; obtain rfl : k0 = nt_8 := (by omega); clear et_8; obtain ⟨f10, j10, zt_8, At_8, c10, b10⟩ := HelpInt.Ints.at_ M0.out lt_8; obtain rfl := Option.some.inj (gt_8.out.symm.trans c10); subst At_8; have d10 := cell_lt b10; replace b10 := cell_below a10.out b10; clear c10; have e10 : (0 : Int) ≤ (k0 : Int) := (by omega); have h10 : (k0 : Int) < ((l.length : Nat) : Int) := (by omega); have i10 : ((k0 : Int)).toNat = k0 := (by omega); replace H := let_hid H; obtain ⟨t_11, g10, H⟩ := H
   cases t_11 with
   | false =>
    replace H := ite_f H; replace H := app_hid H; go_wp2_with fail
    go_roundg m0
    case measure => omega
    case rel => exact ⟨k0 + 1, by omega, by go_num, H, a10⟩
   | true =>
    replace H := ite_t H; obtain rfl := ret_hid H; go_wp2_with fail; go_ret; exact ⟨rfl, a10.out⟩
end Go.Proofs.Ytgbcdmlcmnaimaa.GlVHas

namespace Go.Proofs.Ytgbcdmlcmnaimaa.QVInts
open Go.RowKit
open Go.Proofs.Ytgbcdmlcmnaimaa.GoP Go.Proofs.Ytgbcdmlcmnaimaa.PlainStamp Go.Proofs.Ytgbcdmlcmnaimaa.QBase Go.Proofs.Ytgbcdmlcmnaimaa.QLoop

theorem vInts_self (l : List Int) : GlVInts.P l l = some true := by
  simp only [GlVInts.P, letK, iteK_if]
  rw [if_neg (by simp)]
  refine cnt_is true (fun _ _ => True) ?_ (fun s _ => rfl) () trivial
  rintro k ⟨⟩ nx hk _ hn
  obtain ⟨x, _, hi⟩ := at_lt (l := l) (k := k) hk
  simp only [GlVInts.l0, hi, Option.bind_some, letK, appK, iteK_if]
  rw [if_neg (by simp)]; exact hn () trivial
theorem vHas_yes {l : List Int} {x : Int} (h : x ∈ l) : GlVHas.P l x = some true := by
  obtain ⟨j, hj⟩ := List.getElem?_of_mem h
  have hjl := (List.getElem?_eq_some_iff.1 hj).1
  simp only [GlVHas.P]
  have key : ∀ m k, k + m = l.length → k ≤ j → cntK (GlVHas.l0 l x) m k () GlVHas.e0 = some true := by
    intro m
    induction m with
    | zero => intro k hk hkj; omega
    | succ m ih =>
      intro k hk hkj
      obtain ⟨y, hy, hi⟩ := at_lt (l := l) (k := k) (by omega)
      show GlVHas.l0 l x k () _ _ = _
      simp only [GlVHas.l0, hi, Option.bind_some, letK, appK, iteK_if]
      by_cases hc : y = x
      · rw [if_pos (by simpa using hc)]
      · rw [if_neg (by simpa using hc)]
        refine ih (k + 1) (by omega) ?_
        by_cases he : k = j
        · subst he; rw [hy] at hj; exact absurd (Option.some.inj hj) hc
        · omega
  exact key l.length 0 (by omega) (by omega)
theorem vHas_no {l : List Int} {x : Int} (h : ¬ x ∈ l) : GlVHas.P l x = some false := by
  simp only [GlVHas.P]
  refine cnt_is false (fun _ _ => True) ?_ (fun s _ => rfl) () trivial
  rintro k ⟨⟩ nx hk _ hn
  obtain ⟨y, hy, hi⟩ := at_lt (l := l) (k := k) hk
  simp only [GlVHas.l0, hi, Option.bind_some, letK, appK, iteK_if]
  rw [if_neg (by
    intro hc
    have : y = x := by simpa using hc
    rw [this] at hy; exact h (List.mem_of_getElem? hy))]
  exact hn () trivial
end Go.Proofs.Ytgbcdmlcmnaimaa.QVInts

