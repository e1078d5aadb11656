/- The texts on which the proof of FnShades stands, one behind the other (6 of 6). No condition of their own. -/
import Derived.Test.YtkinlkmmelkdnaaFnShadesP5
import Derived.IntWalk
import Derived.Test.YtkinlkmmelkdnaaFnShadesP1
import Derived.Test.YtkinlkmmelkdnaaFnShadesP3
import Derived.Test.YtkinlkmmelkdnaaFnShadesP2
import Derived.Test.YtkinlkmmelkdnaaFnShadesP4
/- Reckoning with the loops of plain functions; lists of valid records with rising ids. No condition. -/
namespace Go.Proofs.Ytkinlkmmelkdnaa.QLoop
set_option linter.unusedVariables false
open Go.RowKit
open Go.Proofs.Ytkinlkmmelkdnaa.GoP Go.Proofs.Ytkinlkmmelkdnaa.QBase

theorem cnt_ex {σ ρ : Type} {f : Nat → σ → (σ → Option ρ) → (σ → Option ρ) → Option ρ} {fin : σ → Option ρ} {Q : ρ → Prop} {n : Nat} (I : Nat → σ → Prop)
    (step : ∀ k s nx, k < n → I k s → (∀ s', I (k + 1) s' → ∃ r, nx s' = some r ∧ Q r) → ∃ r, f k s nx fin = some r ∧ Q r) (done : ∀ s, I n s → ∃ r, fin s = some r ∧ Q r) :
    ∀ m k s, k + m = n → I k s → ∃ r, cntK f m k s fin = some r ∧ Q r := by
  intro m
  induction m with
  | zero => intro k s hk hI; obtain rfl : k = n := by omega
            exact done s hI
  | succ m ih => intro k s hk hI; exact step k s _ (by omega) hI (fun s' h' => ih (k + 1) s' (by omega) h')
theorem cnt_is {σ ρ : Type} {f : Nat → σ → (σ → Option ρ) → (σ → Option ρ) → Option ρ} {fin : σ → Option ρ} {n : Nat} (r : ρ) (I : Nat → σ → Prop)
    (step : ∀ k s nx, k < n → I k s → (∀ s', I (k + 1) s' → nx s' = some r) → f k s nx fin = some r) (done : ∀ s, I n s → fin s = some r) (s : σ) (h0 : I 0 s) : cntK f n 0 s fin = some r := by
  obtain ⟨r', h, rfl⟩ := cnt_ex (Q := fun x => x = r) I (fun k s nx hk hI hn => ⟨r, step k s nx hk hI (fun s' h' => by obtain ⟨_, h, rfl⟩ := hn s' h'; exact h), rfl⟩) (fun s h => ⟨r, done s h, rfl⟩) n 0 s (by omega) h0
  exact h
theorem at_lt {α : Type} {l : List α} {k : Nat} (h : k < l.length) : ∃ x, l[k]? = some x ∧ idx l (k : Int) = some x := ⟨l[k], List.getElem?_eq_getElem h, by rw [idx_nat, List.getElem?_eq_getElem h]⟩
theorem idx_pred {α : Type} {l : List α} {k : Nat} {x : α} (hk : 0 < k) (hb : k ≤ 9223372036854775807) (h : l[k - 1]? = some x) : idx l (IntKind.i64.wrap ((k : Int) - 1)) = some x := by
  rw [IntWalk.i64_in _ (by omega), show ((k : Int) - 1) = ((k - 1 : Nat) : Int) by omega, idx_nat, h]
theorem take_next {α : Type} {l : List α} {k : Nat} {x : α} (h : l[k]? = some x) : l.take (k + 1) = l.take k ++ [x] := by
  obtain ⟨hk, e⟩ := List.getElem?_eq_some_iff.1 h
  rw [List.take_succ_eq_append_getElem hk, e]
theorem all_next {α : Type} {p : α → Bool} {l : List α} {k : Nat} {x : α} (h : l[k]? = some x) : (l.take (k + 1)).all p = ((l.take k).all p && p x) := by
  rw [take_next h]; simp
theorem not_all {α : Type} {p : α → Bool} {l : List α} {k : Nat} {x : α} (h : l[k]? = some x) (hp : p x = false) : l.all p = false := by
  rw [Bool.eq_false_iff]
  intro ha
  have := List.all_eq_true.1 ha x (List.mem_of_getElem? h)
  rw [hp] at this; exact absurd this (by simp)
theorem wrap_in {x : Int} (h1 : -9223372036854775808 ≤ x) (h2 : x ≤ 9223372036854775807) : IntKind.i64.wrap x = x := IntWalk.i64_in _ (by omega)

/-- valid, and above the one ahead of it -/
def upAt {α : Type} (ok : α → Bool) (id : α → Int) (l : List α) (k : Nat) : Bool :=
  match l[k]? with
  | none => true
  | some s => ok s && (decide (k = 0) || (match l[k-1]? with | none => true | some r => decide (id r < id s)))
def upTo {α : Type} (ok : α → Bool) (id : α → Int) (l : List α) (k : Nat) : Bool := (List.range k).all (upAt ok id l)
theorem upTo_zero {α : Type} (ok : α → Bool) (id : α → Int) (l : List α) : upTo ok id l 0 = true := rfl
theorem upTo_succ {α : Type} (ok : α → Bool) (id : α → Int) (l : List α) (k : Nat) : upTo ok id l (k + 1) = (upTo ok id l k && upAt ok id l k) := by simp [upTo, List.range_succ, List.all_append]
theorem upTo_not {α : Type} {ok : α → Bool} {id : α → Int} {l : List α} {k n : Nat} (h : upAt ok id l k = false) (hk : k < n) : upTo ok id l n = false := by
  unfold upTo
  rw [Bool.eq_false_iff]
  intro ha
  have := List.all_eq_true.1 ha k (List.mem_range.2 hk)
  rw [h] at this; exact absurd this (by simp)
/-- a list of at most m valid records with rising ids -/
def upL {α : Type} (m : Nat) (ok : α → Bool) (id : α → Int) (l : List α) : Bool := decide (l.length ≤ m) && upTo ok id l l.length
theorem upAt_bad {α : Type} {ok : α → Bool} {id : α → Int} {l : List α} {k : Nat} {s : α} (hs : l[k]? = some s) (h : ok s = false) : upAt ok id l k = false := by unfold upAt; rw [hs]; simp [h]
theorem upAt_first {α : Type} {ok : α → Bool} {id : α → Int} {l : List α} {s : α} (hs : l[0]? = some s) (h : ok s = true) : upAt ok id l 0 = true := by unfold upAt; rw [hs]; simp [h]
theorem upAt_next {α : Type} {ok : α → Bool} {id : α → Int} {l : List α} {k : Nat} {s r : α} (hs : l[k]? = some s) (hr : l[k-1]? = some r) (hk : 0 < k) (h : ok s = true) : upAt ok id l k = decide (id r < id s) := by
  unfold upAt; rw [hs]; simp only [hr, h, Bool.true_and, decide_eq_false (show ¬ k = 0 by omega), Bool.false_or]
theorem upL_len {α : Type} {m : Nat} {ok : α → Bool} {id : α → Int} {l : List α} (h : upL m ok id l = true) : l.length ≤ m := by unfold upL at h; simp only [Bool.and_eq_true, decide_eq_true_eq] at h; exact h.1
theorem upL_ok {α : Type} {m : Nat} {ok : α → Bool} {id : α → Int} {l : List α} (h : upL m ok id l = true) {k : Nat} {s : α} (hs : l[k]? = some s) : ok s = true := by
  unfold upL at h
  simp only [Bool.and_eq_true, decide_eq_true_eq] at h
  have := List.all_eq_true.1 h.2 k (List.mem_range.2 (List.getElem?_eq_some_iff.1 hs).1)
  unfold upAt at this
  rw [hs] at this
  simp only [Bool.and_eq_true] at this
  exact this.1
theorem upL_mem {α : Type} {m : Nat} {ok : α → Bool} {id : α → Int} {l : List α} (h : upL m ok id l = true) {s : α} (hs : s ∈ l) : ok s = true := by
  obtain ⟨k, hk⟩ := List.getElem?_of_mem hs
  exact upL_ok h hk
/-- a loop that goes through a list of records and stops with 'false' at the first that is bad -/
theorem up_loop {α : Type} {ok : α → Bool} {id : α → Int} {l : List α} {R : Type} {no : R} {f : Nat → Unit → (Unit → Option R) → (Unit → Option R) → Option R} {fin : Unit → Option R}
    (step : ∀ k nx s, l[k]? = some s → (ok s = false → f k () nx fin = some no) ∧ (ok s = true → (k = 0 → f k () nx fin = nx ()) ∧ (0 < k → ∀ r, l[k-1]? = some r → (id r < id s → f k () nx fin = nx ()) ∧ (id s ≤ id r → f k () nx fin = some no)))) :
    cntK f l.length 0 () fin = if upTo ok id l l.length then fin () else some no := by
  have key : ∀ m k, k + m = l.length → upTo ok id l k = true → cntK f m k () fin = if upTo ok id l l.length then fin () else some no := by
    intro m
    induction m with
    | zero => intro k hk hu; obtain rfl : k = l.length := by omega
              rw [hu]; rfl
    | succ m ih =>
      intro k hk hu
      have hlt : k < l.length := by omega
      obtain ⟨s, hs, _⟩ := at_lt hlt
      obtain ⟨h1, h2⟩ := step k (fun s' => cntK f m (k + 1) s' fin) s hs
      show f k () _ fin = _
      cases hok : ok s with
      | false => rw [h1 hok, upTo_not (upAt_bad hs hok) hlt]; rfl
      | true =>
        obtain ⟨h3, h4⟩ := h2 hok
        by_cases hk0 : k = 0
        · rw [h3 hk0]
          subst hk0
          exact ih 1 (by omega) (by rw [upTo_succ, hu, upAt_first hs hok]; rfl)
        · obtain ⟨r, hr, _⟩ := at_lt (l := l) (k := k - 1) (by omega)
          obtain ⟨h5, h6⟩ := h4 (by omega) r hr
          by_cases hlt2 : id r < id s
          · rw [h5 hlt2]
            exact ih (k + 1) (by omega) (by rw [upTo_succ, hu, upAt_next hs hr (by omega) hok]; simpa using hlt2)
          · rw [h6 (by omega), upTo_not (by rw [upAt_next hs hr (by omega) hok]; simpa using hlt2) hlt]; rfl
  exact key l.length 0 (by omega) (upTo_zero ok id l)
end Go.Proofs.Ytkinlkmmelkdnaa.QLoop

/- Lists of valid records in strictly rising order of any kind; texts in the order of their bytes. (QOrd) No condition but those of each theorem. -/
namespace Go.Proofs.Ytkinlkmmelkdnaa.QOrd
set_option linter.unusedVariables false
set_option linter.unusedSimpArgs false
open Go.RowKit
open Go.Proofs.Ytkinlkmmelkdnaa.GoP Go.Proofs.Ytkinlkmmelkdnaa.PlainStamp Go.Proofs.Ytkinlkmmelkdnaa.QBase Go.Proofs.Ytkinlkmmelkdnaa.QLoop

/-- texts in the order of their bytes -/
def bl (a b : ByteArray) : Bool := Op.bytesLess a.toList b.toList
theorem bl_self' : ∀ x, Op.bytesLess x x = false
  | [] => rfl
  | a :: x => by
    have h1 : ¬ a < a := fun k => by rw [UInt8.lt_iff_toNat_lt] at k; omega
    simp [Op.bytesLess, h1, bl_self' x]
theorem bl_total' : ∀ x y, x ≠ y → Op.bytesLess x y = !(Op.bytesLess y x)
  | [], [], h => absurd rfl h
  | [], b :: y, _ => by simp [Op.bytesLess]
  | a :: x, [], _ => by simp [Op.bytesLess]
  | a :: x, b :: y, h => by
    by_cases hab : a = b
    · subst hab
      have h1 : ¬ a < a := fun k => by rw [UInt8.lt_iff_toNat_lt] at k; omega
      have := bl_total' x y (fun e => h (by rw [e]))
      simp [Op.bytesLess, h1, this]
    · have hne : a.toNat ≠ b.toNat := fun e => hab (UInt8.toNat_inj.1 e)
      by_cases hlt : a < b
      · have h2 : ¬ b < a := fun k => by rw [UInt8.lt_iff_toNat_lt] at k hlt; omega
        simp [Op.bytesLess, hlt, h2, Ne.symm hab]
      · have h2 : b < a := by rw [UInt8.lt_iff_toNat_lt] at hlt ⊢; omega
        simp [Op.bytesLess, hlt, h2, hab]
theorem bl_trans' : ∀ x y z, Op.bytesLess x y = true → Op.bytesLess y z = true → Op.bytesLess x z = true
  | [], _, [], h1, h2 => by rename_i y; cases y <;> simp [Op.bytesLess] at h1 h2
  | [], _, c :: z, _, _ => by simp [Op.bytesLess]
  | a :: x, [], _, h1, _ => by simp [Op.bytesLess] at h1
  | a :: x, b :: y, [], _, h2 => by simp [Op.bytesLess] at h2
  | a :: x, b :: y, c :: z, h1, h2 => by
    simp only [Op.bytesLess, Bool.or_eq_true, decide_eq_true_eq, Bool.and_eq_true, beq_iff_eq] at h1 h2 ⊢
    rcases h1 with h1 | ⟨rfl, h1⟩
    · rcases h2 with h2 | ⟨rfl, h2⟩
      · left; rw [UInt8.lt_iff_toNat_lt] at h1 h2 ⊢; omega
      · left; exact h1
    · rcases h2 with h2 | ⟨rfl, h2⟩
      · left; exact h2
      · right; exact ⟨rfl, bl_trans' x y z h1 h2⟩
theorem list_inj {a b : ByteArray} (h : a.toList = b.toList) : a = b := by
  rw [Lib.toList_data, Lib.toList_data] at h
  cases a; cases b; congr 1; exact Array.toList_inj.1 h
theorem bl_self (a : ByteArray) : bl a a = false := bl_self' _
theorem bl_total {a b : ByteArray} (h : a ≠ b) : bl a b = !(bl b a) := bl_total' _ _ (fun e => h (list_inj e))
theorem bl_trans {a b c : ByteArray} (h1 : bl a b = true) (h2 : bl b c = true) : bl a c = true := bl_trans' _ _ _ h1 h2
theorem bl_asymm {a b : ByteArray} (h : bl a b = true) : bl b a = false := by
  by_cases e : a = b
  · rw [e]; exact bl_self b
  · rw [bl_total e] at h; simpa using h
theorem bl_ne {a b : ByteArray} (h : bl a b = true) : a ≠ b := fun e => by rw [e, bl_self] at h; exact absurd h (by simp)
/-- 'not above', as the program asks it -/
theorem bl_le (a b : ByteArray) : (Op.bytesLess a.toList b.toList || a.toList == b.toList) = !(bl b a) := by
  by_cases e : a = b
  · subst e; rw [bl_self]; simp
  · have h1 : (a.toList == b.toList) = false := by rw [beq_eq_false_iff_ne]; exact fun h => e (list_inj h)
    rw [h1, Bool.or_false]; exact bl_total e
theorem bl_lt (a b : ByteArray) : Op.bytesLess a.toList b.toList = bl a b := rfl
theorem eq_list (a b : ByteArray) : (a.toList == b.toList) = decide (a = b) := by
  by_cases e : a = b
  · subst e; simp
  · rw [decide_eq_false e, beq_eq_false_iff_ne]; exact fun h => e (list_inj h)

/-- valid, and behind the one ahead of it -/
def riseAt {α : Type} (ok : α → Bool) (lt : α → α → Bool) (l : List α) (k : Nat) : Bool :=
  match l[k]? with
  | none => true
  | some s => ok s && (decide (k = 0) || (match l[k-1]? with | none => true | some r => lt r s))
def riseTo {α : Type} (ok : α → Bool) (lt : α → α → Bool) (l : List α) (k : Nat) : Bool := (List.range k).all (riseAt ok lt l)
theorem riseTo_zero {α : Type} (ok : α → Bool) (lt : α → α → Bool) (l : List α) : riseTo ok lt l 0 = true := rfl
theorem riseTo_succ {α : Type} (ok : α → Bool) (lt : α → α → Bool) (l : List α) (k : Nat) : riseTo ok lt l (k + 1) = (riseTo ok lt l k && riseAt ok lt l k) := by simp [riseTo, List.range_succ, List.all_append]
theorem riseTo_not {α : Type} {ok : α → Bool} {lt : α → α → Bool} {l : List α} {k n : Nat} (h : riseAt ok lt l k = false) (hk : k < n) : riseTo ok lt l n = false := by
  unfold riseTo
  rw [Bool.eq_false_iff]
  intro ha
  have := List.all_eq_true.1 ha k (List.mem_range.2 hk)
  rw [h] at this; exact absurd this (by simp)
def riseL {α : Type} (m : Nat) (ok : α → Bool) (lt : α → α → Bool) (l : List α) : Bool := decide (l.length ≤ m) && riseTo ok lt l l.length
theorem riseAt_bad {α : Type} {ok : α → Bool} {lt : α → α → Bool} {l : List α} {k : Nat} {s : α} (hs : l[k]? = some s) (h : ok s = false) : riseAt ok lt l k = false := by unfold riseAt; rw [hs]; simp [h]
theorem riseAt_first {α : Type} {ok : α → Bool} {lt : α → α → Bool} {l : List α} {s : α} (hs : l[0]? = some s) (h : ok s = true) : riseAt ok lt l 0 = true := by unfold riseAt; rw [hs]; simp [h]
theorem riseAt_next {α : Type} {ok : α → Bool} {lt : α → α → Bool} {l : List α} {k : Nat} {s r : α} (hs : l[k]? = some s) (hr : l[k-1]? = some r) (hk : 0 < k) (h : ok s = true) : riseAt ok lt l k = lt r s := by
  unfold riseAt; rw [hs]; simp only [hr, h, Bool.true_and, decide_eq_false (show ¬ k = 0 by omega), Bool.false_or]
theorem riseL_len {α : Type} {m : Nat} {ok : α → Bool} {lt : α → α → Bool} {l : List α} (h : riseL m ok lt l = true) : l.length ≤ m := by unfold riseL at h; simp only [Bool.and_eq_true, decide_eq_true_eq] at h; exact h.1
theorem riseTo_at {α : Type} {ok : α → Bool} {lt : α → α → Bool} {l : List α} {n : Nat} (h : riseTo ok lt l n = true) {k : Nat} (hk : k < n) : riseAt ok lt l k = true := List.all_eq_true.1 h k (List.mem_range.2 hk)
theorem riseL_ok {α : Type} {m : Nat} {ok : α → Bool} {lt : α → α → Bool} {l : List α} (h : riseL m ok lt l = true) {k : Nat} {s : α} (hs : l[k]? = some s) : ok s = true := by
  unfold riseL at h
  simp only [Bool.and_eq_true, decide_eq_true_eq] at h
  have := riseTo_at h.2 (List.getElem?_eq_some_iff.1 hs).1
  unfold riseAt at this
  rw [hs] at this
  simp only [Bool.and_eq_true] at this
  exact this.1
theorem riseL_mem {α : Type} {m : Nat} {ok : α → Bool} {lt : α → α → Bool} {l : List α} (h : riseL m ok lt l = true) {s : α} (hs : s ∈ l) : ok s = true := by
  obtain ⟨k, hk⟩ := List.getElem?_of_mem hs
  exact riseL_ok h hk
theorem riseL_step {α : Type} {m : Nat} {ok : α → Bool} {lt : α → α → Bool} {l : List α} (h : riseL m ok lt l = true) {k : Nat} {x y : α} (hx : l[k]? = some x) (hy : l[k + 1]? = some y) : lt x y = true := by
  unfold riseL at h
  simp only [Bool.and_eq_true, decide_eq_true_eq] at h
  have := riseTo_at h.2 (List.getElem?_eq_some_iff.1 hy).1
  unfold riseAt at this
  rw [hy] at this
  simp only [Nat.add_sub_cancel, hx, Bool.and_eq_true, Bool.or_eq_true, decide_eq_true_eq] at this
  rcases this.2 with h0 | h0
  · omega
  · exact h0
theorem riseL_lt {α : Type} {m : Nat} {ok : α → Bool} {lt : α → α → Bool} (tr : ∀ a b c, lt a b = true → lt b c = true → lt a c = true) {l : List α} (h : riseL m ok lt l = true) {i j : Nat} {x y : α} (hij : i < j) (hx : l[i]? = some x) (hy : l[j]? = some y) : lt x y = true := by
  obtain ⟨d, rfl⟩ : ∃ d, j = i + d + 1 := ⟨j - i - 1, by omega⟩
  clear hij
  induction d generalizing y with
  | zero => exact riseL_step h hx hy
  | succ d ih =>
    obtain ⟨z, hz, _⟩ := at_lt (l := l) (k := i + d + 1) (by have := (List.getElem?_eq_some_iff.1 hy).1; omega)
    exact tr _ _ _ (ih hz) (riseL_step (k := i + d + 1) h hz (by rw [← hy]; rfl))
/-- a loop that goes through a list of records and stops with 'no' at the first that is bad -/
theorem rise_loop {α : Type} {ok : α → Bool} {lt : α → α → Bool} {l : List α} {R : Type} {no : R} {f : Nat → Unit → (Unit → Option R) → (Unit → Option R) → Option R} {fin : Unit → Option R}
    (step : ∀ k nx s, l[k]? = some s → (ok s = false → f k () nx fin = some no) ∧ (ok s = true → (k = 0 → f k () nx fin = nx ()) ∧ (0 < k → ∀ r, l[k-1]? = some r → (lt r s = true → f k () nx fin = nx ()) ∧ (lt r s = false → f k () nx fin = some no)))) :
    cntK f l.length 0 () fin = if riseTo ok lt l l.length then fin () else some no := by
  have key : ∀ m k, k + m = l.length → riseTo ok lt l k = true → cntK f m k () fin = if riseTo ok lt l l.length then fin () else some no := by
    intro m
    induction m with
    | zero => intro k hk hu; obtain rfl : k = l.length := by omega
              rw [hu]; rfl
    | succ m ih =>
      intro k hk hu
      have hlt : k < l.length := by omega
      obtain ⟨s, hs, _⟩ := at_lt hlt
      obtain ⟨h1, h2⟩ := step k (fun s' => cntK f m (k + 1) s' fin) s hs
      show f k () _ fin = _
      cases hok : ok s with
      | false => rw [h1 hok, riseTo_not (riseAt_bad hs hok) hlt]; rfl
      | true =>
        obtain ⟨h3, h4⟩ := h2 hok
        by_cases hk0 : k = 0
        · rw [h3 hk0]
          subst hk0
          exact ih 1 (by omega) (by rw [riseTo_succ, hu, riseAt_first hs hok]; rfl)
        · obtain ⟨r, hr, _⟩ := at_lt (l := l) (k := k - 1) (by omega)
          obtain ⟨h5, h6⟩ := h4 (by omega) r hr
          cases hl : lt r s with
          | true =>
            rw [h5 hl]
            exact ih (k + 1) (by omega) (by rw [riseTo_succ, hu, riseAt_next hs hr (by omega) hok, hl]; rfl)
          | false => rw [h6 hl, riseTo_not (by rw [riseAt_next hs hr (by omega) hok, hl]) hlt]; rfl
  exact key l.length 0 (by omega) (riseTo_zero ok lt l)
end Go.Proofs.Ytkinlkmmelkdnaa.QOrd

/- Loops that count, that search, and that gather behind what is there already: the plain loops' answers. (QCount) No condition but those of each theorem. -/
namespace Go.Proofs.Ytkinlkmmelkdnaa.QCount
set_option linter.unusedVariables false
set_option linter.unusedSimpArgs false
open Go.RowKit
open Go.Proofs.Ytkinlkmmelkdnaa.GoP Go.Proofs.Ytkinlkmmelkdnaa.PlainStamp Go.Proofs.Ytkinlkmmelkdnaa.QBase Go.Proofs.Ytkinlkmmelkdnaa.QLoop

theorem count_list {α R : Type} {l : List α} {p : α → Bool} {f : Nat → Int → (Int → Option R) → (Int → Option R) → Option R} {fin : Int → Option R}
    (step : ∀ k nx x (s : Nat), l[k]? = some x → s ≤ k → f k (s : Int) nx fin = nx ((if p x = true then s + 1 else s : Nat) : Int)) : cntK f l.length 0 0 fin = fin ((l.filter p).length : Int) := by
  have key : ∀ m k, k + m = l.length → cntK f m k (((l.take k).filter p).length : Int) fin = fin ((l.filter p).length : Int) := by
    intro m
    induction m with
    | zero => intro k hk; obtain rfl : k = l.length := by omega
              rw [List.take_of_length_le (Nat.le_refl _)]; rfl
    | succ m ih =>
      intro k hk
      obtain ⟨x, hx, _⟩ := at_lt (l := l) (k := k) (by omega)
      show f k _ _ fin = _
      have hle : ((l.take k).filter p).length ≤ k := by
        have := List.length_filter_le p (l.take k)
        rw [List.length_take] at this
        omega
      rw [step k _ x _ hx hle, ← ih (k + 1) (by omega), take_next hx, List.filter_append, List.length_append]
      cases hp : p x <;> simp [List.filter, hp]
  exact key l.length 0 (by omega)
theorem count_up {R : Type} {n : Nat} {p : Nat → Bool} {f : Nat → Int → (Int → Option R) → (Int → Option R) → Option R} {fin : Int → Option R}
    (step : ∀ k nx (s : Nat), k < n → s ≤ k → f k (s : Int) nx fin = nx ((if p k = true then s + 1 else s : Nat) : Int)) : cntK f n 0 0 fin = fin (((List.range n).filter p).length : Int) := by
  have h := count_list (l := List.range n) (p := p) (f := f) (fin := fin) (fun k nx x s hx hs => by
    obtain ⟨hk, rfl⟩ := List.getElem?_eq_some_iff.1 hx
    rw [List.length_range] at hk
    rw [List.getElem_range]
    exact step k nx s hk hs)
  rw [List.length_range] at h
  exact h
theorem filter_zero {α : Type} (l : List α) (p : α → Bool) : (((l.filter p).length : Int) == 0) = !(l.any p) := by
  rw [Bool.eq_iff_iff]
  simp only [beq_iff_eq, Bool.not_eq_true', List.any_eq_false]
  constructor
  · intro h x hx hp
    have : x ∈ l.filter p := List.mem_filter.2 ⟨hx, hp⟩
    have := List.length_pos_of_mem this
    omega
  · intro h
    have : l.filter p = [] := List.filter_eq_nil_iff.2 h
    rw [this]; rfl
/-- the first place at which the test holds -/
def firstI {α : Type} (p : α → Bool) (l : List α) : Int := match l.findIdx? p with | some i => (i : Int) | none => -1
theorem find_loop {α R : Type} {l : List α} {p : α → Bool} {f : Nat → Unit → (Unit → Option R) → (Unit → Option R) → Option R} {fin : Unit → Option R} {yes : Nat → Option R}
    (step : ∀ k nx x, l[k]? = some x → f k () nx fin = if p x = true then yes k else nx ()) : cntK f l.length 0 () fin = match l.findIdx? p with | some i => yes i | none => fin () := by
  have key : ∀ m k, k + m = l.length → (∀ i x, i < k → l[i]? = some x → p x = false) → cntK f m k () fin = match l.findIdx? p with | some i => yes i | none => fin () := by
    intro m
    induction m with
    | zero =>
      intro k hk hu; obtain rfl : k = l.length := by omega
      have : l.findIdx? p = none := by
        rw [List.findIdx?_eq_none_iff]
        intro x hx
        obtain ⟨i, hi⟩ := List.getElem?_of_mem hx
        exact hu i x (List.getElem?_eq_some_iff.1 hi).1 hi
      rw [this]; rfl
    | succ m ih =>
      intro k hk hu
      obtain ⟨x, hx, _⟩ := at_lt (l := l) (k := k) (by omega)
      show f k () _ fin = _
      rw [step k _ x hx]
      cases hp : p x with
      | true =>
        have : l.findIdx? p = some k := by
          rw [List.findIdx?_eq_some_iff_getElem]
          obtain ⟨hlt, e⟩ := List.getElem?_eq_some_iff.1 hx
          refine ⟨hlt, by rw [e]; exact hp, fun j hj => ?_⟩
          rw [hu j l[j] hj (List.getElem?_eq_getElem (by omega))]; simp
        rw [this, if_pos rfl]
      | false =>
        rw [if_neg (by simp)]
        refine ih (k + 1) (by omega) (fun i y hi hy => ?_)
        by_cases he : i = k
        · subst he; rw [hx] at hy; obtain rfl := Option.some.inj hy; exact hp
        · exact hu i y (by omega) hy
  exact key l.length 0 (by omega) (fun i x hi _ => by omega)
theorem any_find {α : Type} (p : α → Bool) (l : List α) : decide (0 ≤ firstI p l) = l.any p := by
  unfold firstI
  cases h : l.findIdx? p with
  | none =>
    rw [List.findIdx?_eq_none_iff] at h
    have : l.any p = false := by rw [List.any_eq_false]; intro x hx; rw [h x hx]; simp
    rw [this]; rfl
  | some i =>
    rw [List.findIdx?_eq_some_iff_getElem] at h
    obtain ⟨hi, hp, _⟩ := h
    have : l.any p = true := List.any_eq_true.2 ⟨l[i], List.getElem_mem hi, hp⟩
    rw [this]; simp
theorem gatherA {α β R : Type} {l : List α} {p : α → Bool} {g : α → β} {acc : List β} {f : Nat → List β → (List β → Option R) → (List β → Option R) → Option R} {fin : List β → Option R} (hl : acc.length + l.length ≤ 1099511627776)
    (step : ∀ k nx x s, l[k]? = some x → s.length ≤ 1099511627776 → f k s nx fin = nx (if p x = true then s ++ [g x] else s)) : cntK f l.length 0 acc fin = fin (acc ++ (l.filter p).map g) := by
  have key : ∀ m k, k + m = l.length → cntK f m k (acc ++ ((l.take k).filter p).map g) fin = fin (acc ++ (l.filter p).map g) := by
    intro m
    induction m with
    | zero => intro k hk; obtain rfl : k = l.length := by omega
              rw [List.take_of_length_le (Nat.le_refl _)]; rfl
    | succ m ih =>
      intro k hk
      obtain ⟨x, hx, _⟩ := at_lt (l := l) (k := k) (by omega)
      show f k _ _ fin = _
      have hle : (acc ++ ((l.take k).filter p).map g).length ≤ 1099511627776 := by
        rw [List.length_append, List.length_map]
        have := List.length_filter_le p (l.take k)
        rw [List.length_take] at this
        omega
      rw [step k _ x _ hx hle, ← ih (k + 1) (by omega), take_next hx, List.filter_append, List.map_append]
      cases hp : p x <;> simp [List.filter, hp]
  have h0 := key l.length 0 (by omega)
  simpa using h0
/-- a loop with fuel over what stands from k on -/
theorem gatherL {α β R : Type} {l : List α} {p : α → Bool} {g : α → β} {f : List β × Int → (List β × Int → Option R) → (List β × Int → Option R) → Option R} {fin : List β × Int → Option R}
    (step : ∀ (k : Nat) nx x s, l[k]? = some x → s.length ≤ 1099511627776 → f (s, (k : Int)) nx fin = nx (if p x = true then s ++ [g x] else s, ((k + 1 : Nat) : Int)))
    (stop : ∀ s nx, f (s, (l.length : Int)) nx fin = fin (s, (l.length : Int))) : ∀ (fuel k : Nat) (acc : List β), k ≤ l.length → l.length - k < fuel → acc.length + l.length ≤ 1099511627776 + k → loopK f fuel (acc, (k : Int)) fin = fin (acc ++ ((l.drop k).filter p).map g, (l.length : Int)) := by
  intro fuel
  induction fuel with
  | zero => intro k acc hk hf; omega
  | succ m ih =>
    intro k acc hk hf ha
    show f (acc, (k : Int)) _ fin = _
    by_cases he : k = l.length
    · subst he; rw [stop, List.drop_of_length_le (Nat.le_refl _)]; simp
    · obtain ⟨x, hx, _⟩ := at_lt (l := l) (k := k) (by omega)
      rw [step k _ x acc hx (by omega), ih (k + 1) _ (by omega) (by omega) (by
        split
        · rw [List.length_append, List.length_singleton]; omega
        · omega)]
      obtain ⟨hlt, e⟩ := List.getElem?_eq_some_iff.1 hx
      rw [List.drop_eq_getElem_cons hlt, e]
      cases hp : p x <;> simp [List.filter, hp]
end Go.Proofs.Ytkinlkmmelkdnaa.QCount

/- Loops that test each place, and loops without a count. No condition. -/
namespace Go.Proofs.Ytkinlkmmelkdnaa.QAll
set_option linter.unusedVariables false
set_option linter.unusedSimpArgs false
open Go.RowKit
open Go.Proofs.Ytkinlkmmelkdnaa.GoP Go.Proofs.Ytkinlkmmelkdnaa.QBase Go.Proofs.Ytkinlkmmelkdnaa.QLoop

/-- each number below n is good -/
def allN (n : Nat) (p : Nat → Bool) : Bool := (List.range n).all p
theorem allN_iff {n : Nat} {p : Nat → Bool} : allN n p = true ↔ ∀ i, i < n → p i = true := by unfold allN; simp
theorem allN_no {n k : Nat} {p : Nat → Bool} (hk : k < n) (h : p k = false) : allN n p = false := by
  rw [Bool.eq_false_iff]; intro ha; rw [allN_iff.1 ha k hk] at h; exact absurd h (by simp)
theorem allN_eq {n m : Nat} {p q : Nat → Bool} (h : (∀ i, i < n → p i = true) ↔ (∀ i, i < m → q i = true)) : allN n p = allN m q := by
  rw [Bool.eq_iff_iff, allN_iff, allN_iff]; exact h
theorem all_cnt {ρ : Type} {n : Nat} {p : Nat → Bool} {no : ρ} {f : Nat → Unit → (Unit → Option ρ) → (Unit → Option ρ) → Option ρ} {fin : Unit → Option ρ}
    (step : ∀ k nx, k < n → (p k = false → f k () nx fin = some no) ∧ (p k = true → f k () nx fin = nx ())) : cntK f n 0 () fin = if allN n p = true then fin () else some no := by
  have key : ∀ m k, k + m = n → (∀ i, i < k → p i = true) → cntK f m k () fin = if allN n p = true then fin () else some no := by
    intro m
    induction m with
    | zero => intro k hk hu; obtain rfl : k = n := by omega
              rw [allN_iff.2 hu]; rfl
    | succ m ih =>
      intro k hk hu
      obtain ⟨h1, h2⟩ := step k (fun s' => cntK f m (k + 1) s' fin) (by omega)
      show f k () _ fin = _
      cases hp : p k with
      | false => rw [h1 hp, allN_no (by omega) hp]; rfl
      | true =>
        rw [h2 hp]
        refine ih (k + 1) (by omega) (fun i hi => ?_)
        by_cases he : i = k
        · rw [he]; exact hp
        · exact hu i (by omega)
  exact key n 0 (by omega) (fun i hi => by omega)
theorem lp_ex {σ ρ : Type} {f : σ → (σ → Option ρ) → (σ → Option ρ) → Option ρ} {fin : σ → Option ρ} {Q : ρ → Prop} {n : Nat} (I : Nat → σ → Prop)
    (step : ∀ k s nx, k < n → I k s → (∀ s', I (k + 1) s' → ∃ r, nx s' = some r ∧ Q r) → ∃ r, f s nx fin = some r ∧ Q r) (done : ∀ s nx, I n s → ∃ r, f s nx fin = some r ∧ Q r) :
    ∀ fuel k s, k ≤ n → n - k < fuel → I k s → ∃ r, loopK f fuel s fin = some r ∧ Q r := by
  intro fuel
  induction fuel with
  | zero => intro k s hk hf; omega
  | succ m ih =>
    intro k s hk hf hI
    show ∃ r, f s _ fin = some r ∧ Q r
    by_cases he : k = n
    · subst he; exact done s _ hI
    · exact step k s _ (by omega) hI (fun s' h' => ih (k + 1) s' (by omega) (by omega) h')
theorem all_lp {ρ : Type} {n : Nat} {p : Nat → Bool} {no : ρ} {f : Int → (Int → Option ρ) → (Int → Option ρ) → Option ρ} {fin : Int → Option ρ}
    (step : ∀ (k : Nat) nx, k < n → (p k = false → f (k : Int) nx fin = some no) ∧ (p k = true → f (k : Int) nx fin = nx ((k + 1 : Nat) : Int))) (stop : ∀ nx, f (n : Int) nx fin = fin (n : Int))
    (fuel : Nat) (hf : n < fuel) : loopK f fuel 0 fin = if allN n p = true then fin (n : Int) else some no := by
  have key : ∀ fuel k, k ≤ n → n - k < fuel → (∀ i, i < k → p i = true) → loopK f fuel (k : Int) fin = if allN n p = true then fin (n : Int) else some no := by
    intro fuel
    induction fuel with
    | zero => intro k hk hf; omega
    | succ m ih =>
      intro k hk hf hu
      show f (k : Int) _ fin = _
      by_cases he : k = n
      · subst he; rw [stop, allN_iff.2 hu]; rfl
      · obtain ⟨h1, h2⟩ := step k (fun s' => loopK f m s' fin) (by omega)
        cases hp : p k with
        | false => rw [h1 hp, allN_no (by omega) hp]; rfl
        | true =>
          rw [h2 hp]
          refine ih (k + 1) (by omega) (by omega) (fun i hi => ?_)
          by_cases he : i = k
          · rw [he]; exact hp
          · exact hu i (by omega)
  exact key fuel 0 (by omega) (by omega) (fun i hi => by omega)
theorem next_i {k : Nat} (h : k ≤ 9223372036854775806) : IntKind.i64.wrap ((k : Int) + 1) = ((k + 1 : Nat) : Int) := by rw [wrap_in (by omega) (by omega)]; omega
end Go.Proofs.Ytkinlkmmelkdnaa.QAll

/- Rising rows: what a rising row gives; loops that sum; loops from one on. No condition. -/
namespace Go.Proofs.Ytkinlkmmelkdnaa.QUp
set_option linter.unusedVariables false
set_option linter.unusedSimpArgs false
open Go.RowKit
open Go.Proofs.Ytkinlkmmelkdnaa.GoP Go.Proofs.Ytkinlkmmelkdnaa.QBase Go.Proofs.Ytkinlkmmelkdnaa.QLoop Go.Proofs.Ytkinlkmmelkdnaa.QAll

theorem upTo_at {α : Type} {ok : α → Bool} {id : α → Int} {l : List α} {n : Nat} (h : upTo ok id l n = true) {k : Nat} (hk : k < n) : upAt ok id l k = true := List.all_eq_true.1 h k (List.mem_range.2 hk)
theorem upTo_ok {α : Type} {ok : α → Bool} {id : α → Int} {l : List α} {n : Nat} (h : upTo ok id l n = true) {k : Nat} (hk : k < n) {x : α} (hx : l[k]? = some x) : ok x = true := by
  have := upTo_at h hk
  unfold upAt at this
  rw [hx] at this
  simp only [Bool.and_eq_true] at this
  exact this.1
theorem upTo_step {α : Type} {ok : α → Bool} {id : α → Int} {l : List α} {n : Nat} (h : upTo ok id l n = true) {k : Nat} (hk : k + 1 < n) {x y : α} (hx : l[k]? = some x) (hy : l[k + 1]? = some y) : id x < id y := by
  have := upTo_at h hk
  unfold upAt at this
  rw [hy] at this
  simp only [Nat.add_sub_cancel, hx, Bool.and_eq_true, Bool.or_eq_true, decide_eq_true_eq] at this
  rcases this.2 with h0 | h0
  · omega
  · exact h0
theorem upTo_lt {α : Type} {ok : α → Bool} {id : α → Int} {l : List α} {n : Nat} (h : upTo ok id l n = true) (hn : n ≤ l.length) {i : Nat} : ∀ d {x y : α}, i + d + 1 < n → l[i]? = some x → l[i + d + 1]? = some y → id x < id y := by
  intro d
  induction d with
  | zero => intro x y hk hx hy; exact upTo_step h hk hx hy
  | succ d ih =>
    intro x y hk hx hy
    obtain ⟨z, hz, _⟩ := at_lt (l := l) (k := i + d + 1) (by omega)
    have h1 := ih (by omega) hx hz
    have h2 := upTo_step (k := i + d + 1) h (by omega) hz (by rw [← hy]; rfl)
    omega
/-- rising numbers: the later one is greater -/
theorem up_less {α : Type} {ok : α → Bool} {id : α → Int} {l : List α} (h : upTo ok id l l.length = true) {i j : Nat} {x y : α} (hij : i < j) (hx : l[i]? = some x) (hy : l[j]? = some y) : id x < id y := by
  have hj := (List.getElem?_eq_some_iff.1 hy).1
  exact upTo_lt h (Nat.le_refl _) (j - i - 1) (by omega) hx (by rw [← hy]; congr 1; omega)
/-- a loop with fuel, from k on, by an invariant -/
theorem lp_is {σ ρ : Type} {f : σ → (σ → Option ρ) → (σ → Option ρ) → Option ρ} {fin : σ → Option ρ} {n : Nat} (r : ρ) (I : Nat → σ → Prop)
    (step : ∀ k s nx, k < n → I k s → (∀ s', I (k + 1) s' → nx s' = some r) → f s nx fin = some r) (done : ∀ s nx, I n s → f s nx fin = some r) (fuel : Nat) (k : Nat) (s : σ) (hk : k ≤ n) (hf : n - k < fuel) (hI : I k s) : loopK f fuel s fin = some r := by
  obtain ⟨r', h, rfl⟩ := lp_ex (Q := fun x => x = r) I (fun k s nx hk hI hn => ⟨r, step k s nx hk hI (fun s' h' => by obtain ⟨_, h, rfl⟩ := hn s' h'; exact h), rfl⟩) (fun s nx h => ⟨r, done s nx h, rfl⟩) fuel k s hk hf hI
  exact h
theorem most_eq (a b : Int) (h : (if b < a then a else b) = max a b := by omega) : (if b < a then a else b) = max a b := h
end Go.Proofs.Ytkinlkmmelkdnaa.QUp

/- Draws on tapes: each gives something within its bounds. (QDraw) No condition but those of each theorem. -/
namespace Go.Proofs.Ytkinlkmmelkdnaa.QDraw
set_option linter.unusedVariables false
set_option linter.unusedSimpArgs false
open Go.RowKit
open Go.Proofs.Ytkinlkmmelkdnaa.GoP Go.Proofs.Ytkinlkmmelkdnaa.PlainStamp Go.Proofs.Ytkinlkmmelkdnaa.QBase Go.Proofs.Ytkinlkmmelkdnaa.QLoop

/-- a tape that may be asked m times more -/
def good (t : GoC.Tape) (m : Nat) : Prop := m ≤ t.left ∧ ∀ i, 0 ≤ t.vals i ∧ t.vals i ≤ 255
theorem good_less {t : GoC.Tape} {m n : Nat} (h : good t m) (hn : n ≤ m) : good t n := ⟨Nat.le_trans hn h.1, h.2⟩
theorem good_of {tapes : List Int → GoC.Tape} (h : GoC.Tells tapes) (code : List Int) {m : Nat} (hm : m ≤ 4611686018427387904) : good (tapes code) m := ⟨by rw [h.1]; exact hm, h.2.1 code⟩
theorem next_ok {t : GoC.Tape} {m : Nat} (h : good t (m + 1)) : ∃ b t', GsL1CurNext.P t = some (b, t') ∧ (0 ≤ b ∧ b ≤ 255) ∧ good t' m := by
  unfold GsL1CurNext.P
  rw [if_pos (by have := h.1; omega)]
  exact ⟨_, _, rfl, h.2 0, by have := h.1; show m ≤ t.left - 1; omega, fun i => h.2 (i + 1)⟩
theorem pick_ok {t : GoC.Tape} {m : Nat} {n : Int} (h : good t (m + 2)) : ∃ x t', GsL1CurPick.P t n = some (x, t') ∧ 0 ≤ x ∧ (x < n ∨ n ≤ 1 ∧ x = 0) ∧ x ≤ 65535 ∧ good t' m := by
  simp only [GsL1CurPick.P, letK, iteK_if]
  by_cases hn : n ≤ 1
  · rw [if_pos (by simpa using hn)]
    exact ⟨0, t, rfl, by omega, by omega, by omega, good_less h (by omega)⟩
  · rw [if_neg (by simpa using hn)]
    obtain ⟨b, t1, e1, hb, h1⟩ := next_ok (m := m + 1) h
    rw [e1]
    simp only [bind2_some]
    by_cases h2 : 200 < n
    · rw [if_pos (by simpa using h2)]
      obtain ⟨b2, t2, e2, hb2, h3⟩ := next_ok (m := m) h1
      rw [e2]
      simp only [bind2_some, GsL1CurPick.j0, unp2, letK]
      rw [guardK_pos (by omega), wrap_in (x := b * 256) (by omega) (by omega), wrap_in (by omega) (by omega), Int.tmod_eq_emod_of_nonneg (by omega)]
      have k1 := Int.emod_nonneg (b * 256 + b2) (show n ≠ 0 by omega)
      have k2 := Int.emod_lt_of_pos (b * 256 + b2) (show 0 < n by omega)
      have k3 : (b * 256 + b2) % n ≤ 65535 := by
        by_cases hq : n ≤ 65536
        · omega
        · rw [Int.emod_eq_of_lt (by omega) (by omega)]; omega
      exact ⟨_, _, rfl, k1, .inl k2, by omega, h3⟩
    · rw [if_neg (by simpa using h2)]
      simp only [GsL1CurPick.j0, unp2, letK]
      rw [guardK_pos (by omega), Int.tmod_eq_emod_of_nonneg (by omega)]
      have k1 := Int.emod_nonneg b (show n ≠ 0 by omega)
      have k2 := Int.emod_lt_of_pos b (show 0 < n by omega)
      exact ⟨_, _, rfl, k1, .inl k2, by omega, good_less h1 (by omega)⟩
theorem among_ok {t : GoC.Tape} {m : Nat} {l : List Int} (h : good t (m + 2)) (h0 : 0 < l.length) : ∃ x t', GsL1CurAmong.P t l = some (x, t') ∧ x ∈ l ∧ good t' m := by
  obtain ⟨x, t', e, hx0, hx, _, hg⟩ := pick_ok (n := (l.length : Int)) h
  simp only [GsL1CurAmong.P, e, bind2_some]
  obtain ⟨y, hy, hyi⟩ := at_lt (l := l) (k := x.toNat) (by omega)
  rw [show ((x.toNat : Nat) : Int) = x by omega] at hyi
  exact ⟨y, t', by rw [hyi]; rfl, List.mem_of_getElem? hy, hg⟩
theorem one_ok {t : GoC.Tape} {m : Nat} {n : Int} (h : good t (m + 2)) : ∃ b t', GsL1CurOne.P t n = some (b, t') ∧ good t' m := by
  obtain ⟨x, t', e, _, _, _, hg⟩ := pick_ok (n := n) h
  exact ⟨x == 0, t', by simp only [GsL1CurOne.P, e, bind2_some, letK], hg⟩
end Go.Proofs.Ytkinlkmmelkdnaa.QDraw

/- Chapter 7: hues and shades: the plain functions of the program and of the reference agree, and the laws answer true. (Q7Hue) No condition but those of each theorem. -/
namespace Go.Proofs.Ytkinlkmmelkdnaa.Q7Hue
set_option linter.unusedVariables false
set_option linter.unusedSimpArgs false
open Go.RowKit
open Go.Proofs.Ytkinlkmmelkdnaa.GoP Go.Proofs.Ytkinlkmmelkdnaa.PlainStamp Go.Proofs.Ytkinlkmmelkdnaa.QBase Go.Proofs.Ytkinlkmmelkdnaa.QLoop

def far (a b : Int) : Int := min (max (a - b) (b - a)) (360 - max (a - b) (b - a))
theorem isHue_eq (h : Int) : GiIsHue.P h = some (inB h 0 359) := by simp only [GiIsHue.P, within_eq, Option.bind_some]
theorem l7Hue_eq (h : Int) : GsL7Hue.P h = some (inB h 0 359) := by simp only [GsL7Hue.P, l1In_eq, Option.bind_some]
theorem most_eq (a b : Int) : GsL1Most.P a b = some (max a b) := by
  simp only [GsL1Most.P, letK, iteK_if]
  by_cases h : b < a
  · rw [if_pos (by simpa using h)]; congr 1; omega
  · rw [if_neg (by simpa using h)]; congr 1; omega
theorem least_eq (a b : Int) : GsL1Least.P a b = some (min a b) := by
  simp only [GsL1Least.P, letK, iteK_if]
  by_cases h : a < b
  · rw [if_pos (by simpa using h)]; congr 1; omega
  · rw [if_neg (by simpa using h)]; congr 1; omega
theorem circle_eq {n : Int} (h1 : -360 ≤ n) (h2 : n ≤ 719) : GiOnCircle.P n = some ((n + 360) % 360) := by
  simp only [GiOnCircle.P, letK]
  rw [wrap_in (by omega) (by omega), Int.tmod_eq_emod_of_nonneg (by omega)]
theorem up_eq {a b : Int} (ha : 0 ≤ a ∧ a ≤ 359) (hb : 0 ≤ b ∧ b ≤ 359) : GiUpwards.P a b = some ((b - a + 360) % 360) := by
  simp only [GiUpwards.P, letK]
  rw [wrap_in (by omega) (by omega), circle_eq (by omega) (by omega)]; rfl
theorem dist_eq {a b : Int} (ha : 0 ≤ a ∧ a ≤ 359) (hb : 0 ≤ b ∧ b ≤ 359) : GiLoHueDistance.P a b = some (far a b) := by
  simp only [GiLoHueDistance.P, up_eq ha hb, up_eq hb ha, Option.bind_some, letK, far]
  congr 1; omega
theorem l7Far_eq {a b : Int} (ha : 0 ≤ a ∧ a ≤ 359) (hb : 0 ≤ b ∧ b ≤ 359) : GsL7Far.P a b = some (far a b) := by
  simp only [GsL7Far.P, most_eq, least_eq, Option.bind_some, letK]
  rw [wrap_in (x := a - b) (by omega) (by omega), wrap_in (x := b - a) (by omega) (by omega), wrap_in (by omega) (by omega)]; rfl
def hueRes (a b : Int) : Int × Bool := if (inB a 0 359 && inB b 0 359) = true then (far a b, true) else (0, false)
theorem hue_impl (a b : Int) : GiHueDistance.P a b = some (hueRes a b) := by
  simp only [GiHueDistance.P, isHue_eq, Option.bind_some, letK, joinK, appK, iteK_if, hueRes]
  cases ha : inB a 0 359 with
  | false => simp
  | true =>
    cases hb : inB b 0 359 with
    | false => simp
    | true => simp [dist_eq (inB_of ha) (inB_of hb)]
end Go.Proofs.Ytkinlkmmelkdnaa.Q7Hue

/- Words: the tests of a word of the program and of the reference as plain functions. (QWord) No condition but those of each theorem. -/
namespace Go.Proofs.Ytkinlkmmelkdnaa.QWord
set_option linter.unusedVariables false
set_option linter.unusedSimpArgs false
open Go.RowKit
open Go.Proofs.Ytkinlkmmelkdnaa.GoP Go.Proofs.Ytkinlkmmelkdnaa.PlainStamp Go.Proofs.Ytkinlkmmelkdnaa.QBase Go.Proofs.Ytkinlkmmelkdnaa.QLoop

def small (b : UInt8) : Bool := decide (97 ≤ b.toNat ∧ b.toNat ≤ 122)
def wordB (s : ByteArray) : Bool := inB (s.size : Int) 1 10 && s.toList.all small
theorem size_list (s : ByteArray) : s.toList.length = s.size := by rw [Lib.toList_data]; rfl
theorem isLetter_eq (b : UInt8) : GiIsLetter.P (b.toNat : Int) = some (small b) := by
  simp only [GiIsLetter.P, letK, joinK, appK, iteK_if]
  unfold small
  by_cases h1 : 97 ≤ b.toNat
  · by_cases h2 : b.toNat ≤ 122
    · simp [h1, h2, show (97 : Int) ≤ b.toNat by omega, show (b.toNat : Int) ≤ 122 by omega]
    · simp [h1, h2, show (97 : Int) ≤ b.toNat by omega, show ¬ (b.toNat : Int) ≤ 122 by omega]
  · simp [h1, show ¬ (97 : Int) ≤ b.toNat by omega]
theorem isWord_eq (s : ByteArray) : GiIsWord.P s = some (wordB s) := by
  cases hb : inB (s.size : Int) 1 10 with
  | false => simp only [GiIsWord.P, within_eq, hb, Option.bind_some, letK, iteK_if, wordB]; rfl
  | true =>
    have h := inB_of hb
    simp only [GiIsWord.P, within_eq, hb, Option.bind_some, letK, iteK_if]
    rw [if_neg (by simp), guardK_pos (by omega)]
    refine cnt_is _ (fun k _ => (s.toList.take k).all small = true) ?_ ?_ () rfl
    · intro k u nx hk hI hn
      obtain ⟨y, hy, hi⟩ := at_lt (l := s.toList) (k := k) (by rw [size_list]; exact hk)
      simp only [GiIsWord.l0, hi, Option.bind_some, letK, joinK, appK, iteK_if, isLetter_eq]
      cases hs : small y with
      | false =>
        have : wordB s = false := by unfold wordB; rw [not_all hy hs, Bool.and_false]
        simp [this]
      | true => exact hn () (by rw [all_next hy, hI, hs]; rfl)
    · intro u hI
      rw [List.take_of_length_le (by rw [size_list]; exact Nat.le_refl _)] at hI
      simp [GiIsWord.e0, wordB, hb, hI]
theorem l2Word_eq (s : ByteArray) (hz : s.size ≤ 9223372036854775807) : GsL2Word.P s = some (wordB s) := by
  simp only [GsL2Word.P]
  rw [guardK_pos hz]
  refine cnt_is _ (fun k _ => (s.toList.take k).all small = true) ?_ ?_ () rfl
  · intro k u nx hk hI hn
    obtain ⟨y, hy, hi⟩ := at_lt (l := s.toList) (k := k) (by rw [size_list]; exact hk)
    simp only [GsL2Word.l0, hi, Option.bind_some, letK, joinK, appK, iteK_if]
    by_cases h1 : (y.toNat : Int) < 97
    · have : wordB s = false := by unfold wordB; rw [not_all hy (by unfold small; simp; omega), Bool.and_false]
      simp [h1, this]
    · by_cases h2 : (122 : Int) < (y.toNat : Int)
      · have : wordB s = false := by unfold wordB; rw [not_all hy (by unfold small; simp; omega), Bool.and_false]
        simp [h1, h2, this]
      · simp [h1, h2]
        exact hn () (by rw [all_next hy, hI]; unfold small; simp; omega)
  · intro u hI
    rw [List.take_of_length_le (by rw [size_list]; exact Nat.le_refl _)] at hI
    simp [GsL2Word.e0, wordB, l1In_eq, hI]
theorem word_len {s : ByteArray} (h : wordB s = true) : 1 ≤ s.size ∧ s.size ≤ 10 := by
  unfold wordB at h
  simp only [Bool.and_eq_true] at h
  have := inB_of h.1; omega
end Go.Proofs.Ytkinlkmmelkdnaa.QWord

/- Chapter 7: hues and shades: the plain functions of the program and of the reference agree, and the laws answer true. (Q7Shade) No condition but those of each theorem. -/
namespace Go.Proofs.Ytkinlkmmelkdnaa.Q7Shade
set_option linter.unusedVariables false
set_option linter.unusedSimpArgs false
open Go.RowKit
open Go.Proofs.Ytkinlkmmelkdnaa.GoP Go.Proofs.Ytkinlkmmelkdnaa.PlainStamp Go.Proofs.Ytkinlkmmelkdnaa.QBase Go.Proofs.Ytkinlkmmelkdnaa.Q7Hue Go.Proofs.Ytkinlkmmelkdnaa.QWord Go.Proofs.Ytkinlkmmelkdnaa.QOrd Go.Proofs.Ytkinlkmmelkdnaa.QLoop Go.Proofs.Ytkinlkmmelkdnaa.PShade

theorem isLight_eq (h : Int) : GiIsLightness.P h = some (inB h 0 100) := by simp only [GiIsLightness.P, within_eq, Option.bind_some]
def okSh (x : Shade) : Bool := wordB x.name && inB x.hue 0 359 && inB x.width 0 179 && inB x.dark 0 100 && inB x.light 0 100 && decide (x.dark ≤ x.light)
theorem fits_name {x : Shade} (h : x.fits) : x.name.size ≤ 9223372036854775807 := h.1
theorem isShade_eq (x : Shade) : GiIsShade.P x = some (okSh x) := by
  obtain ⟨a, b, c, d, e⟩ := x
  simp only [GiIsShade.P, unShade, isWord_eq, isHue_eq, isLight_eq, within_eq, Option.bind_some, letK, joinK, appK, iteK_if, okSh]
  cases wordB a <;> cases inB b 0 359 <;> cases inB c 0 179 <;> cases inB d 0 100 <;> cases inB e 0 100 <;> simp
theorem l7One_eq (x : Shade) (h : x.fits) : GsL7One.P x = some (okSh x) := by
  have hz := fits_name h
  obtain ⟨a, b, c, d, e⟩ := x
  have hx : (inB e 0 100 && inB d 0 e) = (inB d 0 100 && inB e 0 100 && decide (d ≤ e)) := by unfold inB; rw [Bool.eq_iff_iff]; simp; omega
  simp only [GsL7One.P, unShade, l2Word_eq a hz, l7Hue_eq, l1In_eq, Option.bind_some, letK, joinK, appK, iteK_if, okSh]
  have hy : (wordB a && inB b 0 359 && inB c 0 179 && inB d 0 100 && inB e 0 100 && decide (d ≤ e)) = (wordB a && inB b 0 359 && inB c 0 179 && (inB e 0 100 && inB d 0 e)) := by rw [hx]; simp [Bool.and_assoc]
  rw [hy]
  cases wordB a <;> cases inB b 0 359 <;> cases inB c 0 179 <;> cases inB e 0 100 <;> simp
theorem okSh_of {x : Shade} (h : okSh x = true) : (0 ≤ x.hue ∧ x.hue ≤ 359) ∧ (0 ≤ x.width ∧ x.width ≤ 179) ∧ (0 ≤ x.dark ∧ x.dark ≤ 100) ∧ (0 ≤ x.light ∧ x.light ≤ 100) ∧ x.dark ≤ x.light ∧ wordB x.name = true := by
  unfold okSh at h
  simp only [Bool.and_eq_true, decide_eq_true_eq] at h
  exact ⟨inB_of h.1.1.1.1.2, inB_of h.1.1.1.2, inB_of h.1.1.2, inB_of h.1.2, h.2, h.1.1.1.1.1⟩
end Go.Proofs.Ytkinlkmmelkdnaa.Q7Shade

/- Chapter 7: hues and shades: the plain functions of the program and of the reference agree, and the laws answer true. (Q7List) No condition but those of each theorem. -/
namespace Go.Proofs.Ytkinlkmmelkdnaa.Q7List
set_option linter.unusedVariables false
set_option linter.unusedSimpArgs false
open Go.RowKit
open Go.Proofs.Ytkinlkmmelkdnaa.GoP Go.Proofs.Ytkinlkmmelkdnaa.PlainStamp Go.Proofs.Ytkinlkmmelkdnaa.QBase Go.Proofs.Ytkinlkmmelkdnaa.Q7Shade Go.Proofs.Ytkinlkmmelkdnaa.QOrd Go.Proofs.Ytkinlkmmelkdnaa.QLoop Go.Proofs.Ytkinlkmmelkdnaa.PShade

def nameLt (r s : Shade) : Bool := bl r.name s.name
def okShs (l : List Shade) : Bool := riseL 12 okSh nameLt l
theorem areShades_eq (l : List Shade) (hl : l.length ≤ 9223372036854775807) : GiAreShades.P l = some (okShs l) := by
  simp only [GiAreShades.P, GiAreByKeyShadeStringiIsShadeiNameOfShade.P, letK, iteK_if]
  by_cases h12 : l.length ≤ 12
  · rw [if_neg (by simp; omega), rise_loop (ok := okSh) (lt := nameLt) (no := false)]
    · unfold okShs riseL; cases riseTo okSh nameLt l l.length <;> simp [h12, GiAreByKeyShadeStringiIsShadeiNameOfShade.e0]
    · intro k nx s hs
      have hi : idx l (k : Int) = some s := by rw [idx_nat, hs]
      have hk : k < l.length := (List.getElem?_eq_some_iff.1 hs).1
      simp only [GiAreByKeyShadeStringiIsShadeiNameOfShade.l0, hi, Option.bind_some, unShade, isShade_eq, GiNameOfShade.P, letK, joinK, appK, iteK_if, bl_le]
      refine ⟨fun h => by simp [h], fun h => ⟨fun h0 => by subst h0; simp [h], fun h0 r hr => ?_⟩⟩
      rw [idx_pred h0 (by omega) hr]
      have hk0 : (0 : Int) < (k : Int) := by omega
      have hk1 : ¬ k = 0 := by omega
      exact ⟨fun hlt => by (have hc : bl r.name s.name = true := hlt); simp [h, hk0, hk1, hc], fun hge => by (have hc : bl r.name s.name = false := hge); simp [h, hk0, hk1, hc]⟩
  · rw [if_pos (by simp; omega)]; unfold okShs riseL; simp [h12]
theorem l7Good_eq (l : List Shade) (hf : ∀ s ∈ l, s.fits) (hl : l.length ≤ 9223372036854775807) : GsL7Good.P l = some (okShs l) := by
  simp only [GsL7Good.P]
  rw [rise_loop (ok := okSh) (lt := nameLt) (no := false)]
  · unfold okShs riseL; cases riseTo okSh nameLt l l.length <;> simp [GsL7Good.e0, letK]; omega
  · intro k nx s hs
    have hi : idx l (k : Int) = some s := by rw [idx_nat, hs]
    have hk : k < l.length := (List.getElem?_eq_some_iff.1 hs).1
    have hm := hf s (List.mem_of_getElem? hs)
    have h1 := l7One_eq s hm
    simp only [GsL7Good.l0, hi, Option.bind_some, unShade, h1, letK, joinK, appK, iteK_if, bl_lt]
    refine ⟨fun h => by simp [h], fun h => ⟨fun h0 => by subst h0; simp [h], fun h0 r hr => ?_⟩⟩
    rw [idx_pred h0 (by omega) hr]
    have hk0 : (0 : Int) < (k : Int) := by omega
    have hk1 : ¬ k = 0 := by omega
    exact ⟨fun hlt => by (have hc : bl r.name s.name = true := hlt); simp [h, hk0, hk1, hc], fun hge => by (have hc : bl r.name s.name = false := hge); simp [h, hk0, hk1, hc]⟩
theorem shs_mem {l : List Shade} (h : okShs l = true) {x : Shade} (hx : x ∈ l) : okSh x = true := riseL_mem h hx
end Go.Proofs.Ytkinlkmmelkdnaa.Q7List

/- Chapter 7: hues and shades: the plain functions of the program and of the reference agree, and the laws answer true. (Q7Takes) No condition but those of each theorem. -/
namespace Go.Proofs.Ytkinlkmmelkdnaa.Q7Takes
set_option linter.unusedVariables false
set_option linter.unusedSimpArgs false
open Go.RowKit
open Go.Proofs.Ytkinlkmmelkdnaa.GoP Go.Proofs.Ytkinlkmmelkdnaa.PlainStamp Go.Proofs.Ytkinlkmmelkdnaa.QBase Go.Proofs.Ytkinlkmmelkdnaa.Q7List Go.Proofs.Ytkinlkmmelkdnaa.Q7Shade Go.Proofs.Ytkinlkmmelkdnaa.Q7Hue Go.Proofs.Ytkinlkmmelkdnaa.QLoop Go.Proofs.Ytkinlkmmelkdnaa.PShade

def takesB (x : Shade) (hue light : Int) : Bool := decide (far x.hue hue ≤ x.width) && inB light x.dark x.light
theorem takesIn_eq {x : Shade} {hue : Int} (light : Int) (hx : okSh x = true) (hh : 0 ≤ hue ∧ hue ≤ 359) : GiTakesIn.P x hue light = some (takesB x hue light) := by
  have h1 := okSh_of hx
  obtain ⟨a, b, c, d, e⟩ := x
  dsimp only at h1
  simp only [GiTakesIn.P, unShade, dist_eq h1.1 hh, within_eq, Option.bind_some, letK, joinK, appK, iteK_if, takesB]
  by_cases h : far b hue ≤ c <;> simp [h]
theorem l7Takes_eq {x : Shade} {hue : Int} (light : Int) (hx : okSh x = true) (hh : 0 ≤ hue ∧ hue ≤ 359) : GsL7Takes.P x hue light = some (takesB x hue light) := by
  have h1 := okSh_of hx
  obtain ⟨a, b, c, d, e⟩ := x
  dsimp only at h1
  simp only [GsL7Takes.P, unShade, l7Far_eq h1.1 hh, l1In_eq, Option.bind_some, letK, joinK, appK, iteK_if, takesB]
  by_cases h : far b hue ≤ c <;> simp [h]
theorem canLook_eq (l : List Shade) (hue light : Int) (hl : l.length ≤ 9223372036854775807) : GiCanLook.P l hue light = some (okShs l && inB hue 0 359 && inB light 0 100) := by
  simp only [GiCanLook.P, areShades_eq l hl, isHue_eq, isLight_eq, Option.bind_some, joinK, appK, iteK_if]
  cases okShs l <;> cases inB hue 0 359 <;> simp
end Go.Proofs.Ytkinlkmmelkdnaa.Q7Takes

/- Chapter 7: hues and shades: the plain functions of the program and of the reference agree, and the laws answer true. (Q7Min) No condition but those of each theorem. -/
namespace Go.Proofs.Ytkinlkmmelkdnaa.Q7Min
set_option linter.unusedVariables false
set_option linter.unusedSimpArgs false
open Go.RowKit
open Go.Proofs.Ytkinlkmmelkdnaa.GoP Go.Proofs.Ytkinlkmmelkdnaa.PlainStamp Go.Proofs.Ytkinlkmmelkdnaa.QBase Go.Proofs.Ytkinlkmmelkdnaa.QOrd Go.Proofs.Ytkinlkmmelkdnaa.QCount Go.Proofs.Ytkinlkmmelkdnaa.QUp Go.Proofs.Ytkinlkmmelkdnaa.QAll Go.Proofs.Ytkinlkmmelkdnaa.Q7Takes Go.Proofs.Ytkinlkmmelkdnaa.Q7List Go.Proofs.Ytkinlkmmelkdnaa.Q7Shade Go.Proofs.Ytkinlkmmelkdnaa.Q7Hue Go.Proofs.Ytkinlkmmelkdnaa.QLoop Go.Proofs.Ytkinlkmmelkdnaa.PShade

/-- x is better than m -/
def betB (hue : Int) (x m : Shade) : Bool := decide (far x.hue hue < far m.hue hue) || (far x.hue hue == far m.hue hue && decide (x.width < m.width))
def minStep (hue : Int) (m x : Shade) : Shade := if betB hue x m = true then x else m
def bestOf (hue : Int) (f : List Shade) : Option Shade := match f with | [] => none | a :: r => some (r.foldl (minStep hue) a)
theorem bestOf_snoc (hue : Int) (f : List Shade) (x : Shade) : bestOf hue (f ++ [x]) = some (match bestOf hue f with | none => x | some m => minStep hue m x) := by
  cases f with
  | nil => rfl
  | cons a r => simp [bestOf]
theorem bestOf_none {hue : Int} {f : List Shade} : bestOf hue f = none ↔ f = [] := by cases f <;> simp [bestOf]
theorem compare_eq (x y : Int) : GxCmpCompareInt.P x y = some (if x < y then -1 else if y < x then 1 else 0) := by
  simp only [GxCmpCompareInt.P, GxCmpIsNaNInt.P, Option.bind_some, letK, iteK_if]
  by_cases h1 : x < y
  · simp [h1]
  · by_cases h2 : y < x <;> simp [h1, h2]
theorem or_eq (a b : Int) : GxCmpOrInt.P [a, b] = some (if a = 0 then b else a) := by
  have h0 : idx [a, b] ((0 : Nat) : Int) = some a := rfl
  have h1 : idx [a, b] ((1 : Nat) : Int) = some b := rfl
  show cntK (GxCmpOrInt.l0 [a, b]) 2 0 () GxCmpOrInt.e0 = _
  simp only [cntK, GxCmpOrInt.l0, h0, h1, Option.bind_some, letK, iteK_if, appK, GxCmpOrInt.e0, Nat.zero_add]
  by_cases ha : a = 0
  · by_cases hb : b = 0 <;> simp [ha, hb]
  · simp [ha]
theorem cmp_eq {x m : Shade} {hue : Int} (hx : okSh x = true) (hm : okSh m = true) (hh : 0 ≤ hue ∧ hue ≤ 359) : ∃ c, GiBestShade2.P x m hue = some c ∧ decide (c < 0) = betB hue x m := by
  have h1 := okSh_of hx
  have h2 := okSh_of hm
  obtain ⟨a, b, c, d, e⟩ := x
  obtain ⟨a2, b2, c2, d2, e2⟩ := m
  dsimp only at h1 h2
  simp only [GiBestShade2.P, unShade, dist_eq h1.1 hh, dist_eq h2.1 hh, compare_eq, or_eq, Option.bind_some, letK]
  refine ⟨_, rfl, ?_⟩
  unfold betB
  dsimp only
  by_cases h3 : far b hue < far b2 hue
  · simp [h3]
  · by_cases h4 : far b2 hue < far b hue
    · have h5 : ¬ far b hue = far b2 hue := by omega
      simp [h3, h4, h5]
    · have h5 : far b hue = far b2 hue := by omega
      by_cases h6 : c < c2
      · simp [h5, h6]
      · by_cases h7 : c2 < c <;> simp [h5, h6, h7]
theorem min_eq {l : List Shade} (hok : ∀ x ∈ l, okSh x = true) (h12 : l.length ≤ 12) {hue : Int} (hh : 0 ≤ hue ∧ hue ≤ 359) (fuel : Nat) (hfu : 100 ≤ fuel) {m0 : Shade} (hb : bestOf hue l = some m0) :
    GxSlicesMinFuncLoopExampleG01062ImplShadeLoopExampleG01062ImplShadeiBestShade2.P fuel l hue = some m0 := by
  have hpos : 0 < l.length := by
    cases l with
    | nil => simp [bestOf] at hb
    | cons a r => simp
  obtain ⟨a, ha, hai⟩ := at_lt (l := l) (k := 0) hpos
  have hai' : idx l 0 = some a := hai
  simp only [GxSlicesMinFuncLoopExampleG01062ImplShadeLoopExampleG01062ImplShadeiBestShade2.P, letK, iteK_if]
  rw [if_neg (by simp; omega)]
  simp only [GxSlicesMinFuncLoopExampleG01062ImplShadeLoopExampleG01062ImplShadeiBestShade2.j0, hai', Option.bind_some, unShade]
  refine lp_is (n := l.length) _ (fun k (s : Int × ByteArray × Int × Int × Int × Int) => ∃ m : Shade, s = ((k : Int), m.name, m.hue, m.width, m.dark, m.light) ∧ bestOf hue (l.take k) = some m ∧ okSh m = true) ?_ ?_ fuel 1 _ (by omega) (by omega) ?_
  · rintro k s nx hk ⟨m, rfl, hm, hom⟩ hn
    obtain ⟨x, hx, hxi⟩ := at_lt (l := l) (k := k) hk
    have hox := hok x (List.mem_of_getElem? hx)
    obtain ⟨c, hc, hcb⟩ := cmp_eq hox hom hh
    have hc' : GiBestShade2.P ⟨x.name, x.hue, x.width, x.dark, x.light⟩ ⟨m.name, m.hue, m.width, m.dark, m.light⟩ hue = some c := hc
    simp only [GxSlicesMinFuncLoopExampleG01062ImplShadeLoopExampleG01062ImplShadeiBestShade2.l0, unp6, letK, iteK_if]
    rw [if_pos (by simp; omega)]
    simp only [hxi, Option.bind_some, unShade, hc', hcb, appK]
    rw [wrap_in (by omega) (by omega)]
    have hs := bestOf_snoc hue (l.take k) x
    rw [hm, ← take_next hx] at hs
    cases hbb : betB hue x m with
    | true => rw [if_pos rfl]; exact hn _ ⟨x, rfl, by rw [hs]; simp [minStep, hbb], hox⟩
    | false => rw [if_neg (by simp)]; exact hn _ ⟨m, rfl, by rw [hs]; simp [minStep, hbb], hom⟩
  · rintro s nx ⟨m, rfl, hm, hom⟩
    rw [List.take_of_length_le (Nat.le_refl _), hb] at hm
    obtain rfl := Option.some.inj hm
    simp only [GxSlicesMinFuncLoopExampleG01062ImplShadeLoopExampleG01062ImplShadeiBestShade2.l0, unp6, letK, iteK_if, appK, GxSlicesMinFuncLoopExampleG01062ImplShadeLoopExampleG01062ImplShadeiBestShade2.e0]
    rw [if_neg (by simp)]
  · refine ⟨a, rfl, ?_, hok a (List.mem_of_getElem? ha)⟩
    rw [take_next (k := 0) ha]; rfl
end Go.Proofs.Ytkinlkmmelkdnaa.Q7Min

/- Chapter 7: hues and shades: the plain functions of the program and of the reference agree, and the laws answer true. (Q7Meet) No condition but those of each theorem. -/
namespace Go.Proofs.Ytkinlkmmelkdnaa.Q7Meet
set_option linter.unusedVariables false
set_option linter.unusedSimpArgs false
open Go.RowKit
open Go.Proofs.Ytkinlkmmelkdnaa.GoP Go.Proofs.Ytkinlkmmelkdnaa.PlainStamp Go.Proofs.Ytkinlkmmelkdnaa.QBase Go.Proofs.Ytkinlkmmelkdnaa.Q7Shade Go.Proofs.Ytkinlkmmelkdnaa.Q7Hue Go.Proofs.Ytkinlkmmelkdnaa.QLoop Go.Proofs.Ytkinlkmmelkdnaa.PShade

def meetB (x y : Shade) : Bool := decide (far x.hue y.hue ≤ x.width + y.width) && decide (x.dark ≤ y.light) && decide (y.dark ≤ x.light)
theorem overlaps_eq {x y : Shade} (hx : okSh x = true) (hy : okSh y = true) : GiOverlaps.P x y = some (meetB x y) := by
  have h1 := okSh_of hx
  have h2 := okSh_of hy
  obtain ⟨a, b, c, d, e⟩ := x
  obtain ⟨a2, b2, c2, d2, e2⟩ := y
  dsimp only at h1 h2
  simp only [GiOverlaps.P, unShade, dist_eq h1.1 h2.1, Option.bind_some, letK, joinK, appK, iteK_if, meetB]
  rw [wrap_in (by omega) (by omega)]
  have : decide (max d d2 ≤ min e e2) = (decide (d ≤ e2) && decide (d2 ≤ e)) := by rw [Bool.eq_iff_iff]; simp; omega
  rw [this]
  by_cases h : far b b2 ≤ c + c2 <;> simp [h]
theorem l7Meet_eq {x y : Shade} (hx : okSh x = true) (hy : okSh y = true) : GsL7Meet.P x y = some (meetB x y) := by
  have h1 := okSh_of hx
  have h2 := okSh_of hy
  obtain ⟨a, b, c, d, e⟩ := x
  obtain ⟨a2, b2, c2, d2, e2⟩ := y
  dsimp only at h1 h2
  simp only [GsL7Meet.P, unShade, l7Far_eq h1.1 h2.1, Option.bind_some, letK, joinK, appK, iteK_if, meetB]
  rw [wrap_in (by omega) (by omega)]
  by_cases h : far b b2 ≤ c + c2 <;> by_cases h3 : d ≤ e2 <;> simp [h, h3]
end Go.Proofs.Ytkinlkmmelkdnaa.Q7Meet

/- Draws of shades on tapes: each gives something small. (Q7FnHelp) No condition but those of each theorem. -/
namespace Go.Proofs.Ytkinlkmmelkdnaa.Q7FnHelp
set_option linter.unusedVariables false
set_option linter.unusedSimpArgs false
open Go.RowKit
open Go.Proofs.Ytkinlkmmelkdnaa.GoP Go.Proofs.Ytkinlkmmelkdnaa.PlainStamp Go.Proofs.Ytkinlkmmelkdnaa.QBase Go.Proofs.Ytkinlkmmelkdnaa.QOrd Go.Proofs.Ytkinlkmmelkdnaa.QCount Go.Proofs.Ytkinlkmmelkdnaa.Q7Min Go.Proofs.Ytkinlkmmelkdnaa.Q7Meet Go.Proofs.Ytkinlkmmelkdnaa.Q7Takes Go.Proofs.Ytkinlkmmelkdnaa.Q7List Go.Proofs.Ytkinlkmmelkdnaa.Q7Shade Go.Proofs.Ytkinlkmmelkdnaa.Q7Hue Go.Proofs.Ytkinlkmmelkdnaa.QLoop Go.Proofs.Ytkinlkmmelkdnaa.PShade

theorem rTexts_self (l : List ByteArray) : GlRTexts.P l l = some true := by
  simp only [GlRTexts.P, letK, iteK_if]
  rw [if_neg (by simp)]
  refine cnt_is true (fun _ _ => True) ?_ (fun s _ => rfl) () trivial
  intro k s nx hk _ hn
  obtain ⟨x, hx, hi⟩ := at_lt (l := l) (k := k) hk
  simp only [GlRTexts.l0, hi, Option.bind_some, letK, appK, iteK_if]
  rw [if_neg (by simp)]
  exact hn () trivial
theorem rPairs_self (l : List (List ByteArray)) : GlRPairs.P l l = some true := by
  simp only [GlRPairs.P, letK, iteK_if]
  rw [if_neg (by simp)]
  refine cnt_is true (fun _ _ => True) ?_ (fun s _ => rfl) () trivial
  rintro k ⟨⟩ nx hk _ hn
  obtain ⟨x, hx, hi⟩ := at_lt (l := l) (k := k) hk
  simp only [GlRPairs.l0, hi, Option.bind_some, rTexts_self, letK, appK, iteK_if]
  rw [if_neg (by simp)]
  exact hn () trivial
theorem rHas_eq (l : List ByteArray) (s : ByteArray) : GlRHasText.P l s = some (l.any fun x => decide (x = s)) := by
  simp only [GlRHasText.P]
  rw [find_loop (p := fun x => decide (x = s)) (yes := fun _ => some true)]
  · rw [← any_find]
    unfold firstI
    cases l.findIdx? fun x => decide (x = s) <;> rfl
  · intro k nx x hx
    have hi : idx l (k : Int) = some x := by rw [idx_nat, hx]
    simp only [GlRHasText.l0, hi, Option.bind_some, letK, appK, iteK_if, eq_list]
theorem fold_best (hue : Int) : ∀ (r : List Shade) (a : Shade), (r.foldl (minStep hue) a = a ∨ r.foldl (minStep hue) a ∈ r) ∧ far (r.foldl (minStep hue) a).hue hue ≤ far a.hue hue ∧ ∀ x ∈ r, far (r.foldl (minStep hue) a).hue hue ≤ far x.hue hue
  | [], a => ⟨Or.inl rfl, Int.le_refl _, by simp⟩
  | y :: r, a => by
    have hs : (minStep hue a y = a ∨ minStep hue a y = y) ∧ far (minStep hue a y).hue hue ≤ far a.hue hue ∧ far (minStep hue a y).hue hue ≤ far y.hue hue := by
      unfold minStep
      cases hb : betB hue y a with
      | true =>
        have : far y.hue hue ≤ far a.hue hue := by
          unfold betB at hb
          simp only [Bool.or_eq_true, decide_eq_true_eq, Bool.and_eq_true, beq_iff_eq] at hb
          omega
        exact ⟨Or.inr rfl, this, Int.le_refl _⟩
      | false =>
        have : far a.hue hue ≤ far y.hue hue := by
          unfold betB at hb
          simp only [Bool.or_eq_false_iff, decide_eq_false_iff_not] at hb
          omega
        exact ⟨Or.inl rfl, Int.le_refl _, this⟩
    obtain ⟨h1, h2, h3⟩ := fold_best hue r (minStep hue a y)
    rw [List.foldl_cons]
    refine ⟨?_, by omega, fun x hx => ?_⟩
    · rcases h1 with h1 | h1
      · rw [h1]
        rcases hs.1 with h4 | h4
        · exact Or.inl h4
        · rw [h4]; exact Or.inr (by simp)
      · exact Or.inr (List.mem_cons_of_mem _ h1)
    · rcases List.mem_cons.1 hx with rfl | hx
      · omega
      · exact h3 x hx
theorem best_is {hue : Int} {f : List Shade} {m : Shade} (h : bestOf hue f = some m) : m ∈ f ∧ ∀ x ∈ f, far m.hue hue ≤ far x.hue hue := by
  cases f with
  | nil => simp [bestOf] at h
  | cons a r =>
    simp only [bestOf, Option.some.injEq] at h
    obtain ⟨h1, h2, h3⟩ := fold_best hue r a
    rw [h] at h1 h2 h3
    refine ⟨?_, fun x hx => ?_⟩
    · rcases h1 with h1 | h1
      · rw [h1]; simp
      · exact List.mem_cons_of_mem _ h1
    · rcases List.mem_cons.1 hx with rfl | hx
      · exact h2
      · exact h3 x hx
theorem meet_symm (x y : Shade) : meetB x y = meetB y x := by
  unfold meetB far
  rw [Bool.eq_iff_iff]
  simp only [Bool.and_eq_true, decide_eq_true_eq]
  omega
theorem name_uniq {l : List Shade} (hc : okShs l = true) {x y : Shade} (hx : x ∈ l) (hy : y ∈ l) (e : x.name = y.name) : x = y := by
  obtain ⟨i, hi⟩ := List.getElem?_of_mem hx
  obtain ⟨j, hj⟩ := List.getElem?_of_mem hy
  have tr : ∀ a b c : Shade, nameLt a b = true → nameLt b c = true → nameLt a c = true := fun a b c h1 h2 => bl_trans h1 h2
  rcases Nat.lt_trichotomy i j with h | h | h
  · exact absurd e (bl_ne (riseL_lt tr hc h hi hj))
  · subst h; exact Option.some.inj (hi.symm.trans hj)
  · exact absurd e.symm (bl_ne (riseL_lt tr hc h hj hi))
end Go.Proofs.Ytkinlkmmelkdnaa.Q7FnHelp

/- Draws of shades on tapes: each gives something small. (Q7Draws) No condition but those of each theorem. -/
namespace Go.Proofs.Ytkinlkmmelkdnaa.Q7Draws
set_option linter.unusedVariables false
set_option linter.unusedSimpArgs false
open Go.RowKit
open Go.Proofs.Ytkinlkmmelkdnaa.GoP Go.Proofs.Ytkinlkmmelkdnaa.PlainStamp Go.Proofs.Ytkinlkmmelkdnaa.QBase Go.Proofs.Ytkinlkmmelkdnaa.QDraw Go.Proofs.Ytkinlkmmelkdnaa.QUp Go.Proofs.Ytkinlkmmelkdnaa.QAll Go.Proofs.Ytkinlkmmelkdnaa.QLoop Go.Proofs.Ytkinlkmmelkdnaa.PShade

def sm (x : Shade) : Prop := x.name.size ≤ 20 ∧ (-1000 ≤ x.hue ∧ x.hue ≤ 1000) ∧ (-1000 ≤ x.width ∧ x.width ≤ 1000) ∧ (-1000 ≤ x.dark ∧ x.dark ≤ 1000) ∧ (-1000 ≤ x.light ∧ x.light ≤ 1000)
theorem wf_small {n : Int} (h : -1000 ≤ n ∧ n ≤ 1000) : (Lit.int .i64 n).wf = true := by
  simp only [Lit.wf, Bool.and_eq_true, decide_eq_true_eq]
  exact ⟨Int.le_trans (by decide) h.1, Int.le_trans h.2 (by decide)⟩
theorem fits_sm {x : Shade} (h : sm x) : x.fits := ⟨by have := h.1; unfold maxLen; omega, wf_small h.2.1, wf_small h.2.2.1, wf_small h.2.2.2.1, wf_small h.2.2.2.2⟩
theorem of_ok {t : GoC.Tape} {m : Nat} {l : List ByteArray} (h : good t (m + 2)) (h0 : 0 < l.length) : ∃ x t', GsL1CurOf.P t l = some (x, t') ∧ x ∈ l ∧ good t' m := by
  obtain ⟨x, t', e, hx0, hx, _, hg⟩ := pick_ok (n := (l.length : Int)) h
  simp only [GsL1CurOf.P, e, bind2_some]
  obtain ⟨y, hy, hyi⟩ := at_lt (l := l) (k := x.toNat) (by omega)
  rw [show ((x.toNat : Nat) : Int) = x by omega] at hyi
  exact ⟨y, t', by rw [hyi]; rfl, List.mem_of_getElem? hy, hg⟩
theorem shade7_ok {t : GoC.Tape} {m : Nat} (name : ByteArray) (hn : name.size ≤ 20) (h : good t (m + 12)) : ∃ x t', GsL1CurShade7.P t name = some (x, t') ∧ sm x ∧ good t' m := by
  obtain ⟨a, t1, e1, m1, h1⟩ := among_ok (l := [0, 5, 20, 180, 350, 359]) (m := m + 10) h (by simp)
  obtain ⟨b, t2, e2, m2, h2⟩ := among_ok (l := [0, 5, 10, 15, 90, 179]) (m := m + 8) h1 (by simp)
  obtain ⟨c, t3, e3, m3, h3⟩ := among_ok (l := [0, 30, 50]) (m := m + 6) h2 (by simp)
  obtain ⟨d, t4, e4, m4, h4⟩ := among_ok (l := [50, 70, 100]) (m := m + 4) h3 (by simp)
  obtain ⟨p, t5, e5, _, _, _, h5⟩ := pick_ok (n := 90) (m := m + 2) h4
  simp only [List.mem_cons, List.not_mem_nil, or_false] at m1 m2 m3 m4
  have ba : -1000 ≤ a ∧ a ≤ 1000 := by omega
  have bb : -1000 ≤ b ∧ b ≤ 1000 := by omega
  have bc : -1000 ≤ c ∧ c ≤ 1000 := by omega
  have bd : -1000 ≤ d ∧ d ≤ 999 := by omega
  have bd' : -1000 ≤ d ∧ d ≤ 1000 := by omega
  simp only [GsL1CurShade7.P, letK, e1, e2, e3, e4, e5, bind2_some, iteK_if]
  rw [wrap_in (x := d + 1) (by omega) (by omega)]
  by_cases p0 : p = 0
  · obtain ⟨y, t6, e6, m6, h6⟩ := of_ok (l := [(⟨#[]⟩ : ByteArray), (⟨#[82, 101, 100]⟩ : ByteArray), (⟨#[97, 98, 99, 100, 101, 102, 103, 104, 105, 106, 107]⟩ : ByteArray)]) (m := m) h5 (by simp)
    simp only [List.mem_cons, List.not_mem_nil, or_false] at m6
    refine ⟨⟨y, a, b, c, d⟩, t6, by simp [p0, e6, bind2], ⟨?_, ba, bb, bc, bd'⟩, h6⟩
    rcases m6 with rfl | rfl | rfl
    · exact Nat.zero_le _
    · show 3 ≤ 20; omega
    · show 11 ≤ 20; omega
  · by_cases p1 : p = 1
    · obtain ⟨y, t6, e6, m6, h6⟩ := among_ok (l := [(-1), 360]) (m := m) h5 (by simp)
      simp only [List.mem_cons, List.not_mem_nil, or_false] at m6
      exact ⟨⟨name, y, b, c, d⟩, t6, by simp [p0, p1, e6, bind2], ⟨hn, by dsimp only; omega, bb, bc, bd'⟩, h6⟩
    · by_cases p2 : p = 2
      · obtain ⟨y, t6, e6, m6, h6⟩ := among_ok (l := [(-1), 180]) (m := m) h5 (by simp)
        simp only [List.mem_cons, List.not_mem_nil, or_false] at m6
        exact ⟨⟨name, a, y, c, d⟩, t6, by simp [p0, p1, p2, e6, bind2], ⟨hn, ba, by dsimp only; omega, bc, bd'⟩, h6⟩
      · by_cases p3 : p = 3
        · obtain ⟨y, t6, e6, m6, h6⟩ := among_ok (l := [(-1), d + 1]) (m := m) h5 (by simp)
          simp only [List.mem_cons, List.not_mem_nil, or_false] at m6
          exact ⟨⟨name, a, b, y, d⟩, t6, by simp [p0, p1, p2, p3, e6, bind2], ⟨hn, ba, bb, by dsimp only; omega, bd'⟩, h6⟩
        · by_cases p4 : p = 4
          · exact ⟨⟨name, a, b, c, 101⟩, t5, by simp [p0, p1, p2, p3, p4], ⟨hn, ba, bb, bc, by dsimp only; omega⟩, good_less h5 (by omega)⟩
          · exact ⟨⟨name, a, b, c, d⟩, t5, by simp [p0, p1, p2, p3, p4], ⟨hn, ba, bb, bc, bd'⟩, good_less h5 (by omega)⟩
end Go.Proofs.Ytkinlkmmelkdnaa.Q7Draws

/- Draws of shades on tapes: each gives something small. (Q7Draws2) No condition but those of each theorem. -/
namespace Go.Proofs.Ytkinlkmmelkdnaa.Q7Draws2
set_option linter.unusedVariables false
set_option linter.unusedSimpArgs false
open Go.RowKit
open Go.Proofs.Ytkinlkmmelkdnaa.GoP Go.Proofs.Ytkinlkmmelkdnaa.PlainStamp Go.Proofs.Ytkinlkmmelkdnaa.QBase Go.Proofs.Ytkinlkmmelkdnaa.Q7Draws Go.Proofs.Ytkinlkmmelkdnaa.QDraw Go.Proofs.Ytkinlkmmelkdnaa.QUp Go.Proofs.Ytkinlkmmelkdnaa.QAll Go.Proofs.Ytkinlkmmelkdnaa.QLoop Go.Proofs.Ytkinlkmmelkdnaa.PShade

theorem more7_ok {t : GoC.Tape} {m : Nat} (fuel : Nat) (hf : 1048577 ≤ fuel) (h : good t (m + 40)) : ∃ r : List Shade × GoC.Tape, loopK GsL1CurShades7.l1 fuel (([] : List Shade), 0, t) GsL1CurShades7.e1 = some r ∧ (r.1.length ≤ 20 ∧ (∀ x ∈ r.1, sm x) ∧ good r.2 m) := by
  refine lp_ex (n := 13) (fun k (s : List Shade × Int × GoC.Tape) => s.1.length = k ∧ s.2.1 = (k : Int) ∧ (∀ x ∈ s.1, sm x) ∧ good s.2.2 (m + 40 - 2 * k)) ?_ ?_ fuel 0 _ (by omega) (by omega) ⟨rfl, rfl, by simp, h⟩
  · rintro k ⟨o, n, c⟩ nx hk ⟨h1, h2, h3, h4⟩ hn
    dsimp only at h1 h2 h3 h4
    obtain ⟨x, c1, e, hx0, hx, _, hg⟩ := pick_ok (n := 2) (m := m + 38 - 2 * k) (good_less h4 (by omega))
    simp only [GsL1CurShades7.l1, unp3, e, bind2_some, letK, iteK_if]
    rw [wrap_in (x := 12 + x) (by omega) (by omega)]
    by_cases hc : n < 12 + x
    · have hsz : (⟨#[97, 98, 99, 100, 101, 102, 103, 104, 105, 106, 107, 108, 109]⟩ : ByteArray).size = 13 := rfl
      have htm : Int.tmod n 12 = n % 12 := Int.tmod_eq_emod_of_nonneg (by omega)
      rw [if_pos (by simpa using hc), wrap_in (x := n + 1) (by omega) (by omega), hsz, guardK_pos (by omega), htm, wrap_in (x := 30 * (n % 12)) (by omega) (by omega), guardK_pos (by omega)]
      refine hn _ ⟨by simp [h1], by dsimp only; omega, ?_, good_less hg (by omega)⟩
      intro y hy
      rcases List.mem_append.1 hy with hy | hy
      · exact h3 y hy
      · obtain rfl := List.mem_singleton.1 hy
        refine ⟨?_, ?_, by dsimp only; omega, by dsimp only; omega, by dsimp only; omega⟩
        · dsimp only
          rw [ByteArray.size_extract, hsz]; omega
        · dsimp only; omega
    · rw [if_neg (by simpa using hc)]
      exact ⟨_, rfl, by dsimp only; omega, h3, good_less hg (by omega)⟩
  · rintro ⟨o, n, c⟩ nx ⟨h1, h2, h3, h4⟩
    dsimp only at h1 h2 h3 h4
    obtain ⟨x, c1, e, hx0, hx, _, hg⟩ := pick_ok (n := 2) (m := m) (good_less h4 (by omega))
    simp only [GsL1CurShades7.l1, unp3, e, bind2_some, letK, iteK_if]
    rw [wrap_in (x := 12 + x) (by omega) (by omega), if_neg (by simp; omega)]
    exact ⟨_, rfl, by dsimp only; omega, h3, hg⟩
theorem shades7_ok {t : GoC.Tape} {m : Nat} (fuel : Nat) (hf : 1048577 ≤ fuel) (h : good t (m + 150)) : ∃ l t', GsL1CurShades7.P fuel t = some (l, t') ∧ l.length ≤ 20 ∧ (∀ x ∈ l, sm x) ∧ good t' m := by
  obtain ⟨⟨l, t'⟩, e, h1, h2, h3⟩ : ∃ r, GsL1CurShades7.P fuel t = some r ∧ (r.1.length ≤ 20 ∧ (∀ x ∈ r.1, sm x) ∧ good r.2 m) := by
    simp only [GsL1CurShades7.P, letK]
    refine cnt_ex (n := 6) (Q := fun r : List Shade × GoC.Tape => r.1.length ≤ 20 ∧ (∀ x ∈ r.1, sm x) ∧ good r.2 m) (fun k (s : List Shade × GoC.Tape) => s.1.length ≤ k ∧ (∀ x ∈ s.1, sm x) ∧ good s.2 (m + 150 - 14 * k)) ?_ ?_ 6 0 _ (by omega) ⟨by simp, by simp, h⟩
    · rintro k ⟨o, c⟩ nx hk ⟨g1, g2, g3⟩ hn
      dsimp only at g1 g2 g3
      obtain ⟨b, d1, f1, k1⟩ := one_ok (n := 2) (m := m + 148 - 14 * k) (good_less g3 (by omega))
      simp only [GsL1CurShades7.l0, unp2, f1, bind2_some, iteK_if]
      cases b with
      | false => rw [if_neg (by simp)]; exact hn _ ⟨by dsimp only; omega, g2, good_less k1 (by omega)⟩
      | true =>
        rw [if_pos rfl]
        obtain ⟨nm, hnm, hni⟩ := at_lt (l := [(⟨#[98, 114, 105, 99, 107]⟩ : ByteArray), (⟨#[108, 97, 107, 101]⟩ : ByteArray), (⟨#[108, 105, 108, 97, 99]⟩ : ByteArray), (⟨#[111, 114, 97, 110, 103, 101]⟩ : ByteArray), (⟨#[114, 101, 100]⟩ : ByteArray), (⟨#[114, 111, 115, 101]⟩ : ByteArray)]) (k := k) hk
        have hsz : nm.size ≤ 20 := by
          have := List.mem_of_getElem? hnm
          simp only [List.mem_cons, List.not_mem_nil, or_false] at this
          rcases this with rfl | rfl | rfl | rfl | rfl | rfl <;> decide
        obtain ⟨⟨a, b, c', d, e⟩, d2, f2, s2, k2⟩ := shade7_ok (m := m + 136 - 14 * k) nm hsz (good_less k1 (by omega))
        simp only [hni, Option.bind_some, f2, bind2_some, unShade, letK, appK]
        rw [guardK_pos (by omega)]
        refine hn _ ⟨by simp; omega, ?_, good_less k2 (by omega)⟩
        intro y hy
        rcases List.mem_append.1 hy with hy | hy
        · exact g2 y hy
        · obtain rfl := List.mem_singleton.1 hy; exact s2
    · rintro ⟨o, c⟩ ⟨g1, g2, g3⟩
      dsimp only at g1 g2 g3
      obtain ⟨p, d1, f1, _, _, _, k1⟩ := pick_ok (n := 40) (m := m + 60) (good_less g3 (by omega))
      simp only [GsL1CurShades7.e0, unp2, f1, bind2_some, letK, iteK_if]
      by_cases p0 : p = 0
      · rw [if_pos (by simpa using p0)]
        exact more7_ok fuel hf (good_less k1 (by omega))
      · rw [if_neg (by simpa using p0)]
        by_cases p1 : p = 1
        · rw [if_pos (by simpa using p1)]
          by_cases hl : (1 : Int) < (o.length : Int)
          · obtain ⟨x, hx, hxi⟩ := at_lt (l := o) (k := 0) (by omega)
            have hxi' : idx o 0 = some x := hxi
            rw [if_pos (by simpa using hl), guardK_pos (by omega), guardK_pos (by simp; omega)]
            simp only [hxi', Option.bind_some, unShade]
            rw [guardK_pos (by simp; omega)]
            refine ⟨_, rfl, by simp; omega, ?_, good_less k1 (by omega)⟩
            intro y hy
            rcases List.mem_append.1 hy with hy | hy
            · rw [List.nil_append] at hy
              exact g2 y (List.mem_of_mem_drop hy)
            · obtain rfl := List.mem_singleton.1 hy
              exact g2 x (List.mem_of_getElem? hx)
          · rw [if_neg (by simpa using hl)]
            exact ⟨_, rfl, by dsimp only; omega, g2, good_less k1 (by omega)⟩
        · rw [if_neg (by simpa using p1)]
          exact ⟨_, rfl, by dsimp only; omega, g2, good_less k1 (by omega)⟩
  exact ⟨l, t', e, h1, h2, h3⟩
end Go.Proofs.Ytkinlkmmelkdnaa.Q7Draws2

/- Draws of shades on tapes: each gives something small. (Q7DrawsH) No condition but those of each theorem. -/
namespace Go.Proofs.Ytkinlkmmelkdnaa.Q7DrawsH
set_option linter.unusedVariables false
set_option linter.unusedSimpArgs false
open Go.RowKit
open Go.Proofs.Ytkinlkmmelkdnaa.GoP Go.Proofs.Ytkinlkmmelkdnaa.PlainStamp Go.Proofs.Ytkinlkmmelkdnaa.QBase Go.Proofs.Ytkinlkmmelkdnaa.Q7Draws2 Go.Proofs.Ytkinlkmmelkdnaa.Q7Draws Go.Proofs.Ytkinlkmmelkdnaa.QDraw Go.Proofs.Ytkinlkmmelkdnaa.QUp Go.Proofs.Ytkinlkmmelkdnaa.QAll Go.Proofs.Ytkinlkmmelkdnaa.QLoop Go.Proofs.Ytkinlkmmelkdnaa.PShade

theorem hue7_ok {t : GoC.Tape} {m : Nat} (h : good t (m + 4)) : ∃ x t', GsL1CurHue7.P t = some (x, t') ∧ good t' m := by
  obtain ⟨p, t1, e1, hp0, hp, _, h1⟩ := pick_ok (n := 24) (m := m + 2) h
  have hd : Int.tdiv p 11 = p / 11 := Int.tdiv_eq_ediv_of_nonneg hp0
  simp only [GsL1CurHue7.P, letK, e1, bind2_some, hd]
  rw [wrap_in (x := p / 11) (by omega) (by omega), wrap_in (x := 11 + p / 11) (by omega) (by omega), guardK_pos (by simp; omega)]
  obtain ⟨x, t2, e2, _, h2⟩ := among_ok (l := List.take (Int.toNat (11 + p / 11)) [0, 1, 10, 20, 90, 179, 180, 181, 270, 350, 359, (-1), 360]) (m := m) h1 (by rw [List.length_take]; simp; omega)
  exact ⟨x, t2, by rw [e2]; rfl, h2⟩
theorem light7_ok {t : GoC.Tape} {m : Nat} (h : good t (m + 4)) : ∃ x t', GsL1CurLight7.P t = some (x, t') ∧ good t' m := by
  obtain ⟨p, t1, e1, hp0, hp, _, h1⟩ := pick_ok (n := 24) (m := m + 2) h
  have hd : Int.tdiv p 11 = p / 11 := Int.tdiv_eq_ediv_of_nonneg hp0
  simp only [GsL1CurLight7.P, letK, e1, bind2_some, hd]
  rw [wrap_in (x := p / 11) (by omega) (by omega), wrap_in (x := 7 + p / 11) (by omega) (by omega), guardK_pos (by simp; omega)]
  obtain ⟨x, t2, e2, _, h2⟩ := among_ok (l := List.take (Int.toNat (7 + p / 11)) [0, 30, 49, 50, 51, 70, 100, (-1), 101]) (m := m) h1 (by rw [List.length_take]; simp; omega)
  exact ⟨x, t2, by rw [e2]; rfl, h2⟩
end Go.Proofs.Ytkinlkmmelkdnaa.Q7DrawsH

/- Draws of shades on tapes: each gives something small. (Q7Draws3) No condition but those of each theorem. -/
namespace Go.Proofs.Ytkinlkmmelkdnaa.Q7Draws3
set_option linter.unusedVariables false
set_option linter.unusedSimpArgs false
open Go.RowKit
open Go.Proofs.Ytkinlkmmelkdnaa.GoP Go.Proofs.Ytkinlkmmelkdnaa.PlainStamp Go.Proofs.Ytkinlkmmelkdnaa.QBase Go.Proofs.Ytkinlkmmelkdnaa.Q7DrawsH Go.Proofs.Ytkinlkmmelkdnaa.Q7Draws2 Go.Proofs.Ytkinlkmmelkdnaa.Q7Draws Go.Proofs.Ytkinlkmmelkdnaa.QDraw Go.Proofs.Ytkinlkmmelkdnaa.QUp Go.Proofs.Ytkinlkmmelkdnaa.QAll Go.Proofs.Ytkinlkmmelkdnaa.QLoop Go.Proofs.Ytkinlkmmelkdnaa.PShade

theorem drawBest_ok {tapes : List Int → GoC.Tape} (ht : GoC.Tells tapes) (code : List Int) (fuel : Nat) (hf : 1048577 ≤ fuel) : ∃ l h g, GsDrawBestShade.P fuel tapes code = some (l, h, g) ∧ l.length ≤ 20 ∧ ∀ x ∈ l, sm x := by
  obtain ⟨l, c0, e0, hl, hs, h0⟩ := shades7_ok fuel hf (m := 40) (good_of ht code (by omega))
  obtain ⟨h, c1, e1, h1⟩ := hue7_ok (m := 36) h0
  obtain ⟨g, c2, e2, h2⟩ := light7_ok (m := 32) h1
  exact ⟨l, h, g, by simp only [GsDrawBestShade.P, GsDrawShadesOf.P, letK, e0, e1, e2, bind2_some, bind3_some], hl, hs⟩
theorem drawOver_ok {tapes : List Int → GoC.Tape} (ht : GoC.Tells tapes) (code : List Int) : ∃ x y, GsDrawDoOverlap.P tapes code = some (x, y) ∧ sm x ∧ sm y := by
  obtain ⟨x, c0, e0, s0, h0⟩ := shade7_ok (m := 40) (⟨#[108, 97, 107, 101]⟩ : ByteArray) (by decide) (good_of ht code (by omega))
  obtain ⟨y, c1, e1, s1, h1⟩ := shade7_ok (m := 28) (⟨#[114, 111, 115, 101]⟩ : ByteArray) (by decide) h0
  exact ⟨x, y, by simp only [GsDrawDoOverlap.P, letK, e0, e1, bind2_some, unShade], s0, s1⟩
end Go.Proofs.Ytkinlkmmelkdnaa.Q7Draws3

/- Chapter 7: hues and shades: the plain functions of the program and of the reference agree, and the laws answer true. (Q7Filter) No condition but those of each theorem. -/
namespace Go.Proofs.Ytkinlkmmelkdnaa.Q7Filter
set_option linter.unusedVariables false
set_option linter.unusedSimpArgs false
open Go.RowKit
open Go.Proofs.Ytkinlkmmelkdnaa.GoP Go.Proofs.Ytkinlkmmelkdnaa.PlainStamp Go.Proofs.Ytkinlkmmelkdnaa.QBase Go.Proofs.Ytkinlkmmelkdnaa.QOrd Go.Proofs.Ytkinlkmmelkdnaa.QCount Go.Proofs.Ytkinlkmmelkdnaa.QUp Go.Proofs.Ytkinlkmmelkdnaa.QAll Go.Proofs.Ytkinlkmmelkdnaa.Q7Takes Go.Proofs.Ytkinlkmmelkdnaa.Q7List Go.Proofs.Ytkinlkmmelkdnaa.Q7Shade Go.Proofs.Ytkinlkmmelkdnaa.Q7Hue Go.Proofs.Ytkinlkmmelkdnaa.QLoop Go.Proofs.Ytkinlkmmelkdnaa.PShade

theorem not1_eq {x : Shade} {hue : Int} (light : Int) (hx : okSh x = true) (hh : 0 ≤ hue ∧ hue ≤ 359) : GiBestShade1.P x hue light = some (!takesB x hue light) := by
  have ht := takesIn_eq light hx hh
  obtain ⟨a, b, c, d, e⟩ := x
  simp only [GiBestShade1.P, unShade, ht, Option.bind_some, letK]
theorem filter_eq {l : List Shade} (hok : ∀ x ∈ l, okSh x = true) (h12 : l.length ≤ 12) {hue : Int} (light : Int) (hh : 0 ≤ hue ∧ hue ≤ 359) (fuel : Nat) (hfu : 100 ≤ fuel) :
    GxSlicesDeleteFuncLoopExampleG01062ImplShadeLoopExampleG01062ImplShadeiBestShade1.P fuel l hue light = some (l.filter fun x => takesB x hue light) := by
  simp only [GxSlicesDeleteFuncLoopExampleG01062ImplShadeLoopExampleG01062ImplShadeiBestShade1.P, GxSlicesIndexFuncLoopExampleG01062ImplShadeLoopExampleG01062ImplShadeiBestShade1.P]
  rw [find_loop (p := fun x => !takesB x hue light) (yes := fun i => some (i : Int))]
  · cases hq : l.findIdx? fun x => !takesB x hue light with
    | none =>
      rw [List.findIdx?_eq_none_iff] at hq
      have hall : l.filter (fun x => takesB x hue light) = l := List.filter_eq_self.2 (fun x hx => by have := hq x hx; simpa using this)
      simp [GxSlicesIndexFuncLoopExampleG01062ImplShadeLoopExampleG01062ImplShadeiBestShade1.e0, letK, iteK_if, hall]
    | some q =>
      rw [List.findIdx?_eq_some_iff_getElem] at hq
      obtain ⟨hql, hqp, hqb⟩ := hq
      simp only [Option.bind_some, letK, iteK_if]
      rw [if_neg (by simp), wrap_in (by omega) (by omega)]
      refine lp_is (n := l.length) _ (fun k (s : List Shade × Int × Int) => s.2.2 = (k : Int) ∧ s.1.length = l.length ∧ q < k ∧ s.2.1 = (((l.take k).filter fun x => takesB x hue light).length : Int) ∧ ((l.take k).filter fun x => takesB x hue light).length < k ∧ s.1.take ((l.take k).filter fun x => takesB x hue light).length = (l.take k).filter (fun x => takesB x hue light) ∧ ∀ j : Nat, k ≤ j → s.1[j]? = l[j]?) ?_ ?_ fuel (q + 1) _ (by omega) (by omega) ?_
      · rintro k ⟨s, i, j⟩ nx hk ⟨h1, h2, h3, h4, h5, h6, h7⟩ hn
        dsimp only at h1 h2 h4 h6 h7
        subst h1
        obtain ⟨x, hx, _⟩ := at_lt (l := l) (k := k) hk
        have hsx : s[k]? = some x := by rw [h7 k (Nat.le_refl _), hx]
        have hox := hok x (List.mem_of_getElem? hx)
        have hnt := not1_eq light hox hh
        simp only [GxSlicesDeleteFuncLoopExampleG01062ImplShadeLoopExampleG01062ImplShadeiBestShade1.l0, unp3, letK, iteK_if]
        rw [if_pos (by simp; omega)]
        simp only [idx_nat, hsx, Option.bind_some, unShade, hnt, Bool.not_not, appK]
        cases ht : takesB x hue light with
        | true =>
          obtain ⟨y, hy, hyi⟩ := at_lt (l := s) (k := ((l.take k).filter fun x => takesB x hue light).length) (by omega)
          rw [if_pos rfl, h4, hyi]
          simp only [Option.bind_some]
          rw [wrap_in (by omega) (by omega), wrap_in (by omega) (by omega)]
          have hf1 : (l.take (k + 1)).filter (fun x => takesB x hue light) = (l.take k).filter (fun x => takesB x hue light) ++ [x] := by rw [take_next hx, List.filter_append]; simp [List.filter, ht]
          refine hn _ ⟨by dsimp only; omega, by dsimp only; rw [List.length_set]; exact h2, by omega, by dsimp only; rw [hf1, List.length_append, List.length_singleton]; omega, by rw [hf1, List.length_append, List.length_singleton]; omega, ?_, ?_⟩
          · dsimp only
            rw [hf1, List.length_append, List.length_singleton, Int.toNat_natCast]
            rw [take_next (x := x) (by rw [List.getElem?_set_self (by omega)]), List.take_set_of_le (Nat.le_refl _), h6]
          · intro j hj
            dsimp only
            rw [Int.toNat_natCast, List.getElem?_set_ne (by omega)]
            exact h7 j (by omega)
        | false =>
          rw [if_neg (by simp), wrap_in (by omega) (by omega)]
          have hf1 : (l.take (k + 1)).filter (fun x => takesB x hue light) = (l.take k).filter (fun x => takesB x hue light) := by rw [take_next hx, List.filter_append]; simp [List.filter, ht]
          refine hn _ ⟨by dsimp only; omega, h2, by omega, by rw [hf1]; exact h4, by rw [hf1]; omega, by rw [hf1]; exact h6, fun j hj => h7 j (by omega)⟩
      · rintro ⟨s, i, j⟩ nx ⟨h1, h2, h3, h4, h5, h6, h7⟩
        dsimp only at h1 h2 h4 h6 h7
        rw [List.take_of_length_le (Nat.le_refl _)] at h4 h5 h6
        simp only [GxSlicesDeleteFuncLoopExampleG01062ImplShadeLoopExampleG01062ImplShadeiBestShade1.l0, unp3, letK, iteK_if, h1, h2, appK, GxSlicesDeleteFuncLoopExampleG01062ImplShadeLoopExampleG01062ImplShadeiBestShade1.e0, h4]
        rw [if_neg (by simp), guardK_pos (by omega), guardK_pos (by rw [List.length_append, List.length_take, List.length_replicate]; omega), Int.toNat_natCast]
        rw [List.take_append_of_le_length (by rw [List.length_take]; omega), List.take_take, Nat.min_self, h6]
      · refine ⟨by dsimp only; omega, rfl, by omega, ?_, ?_, ?_, fun j hj => rfl⟩
        all_goals
          have hpre : (l.take q).filter (fun x => takesB x hue light) = l.take q := List.filter_eq_self.2 (fun x hx => by
            obtain ⟨i, hi⟩ := List.getElem?_of_mem hx
            obtain ⟨hi1, hi2⟩ := List.getElem?_eq_some_iff.1 hi
            rw [List.length_take] at hi1
            rw [List.getElem_take] at hi2
            have := hqb i (by omega)
            rw [hi2] at this
            simpa using this)
          have hat : l[q]? = some l[q] := List.getElem?_eq_getElem hql
          have hpre2 : (l.take (q + 1)).filter (fun x => takesB x hue light) = l.take q := by
            rw [take_next hat, List.filter_append, hpre]
            have : takesB l[q] hue light = false := by simpa using hqp
            simp [List.filter, this]
        · dsimp only; rw [hpre2, List.length_take]; omega
        · rw [hpre2, List.length_take]; omega
        · dsimp only; rw [hpre2, List.length_take, Nat.min_eq_left (by omega)]
  · intro k nx x hx
    have hi : idx l (k : Int) = some x := by rw [idx_nat, hx]
    have hnt := not1_eq light (hok x (List.mem_of_getElem? hx)) hh
    simp only [GxSlicesIndexFuncLoopExampleG01062ImplShadeLoopExampleG01062ImplShadeiBestShade1.l0, hi, Option.bind_some, unShade, hnt, appK, iteK_if]
end Go.Proofs.Ytkinlkmmelkdnaa.Q7Filter

/- Chapter 7: hues and shades: the plain functions of the program and of the reference agree, and the laws answer true. (Q7Best) No condition but those of each theorem. -/
namespace Go.Proofs.Ytkinlkmmelkdnaa.Q7Best
set_option linter.unusedVariables false
set_option linter.unusedSimpArgs false
open Go.RowKit
open Go.Proofs.Ytkinlkmmelkdnaa.GoP Go.Proofs.Ytkinlkmmelkdnaa.PlainStamp Go.Proofs.Ytkinlkmmelkdnaa.QBase Go.Proofs.Ytkinlkmmelkdnaa.QOrd Go.Proofs.Ytkinlkmmelkdnaa.QCount Go.Proofs.Ytkinlkmmelkdnaa.QUp Go.Proofs.Ytkinlkmmelkdnaa.QAll Go.Proofs.Ytkinlkmmelkdnaa.Q7Filter Go.Proofs.Ytkinlkmmelkdnaa.Q7Min Go.Proofs.Ytkinlkmmelkdnaa.Q7Takes Go.Proofs.Ytkinlkmmelkdnaa.Q7List Go.Proofs.Ytkinlkmmelkdnaa.Q7Shade Go.Proofs.Ytkinlkmmelkdnaa.Q7Hue Go.Proofs.Ytkinlkmmelkdnaa.QLoop Go.Proofs.Ytkinlkmmelkdnaa.PShade

def bestRes (l : List Shade) (hue light : Int) : ByteArray × Bool := if (okShs l && inB hue 0 359 && inB light 0 100) = true then (match bestOf hue (l.filter fun x => takesB x hue light) with | none => ((⟨#[]⟩ : ByteArray), false) | some m => (m.name, true)) else ((⟨#[]⟩ : ByteArray), false)
theorem best_impl (l : List Shade) (hue light : Int) (hl : l.length ≤ 9223372036854775807) (fuel : Nat) (hfu : 100 ≤ fuel) : GiBestShade.P fuel l hue light = some (bestRes l hue light) := by
  simp only [GiBestShade.P, canLook_eq l hue light hl, Option.bind_some, letK, iteK_if, bestRes]
  cases hc : okShs l && inB hue 0 359 && inB light 0 100 with
  | false => simp
  | true =>
    simp only [Bool.and_eq_true] at hc
    have h12 := riseL_len hc.1.1
    have hh := inB_of hc.1.2
    have hok : ∀ x ∈ l, okSh x = true := fun x hx => shs_mem hc.1.1 hx
    have hcl : GxSlicesCloneLoopExampleG01062ImplShadeLoopExampleG01062ImplShade.P l = some l := by
      simp only [GxSlicesCloneLoopExampleG01062ImplShadeLoopExampleG01062ImplShade.P, Go.Proofs.Ytkinlkmmelkdnaa.GoK.nilK, iteK_if, letK]
      rw [if_neg (by simp), guardK_pos (by simp; omega)]; simp
    simp only [Bool.not_true, Bool.false_eq_true, if_false, if_true, hcl, filter_eq hok h12 light hh fuel hfu, Option.bind_some]
    cases hb : bestOf hue (l.filter fun x => takesB x hue light) with
    | none =>
      rw [bestOf_none.1 hb]; simp
    | some m =>
      have hne : ¬ ((l.filter fun x => takesB x hue light).length : Int) = 0 := by
        intro h0
        have : l.filter (fun x => takesB x hue light) = [] := List.eq_nil_of_length_eq_zero (by omega)
        rw [this] at hb; simp [bestOf] at hb
      have hlen := List.length_filter_le (fun x => takesB x hue light) l
      rw [if_neg (by simpa using hne), min_eq (l := l.filter fun x => takesB x hue light) (fun x hx => hok x (List.mem_filter.1 hx).1) (by omega) hh fuel hfu hb]
      simp [unShade]
theorem best_spec (l : List Shade) (hue light : Int) (hf : ∀ s ∈ l, s.fits) (hl : l.length ≤ 9223372036854775807) : GsBestShade.P l hue light = some (bestRes l hue light) := by
  simp only [GsBestShade.P, l7Good_eq l hf hl, l7Hue_eq, l1In_eq, Option.bind_some, letK, joinK, appK, iteK_if, bestRes]
  cases hc1 : okShs l with
  | false => simp
  | true =>
    cases hc2 : inB hue 0 359 with
    | false => simp
    | true =>
      cases hc3 : inB light 0 100 with
      | false => simp
      | true =>
        have h12 := riseL_len hc1
        have hh := inB_of hc2
        simp only [Bool.not_true, Bool.and_true, Bool.false_eq_true, if_false, if_true]
        refine cnt_is _ (fun k s => (bestOf hue ((l.take k).filter fun x => takesB x hue light) = none ∧ s = -1) ∨ ∃ (i : Nat) (m : Shade), s = (i : Int) ∧ l[i]? = some m ∧ bestOf hue ((l.take k).filter fun x => takesB x hue light) = some m) ?_ ?_ (-1) (Or.inl ⟨rfl, rfl⟩)
        · intro k s nx hk hI hn
          obtain ⟨x, hx, hxi⟩ := at_lt (l := l) (k := k) hk
          have hox := shs_mem hc1 (List.mem_of_getElem? hx)
          have htk := l7Takes_eq light hox hh
          simp only [GsBestShade.l0, letK, hxi, Option.bind_some, unShade, htk, iteK_if, appK]
          cases ht : takesB x hue light with
          | false =>
            have hf1 : (l.take (k + 1)).filter (fun x => takesB x hue light) = (l.take k).filter (fun x => takesB x hue light) := by rw [take_next hx, List.filter_append]; simp [List.filter, ht]
            rw [if_pos (by simp)]
            exact hn _ (by rw [hf1]; exact hI)
          | true =>
            have hf1 : (l.take (k + 1)).filter (fun x => takesB x hue light) = (l.take k).filter (fun x => takesB x hue light) ++ [x] := by rw [take_next hx, List.filter_append]; simp [List.filter, ht]
            have hs := bestOf_snoc hue ((l.take k).filter fun x => takesB x hue light) x
            rw [← hf1] at hs
            rw [if_neg (by simp)]
            rcases hI with ⟨h1, h2⟩ | ⟨i, m, h1, h2, h3⟩
            · subst h2
              rw [if_pos (by simp)]
              exact hn _ (Or.inr ⟨k, x, rfl, hx, by rw [hs, h1]⟩)
            · subst h1
              have hom := shs_mem hc1 (List.mem_of_getElem? h2)
              rw [h3] at hs
              rw [if_neg (by simp)]
              simp only [idx_nat, h2, Option.bind_some, unShade, joinK, l7Far_eq (okSh_of hox).1 hh, l7Far_eq (okSh_of hom).1 hh]
              have hgoal : ∀ b : Bool, b = betB hue x m → (if b = true then nx (k : Int) else nx (i : Int)) = some (match bestOf hue (l.filter fun x => takesB x hue light) with | none => ((⟨#[]⟩ : ByteArray), false) | some m => (m.name, true)) := by
                intro b hb
                cases b with
                | true => rw [if_pos rfl]; exact hn _ (Or.inr ⟨k, x, rfl, hx, by rw [hs]; simp [minStep, ← hb]⟩)
                | false => rw [if_neg (by simp)]; exact hn _ (Or.inr ⟨i, m, rfl, h2, by rw [hs]; simp [minStep, ← hb]⟩)
              by_cases h5 : far x.hue hue < far m.hue hue
              · rw [if_pos (by simpa using h5)]
                exact hgoal true (by simp [betB, h5])
              · rw [if_neg (by simpa using h5)]
                by_cases h6 : far x.hue hue = far m.hue hue
                · rw [if_pos (by simpa using h6)]
                  exact hgoal _ (by simp [betB, h6])
                · rw [if_neg (by simpa using h6)]
                  exact hgoal false (by simp [betB, h5, h6])
        · intro s hI
          rw [List.take_of_length_le (Nat.le_refl _)] at hI
          simp only [GsBestShade.e0, letK, iteK_if]
          rcases hI with ⟨h1, h2⟩ | ⟨i, m, h1, h2, h3⟩
          · subst h2; rw [h1]; rfl
          · subst h1
            rw [if_neg (by simp)]
            simp only [idx_nat, h2, Option.bind_some, unShade, h3]
end Go.Proofs.Ytkinlkmmelkdnaa.Q7Best

/- A loop that gathers what a test lets through: the plain loop's answer. (QGath) No condition but those of each theorem. -/
namespace Go.Proofs.Ytkinlkmmelkdnaa.QGath
set_option linter.unusedVariables false
open Go.RowKit
open Go.Proofs.Ytkinlkmmelkdnaa.GoP Go.Proofs.Ytkinlkmmelkdnaa.QBase Go.Proofs.Ytkinlkmmelkdnaa.QLoop

theorem gather {α β R : Type} {l : List α} {p : α → Bool} {g : α → β} {f : Nat → List β → (List β → Option R) → (List β → Option R) → Option R} {fin : List β → Option R} (hl : l.length ≤ 1099511627776)
    (step : ∀ k nx x s, l[k]? = some x → s.length ≤ 1099511627776 → f k s nx fin = nx (if p x then s ++ [g x] else s)) : cntK f l.length 0 [] fin = fin ((l.filter p).map g) := by
  have key : ∀ m k, k + m = l.length → cntK f m k (((l.take k).filter p).map g) fin = fin ((l.filter p).map g) := by
    intro m
    induction m with
    | zero => intro k hk; obtain rfl : k = l.length := by omega
              rw [List.take_of_length_le (Nat.le_refl _)]; rfl
    | succ m ih =>
      intro k hk
      obtain ⟨x, hx, _⟩ := at_lt (l := l) (k := k) (by omega)
      show f k _ _ fin = _
      have hle : (((l.take k).filter p).map g).length ≤ 1099511627776 := by
        rw [List.length_map]
        have := List.length_filter_le p (l.take k)
        rw [List.length_take] at this
        omega
      rw [step k _ x _ hx hle, ← ih (k + 1) (by omega), take_next hx, List.filter_append, List.map_append]
      cases hp : p x <;> simp [List.filter, hp]
  exact key l.length 0 (by omega)
end Go.Proofs.Ytkinlkmmelkdnaa.QGath

/- Chapter 7: hues and shades: the plain functions of the program and of the reference agree, and the laws answer true. (Q7Of) No condition but those of each theorem. -/
namespace Go.Proofs.Ytkinlkmmelkdnaa.Q7Of
set_option linter.unusedVariables false
set_option linter.unusedSimpArgs false
open Go.RowKit
open Go.Proofs.Ytkinlkmmelkdnaa.GoP Go.Proofs.Ytkinlkmmelkdnaa.PlainStamp Go.Proofs.Ytkinlkmmelkdnaa.QBase Go.Proofs.Ytkinlkmmelkdnaa.QOrd Go.Proofs.Ytkinlkmmelkdnaa.Q7Takes Go.Proofs.Ytkinlkmmelkdnaa.Q7List Go.Proofs.Ytkinlkmmelkdnaa.Q7Shade Go.Proofs.Ytkinlkmmelkdnaa.Q7Hue Go.Proofs.Ytkinlkmmelkdnaa.QGath Go.Proofs.Ytkinlkmmelkdnaa.QLoop Go.Proofs.Ytkinlkmmelkdnaa.PShade

def ofRes (l : List Shade) (hue light : Int) : List ByteArray × Bool := if (okShs l && inB hue 0 359 && inB light 0 100) = true then ((l.filter fun x => takesB x hue light).map Shade.name, true) else ([], false)
theorem of_len (l : List Shade) (hue light : Int) : (ofRes l hue light).1.length ≤ 12 := by
  unfold ofRes
  split
  · rename_i h
    simp only [Bool.and_eq_true] at h
    have := riseL_len h.1.1
    have h2 := List.length_filter_le (fun x => takesB x hue light) l
    rw [List.length_map]; omega
  · simp
theorem of_impl (l : List Shade) (hue light : Int) (hl : l.length ≤ 9223372036854775807) : GiShadesOf.P l hue light = some (ofRes l hue light) := by
  simp only [GiShadesOf.P, canLook_eq l hue light hl, Option.bind_some, letK, iteK_if, ofRes]
  cases hc : okShs l && inB hue 0 359 && inB light 0 100 with
  | false => simp
  | true =>
    simp only [Bool.and_eq_true] at hc
    have h12 := riseL_len hc.1.1
    have hh := inB_of hc.1.2
    simp only [Bool.not_true, Bool.false_eq_true, if_false, if_true, GiKeysWhereShadeStringiNameOfShadeiShadesOf1.P]
    rw [gather (p := fun x => takesB x hue light) (g := Shade.name) (by omega)]
    · rfl
    · intro k nx x s hx hs
      have hi : idx l (k : Int) = some x := by rw [idx_nat, hx]
      have hok := shs_mem hc.1.1 (List.mem_of_getElem? hx)
      simp only [GiKeysWhereShadeStringiNameOfShadeiShadesOf1.l0, letK, hi, Option.bind_some, unShade, GiShadesOf1.P, takesIn_eq light hok hh, GiNameOfShade.P, appK, iteK_if]
      rw [guardK_pos hs]
      cases takesB x hue light <;> rfl
theorem of_spec (l : List Shade) (hue light : Int) (hf : ∀ s ∈ l, s.fits) (hl : l.length ≤ 9223372036854775807) : GsShadesOf.P l hue light = some (ofRes l hue light) := by
  simp only [GsShadesOf.P, l7Good_eq l hf hl, l7Hue_eq, l1In_eq, Option.bind_some, letK, joinK, appK, iteK_if, ofRes]
  cases hc1 : okShs l with
  | false => simp
  | true =>
    cases hc2 : inB hue 0 359 with
    | false => simp
    | true =>
      cases hc3 : inB light 0 100 with
      | false => simp
      | true =>
        have h12 := riseL_len hc1
        have hh := inB_of hc2
        simp only [Bool.not_true, Bool.and_true, Bool.false_eq_true, if_false, if_true]
        rw [gather (p := fun x => takesB x hue light) (g := Shade.name) (by omega)]
        · rfl
        · intro k nx x s hx hs
          have hi : idx l (k : Int) = some x := by rw [idx_nat, hx]
          have hok := shs_mem hc1 (List.mem_of_getElem? hx)
          simp only [GsShadesOf.l0, letK, hi, Option.bind_some, unShade, l7Takes_eq light hok hh, appK, iteK_if]
          rw [guardK_pos hs]
          cases takesB x hue light <;> rfl
end Go.Proofs.Ytkinlkmmelkdnaa.Q7Of

/- Chapter 7: hues and shades: the plain functions of the program and of the reference agree, and the laws answer true. (Q7Pairs) No condition but those of each theorem. -/
namespace Go.Proofs.Ytkinlkmmelkdnaa.Q7Pairs
set_option linter.unusedVariables false
set_option linter.unusedSimpArgs false
open Go.RowKit
open Go.Proofs.Ytkinlkmmelkdnaa.GoP Go.Proofs.Ytkinlkmmelkdnaa.PlainStamp Go.Proofs.Ytkinlkmmelkdnaa.QBase Go.Proofs.Ytkinlkmmelkdnaa.QOrd Go.Proofs.Ytkinlkmmelkdnaa.QCount Go.Proofs.Ytkinlkmmelkdnaa.Q7Meet Go.Proofs.Ytkinlkmmelkdnaa.Q7List Go.Proofs.Ytkinlkmmelkdnaa.Q7Shade Go.Proofs.Ytkinlkmmelkdnaa.QLoop Go.Proofs.Ytkinlkmmelkdnaa.PShade

def rowP (l : List Shade) (k : Nat) : List (List ByteArray) := match l[k]? with | none => [] | some x => ((l.drop (k + 1)).filter (fun y => meetB x y)).map fun y => [x.name, y.name]
def allP (l : List Shade) (k : Nat) : List (List ByteArray) := (List.range k).flatMap (rowP l)
theorem allP_succ (l : List Shade) (k : Nat) : allP l (k + 1) = allP l k ++ rowP l k := by simp [allP, List.range_succ]
theorem rowP_len {l : List Shade} (h : l.length ≤ 12) (k : Nat) : (rowP l k).length ≤ 12 := by
  unfold rowP
  split
  · simp
  · rename_i x hx
    rw [List.length_map]
    have := List.length_filter_le (fun y => meetB x y) (l.drop (k + 1))
    rw [List.length_drop] at this
    omega
theorem allP_len {l : List Shade} (h : l.length ≤ 12) : ∀ k, (allP l k).length ≤ 12 * k := by
  intro k
  induction k with
  | zero => simp [allP]
  | succ k ih =>
    have := rowP_len h k
    rw [allP_succ, List.length_append]; omega
theorem allP_two (l : List Shade) (k : Nat) : ∀ row ∈ allP l k, row.length = 2 := by
  intro row hr
  obtain ⟨i, _, hi⟩ := List.mem_flatMap.1 hr
  unfold rowP at hi
  split at hi
  · simp at hi
  · obtain ⟨y, _, rfl⟩ := List.mem_map.1 hi; rfl
def pairRes (l : List Shade) : List (List ByteArray) × Bool := if okShs l = true then (allP l l.length, true) else ([], false)
theorem pairs_impl (l : List Shade) (hl : l.length ≤ 9223372036854775807) : GiOverlapPairs.P l = some (pairRes l) := by
  simp only [GiOverlapPairs.P, areShades_eq l hl, Option.bind_some, letK, iteK_if, pairRes]
  cases hc : okShs l with
  | false => simp
  | true =>
    have h12 := riseL_len hc
    simp only [Bool.not_true, Bool.false_eq_true, if_false, if_true]
    refine cnt_is _ (fun k s => s = allP l k) ?_ ?_ [] rfl
    · intro k s nx hk hI hn
      obtain ⟨x, hx, hi⟩ := at_lt (l := l) (k := k) hk
      have hox := shs_mem hc (List.mem_of_getElem? hx)
      have hal := allP_len h12 k
      simp only [GiOverlapPairs.l0, letK, hi, Option.bind_some, unShade]
      rw [wrap_in (by omega) (by omega), guardK_pos (by omega), show Int.toNat ((k : Int) + 1) = k + 1 by omega]
      rw [gatherA (p := fun y => meetB x y) (g := fun y => [x.name, y.name]) (by rw [hI, List.length_drop]; omega)]
      · simp only [GiOverlapPairs.e1, letK, appK]
        refine hn _ ?_
        rw [hI, allP_succ]
        unfold rowP
        rw [hx]
      · intro k1 nx1 y s1 hy hs
        have hoy := shs_mem hc (List.mem_of_mem_drop (List.mem_of_getElem? hy))
        have hov := overlaps_eq hox hoy
        simp only [GiOverlapPairs.l1, letK, idx_nat, hy, Option.bind_some, unShade, hov, appK, iteK_if]
        rw [guardK_pos hs]; cases meetB x y <;> rfl
    · intro s hI
      simp only [GiOverlapPairs.e0, letK, hI]
theorem pairs_spec (fuel : Nat) (hfu : 100 ≤ fuel) (l : List Shade) (hf : ∀ s ∈ l, s.fits) (hl : l.length ≤ 9223372036854775807) : GsOverlapPairs.P fuel l = some (pairRes l) := by
  simp only [GsOverlapPairs.P, l7Good_eq l hf hl, Option.bind_some, letK, iteK_if, pairRes]
  cases hc : okShs l with
  | false => simp
  | true =>
    have h12 := riseL_len hc
    simp only [Bool.not_true, Bool.false_eq_true, if_false, if_true]
    refine cnt_is _ (fun k s => s = allP l k) ?_ ?_ [] rfl
    · intro k s nx hk hI hn
      obtain ⟨x, hx, hi⟩ := at_lt (l := l) (k := k) hk
      have hox := shs_mem hc (List.mem_of_getElem? hx)
      have hal := allP_len h12 k
      simp only [GsOverlapPairs.l0, letK]
      rw [wrap_in (by omega) (by omega), show (k : Int) + 1 = ((k + 1 : Nat) : Int) by omega]
      rw [gatherL (l := l) (p := fun y => meetB x y) (g := fun y => [x.name, y.name]) ?_ ?_ fuel (k + 1) s (by omega) (by omega) (by rw [hI]; omega)]
      · simp only [GsOverlapPairs.e1, unp2, appK]
        refine hn _ ?_
        rw [hI, allP_succ]
        unfold rowP
        rw [hx]
      · intro k1 nx1 y s1 hy hs
        have hoy := shs_mem hc (List.mem_of_getElem? hy)
        have hov := l7Meet_eq hox hoy
        have hk1 := (List.getElem?_eq_some_iff.1 hy).1
        simp only [GsOverlapPairs.l1, unp2, letK, hi, idx_nat, hy, Option.bind_some, unShade, hov, appK, iteK_if]
        rw [if_pos (by simp; omega), wrap_in (by omega) (by omega), guardK_pos hs]
        cases meetB x y <;> rfl
      · intro s1 nx1
        simp only [GsOverlapPairs.l1, unp2, letK, appK, iteK_if]
        rw [if_neg (by simp)]
    · intro s hI
      simp only [GsOverlapPairs.e0, letK, hI]
end Go.Proofs.Ytkinlkmmelkdnaa.Q7Pairs

/- Chapter 7: hues and shades: the plain functions of the program and of the reference agree, and the laws answer true. (Q7Over) No condition but those of each theorem. -/
namespace Go.Proofs.Ytkinlkmmelkdnaa.Q7Over
set_option linter.unusedVariables false
set_option linter.unusedSimpArgs false
open Go.RowKit
open Go.Proofs.Ytkinlkmmelkdnaa.GoP Go.Proofs.Ytkinlkmmelkdnaa.PlainStamp Go.Proofs.Ytkinlkmmelkdnaa.QBase Go.Proofs.Ytkinlkmmelkdnaa.Q7Meet Go.Proofs.Ytkinlkmmelkdnaa.Q7Shade Go.Proofs.Ytkinlkmmelkdnaa.QLoop Go.Proofs.Ytkinlkmmelkdnaa.PShade

def overRes (x y : Shade) : Bool × Bool := if (okSh x && okSh y) = true then (meetB x y, true) else (false, false)
theorem over_impl (x y : Shade) : GiDoOverlap.P x y = some (overRes x y) := by
  have hm := @overlaps_eq x y
  obtain ⟨a, b, c, d, e⟩ := x
  obtain ⟨a2, b2, c2, d2, e2⟩ := y
  simp only [GiDoOverlap.P, unShade, isShade_eq, Option.bind_some, letK, joinK, appK, iteK_if, overRes]
  cases hx : okSh ⟨a, b, c, d, e⟩ with
  | false => simp
  | true =>
    cases hy : okSh ⟨a2, b2, c2, d2, e2⟩ with
    | false => simp
    | true => simp [hm hx hy]
theorem over_spec (x y : Shade) (h : x.fits) (h2 : y.fits) : GsDoOverlap.P x y = some (overRes x y) := by
  have hm := @l7Meet_eq x y
  have h3 := l7One_eq x h
  have h4 := l7One_eq y h2
  obtain ⟨a, b, c, d, e⟩ := x
  obtain ⟨a2, b2, c2, d2, e2⟩ := y
  simp only [GsDoOverlap.P, unShade, h3, h4, Option.bind_some, letK, joinK, appK, iteK_if, overRes]
  cases hx : okSh ⟨a, b, c, d, e⟩ with
  | false => simp
  | true =>
    cases hy : okSh ⟨a2, b2, c2, d2, e2⟩ with
    | false => simp
    | true => simp [hm hx hy]
end Go.Proofs.Ytkinlkmmelkdnaa.Q7Over

/- Chapter 7: hues and shades: the plain functions of the program and of the reference agree, and the laws answer true. (Q7IsS) No condition but those of each theorem. -/
namespace Go.Proofs.Ytkinlkmmelkdnaa.Q7IsS
set_option linter.unusedVariables false
set_option linter.unusedSimpArgs false
open Go.RowKit
open Go.Proofs.Ytkinlkmmelkdnaa.GoP Go.Proofs.Ytkinlkmmelkdnaa.PlainStamp Go.Proofs.Ytkinlkmmelkdnaa.QBase Go.Proofs.Ytkinlkmmelkdnaa.Q7Shade Go.Proofs.Ytkinlkmmelkdnaa.QLoop Go.Proofs.Ytkinlkmmelkdnaa.PShade

theorem specIsShade_eq (x : Shade) (h : x.fits) : GsIsShade.P x = some (okSh x) := by
  obtain ⟨a, b, c, d, e⟩ := x
  simp only [GsIsShade.P, unShade, l7One_eq _ h, Option.bind_some]
end Go.Proofs.Ytkinlkmmelkdnaa.Q7IsS

/- In each drawn case the best shade of a color takes it in and none that does is nearer; overlaps are told from both sides. (QL7FnShades) No condition but those of each theorem. -/
namespace Go.Proofs.Ytkinlkmmelkdnaa.QL7FnShades
set_option linter.unusedVariables false
set_option linter.unusedSimpArgs false
open Go.RowKit
open Go.Proofs.Ytkinlkmmelkdnaa.GoP Go.Proofs.Ytkinlkmmelkdnaa.PlainStamp Go.Proofs.Ytkinlkmmelkdnaa.QBase Go.Proofs.Ytkinlkmmelkdnaa.QOrd Go.Proofs.Ytkinlkmmelkdnaa.QCount Go.Proofs.Ytkinlkmmelkdnaa.QUp Go.Proofs.Ytkinlkmmelkdnaa.QAll Go.Proofs.Ytkinlkmmelkdnaa.QDraw Go.Proofs.Ytkinlkmmelkdnaa.Q7FnHelp Go.Proofs.Ytkinlkmmelkdnaa.Q7Draws3 Go.Proofs.Ytkinlkmmelkdnaa.Q7DrawsH Go.Proofs.Ytkinlkmmelkdnaa.Q7Draws Go.Proofs.Ytkinlkmmelkdnaa.Q7Best Go.Proofs.Ytkinlkmmelkdnaa.Q7Min Go.Proofs.Ytkinlkmmelkdnaa.Q7Of Go.Proofs.Ytkinlkmmelkdnaa.Q7Pairs Go.Proofs.Ytkinlkmmelkdnaa.Q7Over Go.Proofs.Ytkinlkmmelkdnaa.Q7IsS Go.Proofs.Ytkinlkmmelkdnaa.Q7Meet Go.Proofs.Ytkinlkmmelkdnaa.Q7Takes Go.Proofs.Ytkinlkmmelkdnaa.Q7List Go.Proofs.Ytkinlkmmelkdnaa.Q7Shade Go.Proofs.Ytkinlkmmelkdnaa.Q7Hue Go.Proofs.Ytkinlkmmelkdnaa.QLoop Go.Proofs.Ytkinlkmmelkdnaa.PShade

theorem over_symm (x y : Shade) : overRes x y = overRes y x := by unfold overRes; rw [meet_symm x y, Bool.and_comm]
theorem e1_yes {tapes : List Int → GoC.Tape} (ht : GoC.Tells tapes) (code : List Int) (fuel : Nat) (hf : 1048577 ≤ fuel) (l : List Shade) (hfit : ∀ s ∈ l, s.fits) (hl : l.length ≤ 9223372036854775807) (s : Int) : GlFnShades.e1 code fuel tapes l s = some true := by
  obtain ⟨x, y, e, sx, sy⟩ := drawOver_ok ht code
  have h1 := over_impl x y
  have h2 := over_spec x y (fits_sm sx) (fits_sm sy)
  have h3 := over_impl y x
  rw [over_symm y x] at h3
  obtain ⟨⟨p, q⟩, hr⟩ : ∃ z, z = overRes x y := ⟨_, rfl⟩
  rw [← hr] at h1 h2 h3
  have p1 := pairs_impl l hl
  have p2 := pairs_spec fuel (by omega) l hfit hl
  obtain ⟨⟨u, v⟩, hp⟩ : ∃ z, z = pairRes l := ⟨_, rfl⟩
  rw [← hp] at p1 p2
  have i1 := isShade_eq x
  have i2 := specIsShade_eq x (fits_sm sx)
  have a1 := areShades_eq l hl
  have a2 : GsAreShades.P l = some (okShs l) := by simp only [GsAreShades.P, l7Good_eq l hfit hl, Option.bind_some]
  obtain ⟨xa, xb, xc, xd, xe⟩ := x
  obtain ⟨ya, yb, yc, yd, ye⟩ := y
  simp [GlFnShades.e1, letK, e, bind2, unShade, h1, h2, h3, p1, p2, rPairs_self, i1, i2, a1, a2, joinK, appK, iteK_if]
theorem stop0 (l : List Shade) (hue : Int) (bn : ByteArray) (fuel : Nat) (hf : 1 ≤ fuel) (s : Int × Int) (fin : Int × Int → Option Bool) : loopK (GlFnShades.l0 l hue bn false) fuel s fin = fin s := by
  obtain ⟨n, rfl⟩ : ∃ n, fuel = n + 1 := ⟨fuel - 1, by omega⟩
  obtain ⟨a, b⟩ := s
  simp only [loopK, GlFnShades.l0, unp2, letK, joinK, appK, iteK_if]
  by_cases h : b < (l.length : Int) <;> simp [h]
theorem stop1 (l : List Shade) (hue : Int) (on : List ByteArray) (w : Int) (fuel : Nat) (hf : 1 ≤ fuel) (s : Int) (fin : Int → Option Bool) : loopK (GlFnShades.l1 l hue false on w) fuel s fin = fin s := by
  obtain ⟨n, rfl⟩ : ∃ n, fuel = n + 1 := ⟨fuel - 1, by omega⟩
  simp only [loopK, GlFnShades.l1, letK, joinK, appK, iteK_if]
  by_cases h : s < (l.length : Int) <;> simp [h]
theorem law_shades {tapes : List Int → GoC.Tape} (ht : GoC.Tells tapes) (code : List Int) {fuel : Nat} (hf : 1048577 ≤ fuel) : GlFnShades.P fuel tapes code = some true := by
  obtain ⟨l, hue, light, e, hl, hs⟩ := drawBest_ok ht code fuel hf
  have hfit : ∀ x ∈ l, x.fits := fun x hx => fits_sm (hs x hx)
  have he1 := e1_yes ht code fuel hf l hfit (by omega)
  simp only [GlFnShades.P, GlRBig.P, Option.bind_some, letK, iteK_if]
  by_cases hbig : (65536 : Int) < (code.length : Int)
  · simp [hbig]
  · have hb0 : decide ((65536 : Int) < (code.length : Int)) = false := decide_eq_false hbig
    simp only [hb0, Bool.false_eq_true, if_false, e, bind3_some, best_impl l hue light (by omega) fuel (by omega), best_spec l hue light hfit (by omega), of_impl l hue light (by omega), of_spec l hue light hfit (by omega)]
    cases hR : okShs l && inB hue 0 359 && inB light 0 100 with
    | false =>
      have e1 : bestRes l hue light = ((⟨#[]⟩ : ByteArray), false) := by unfold bestRes; rw [hR]; rfl
      have e2 : ofRes l hue light = ([], false) := by unfold ofRes; rw [hR]; rfl
      simp [e1, e2, bind2, joinK, appK, rTexts_self, stop0 l hue _ fuel (by omega), stop1 l hue _ _ fuel (by omega), GlFnShades.e0, unp2, he1]
    | true =>
      have e2 : ofRes l hue light = ((l.filter fun x => takesB x hue light).map Shade.name, true) := by unfold ofRes; rw [hR]; rfl
      cases hb : bestOf hue (l.filter fun x => takesB x hue light) with
      | none =>
        have e1 : bestRes l hue light = ((⟨#[]⟩ : ByteArray), false) := by unfold bestRes; rw [hR, if_pos rfl, hb]
        have e3 := bestOf_none.1 hb
        rw [e3] at e2
        simp [e1, e2, bind2, joinK, appK, rTexts_self, stop0 l hue _ fuel (by omega), stop1 l hue _ _ fuel (by omega), GlFnShades.e0, unp2, he1]
      | some m =>
        have e1 : bestRes l hue light = (m.name, true) := by unfold bestRes; rw [hR, if_pos rfl, hb]
        simp only [Bool.and_eq_true] at hR
        have hc := hR.1.1
        have hh := hR.1.2
        obtain ⟨hm, hmin⟩ := best_is hb
        have hml := (List.mem_filter.1 hm).1
        have hdist : ∀ x ∈ l, GiHueDistance.P x.hue hue = some (far x.hue hue, true) := by
          intro x hx
          have ho := (okSh_of (shs_mem hc hx)).1
          rw [hue_impl]; unfold hueRes
          rw [hh, inB_yes ho.1 ho.2]; rfl
        have hany : (((l.filter fun x => takesB x hue light).map Shade.name).any fun y => decide (y = m.name)) = true := by
          rw [List.any_eq_true]
          exact ⟨m.name, List.mem_map.2 ⟨m, hm, rfl⟩, by simp⟩
        have hlen : decide ((0 : Int) < (((l.filter fun x => takesB x hue light).map Shade.name).length : Int)) = true := by
          have := List.length_pos_of_mem hm
          exact decide_eq_true (by rw [List.length_map]; omega)
        simp only [e1, e2, bind2_some, joinK, appK, rTexts_self, rHas_eq, Option.bind_some, hany, hlen, beq_self_eq_true, Bool.not_true, Bool.false_eq_true, if_false, if_true]
        refine lp_is (n := l.length) true (fun k (s : Int × Int) => s.2 = (k : Int) ∧ ((s.1 = 999 ∧ ∀ (i : Nat) x, i < k → l[i]? = some x → x.name ≠ m.name) ∨ s.1 = far m.hue hue)) ?_ ?_ fuel 0 _ (by omega) (by omega) ⟨rfl, Or.inl ⟨rfl, fun i x hi _ => by omega⟩⟩
        · rintro k ⟨w, i⟩ nx hk ⟨h1, h2⟩ hn
          dsimp only at h1 h2
          subst h1
          obtain ⟨x, hx, hxi⟩ := at_lt (l := l) (k := k) hk
          have hd := hdist x (List.mem_of_getElem? hx)
          have hlt : decide ((k : Int) < (l.length : Int)) = true := by simp; omega
          simp only [GlFnShades.l0, unp2, letK, hlt, joinK, appK, iteK_if, if_true, hxi, Option.bind_some, unShade, eq_list, hd, bind2_some, Bool.not_true, Bool.false_eq_true, if_false]
          rw [wrap_in (by omega) (by omega)]
          by_cases hnm : x.name = m.name
          · have hxm := name_uniq hc (List.mem_of_getElem? hx) hml hnm
            rw [if_pos (by simpa using hnm)]
            exact hn _ ⟨by dsimp only; omega, Or.inr (by rw [hxm])⟩
          · rw [if_neg (by simpa using hnm)]
            refine hn _ ⟨by dsimp only; omega, ?_⟩
            rcases h2 with ⟨h2, h3⟩ | h2
            · refine Or.inl ⟨h2, fun j y hj hy => ?_⟩
              by_cases hjk : j = k
              · subst hjk; rw [hx] at hy; obtain rfl := Option.some.inj hy; exact hnm
              · exact h3 j y (by omega) hy
            · exact Or.inr h2
        · rintro ⟨w, i⟩ nx ⟨h1, h2⟩
          dsimp only at h1 h2
          subst h1
          have hw : w = far m.hue hue := by
            rcases h2 with ⟨_, h3⟩ | h2
            · obtain ⟨j, hj⟩ := List.getElem?_of_mem hml
              exact absurd rfl (h3 j m (List.getElem?_eq_some_iff.1 hj).1 hj)
            · exact h2
          have hlt : decide ((l.length : Int) < (l.length : Int)) = false := by simp
          simp only [GlFnShades.l0, unp2, letK, hlt, joinK, appK, iteK_if, Bool.false_eq_true, if_false, GlFnShades.e0]
          refine lp_is (n := l.length) true (fun k (s : Int) => s = (k : Int)) ?_ ?_ fuel 0 _ (by omega) (by omega) rfl
          · rintro k _ nx1 hk rfl hn
            obtain ⟨x, hx, hxi⟩ := at_lt (l := l) (k := k) hk
            have hxl := List.mem_of_getElem? hx
            have hd := hdist x hxl
            have hlt : decide ((k : Int) < (l.length : Int)) = true := by simp; omega
            have hno : (((l.filter fun x => takesB x hue light).map Shade.name).any fun y => decide (y = x.name)) = true → ¬ far x.hue hue < w := by
              intro ha
              obtain ⟨y, hy, hyx⟩ := List.any_eq_true.1 ha
              obtain ⟨z, hz, rfl⟩ := List.mem_map.1 hy
              have hzx := name_uniq hc (List.mem_filter.1 hz).1 hxl (by simpa using hyx)
              have := hmin z hz
              rw [hzx] at this
              omega
            simp only [GlFnShades.l1, letK, hlt, joinK, appK, iteK_if, if_true, hxi, Option.bind_some, unShade, hd, bind2_some, rHas_eq, Bool.not_true, Bool.false_eq_true, if_false]
            have hn1 : nx1 ((k : Int) + 1) = some true := hn _ (by omega)
            rw [wrap_in (by omega) (by omega)]
            cases ha : ((l.filter fun x => takesB x hue light).map Shade.name).any fun y => decide (y = x.name) with
            | false => simp [hn1]
            | true =>
              have := hno ha
              simp [this, hn1]
          · rintro _ nx1 rfl
            simp only [GlFnShades.l1, letK, hlt, joinK, appK, iteK_if, Bool.false_eq_true, if_false]
            exact he1 _
end Go.Proofs.Ytkinlkmmelkdnaa.QL7FnShades

