/- Texts on which the proofs of several laws stand, one behind the other (12 of 13). No condition of their own. -/
import Derived.WalkKit
import Derived.Test.YtlljmgphgmklcaaW10P1
import Derived.Test.YtlljmgphgmklcaaW10P4
import Derived.Test.YtlljmgphgmklcaaW10P7
import Derived.IntWalk
import Derived.Test.YtlljmgphgmklcaaW10P2
import Derived.Test.YtlljmgphgmklcaaW10P3
import Derived.Test.YtlljmgphgmklcaaW10P10
import Derived.Test.YtlljmgphgmklcaaW10P9
import Derived.Test.YtlljmgphgmklcaaW10P5
import Derived.Test.YtlljmgphgmklcaaW10P6
import Derived.Test.YtlljmgphgmklcaaW10P8
/- Plain words on stamps: what a stamp is, when one is valid, when a list of them is; the cells of a list of records. No condition. -/
namespace Go.Proofs.Ytlljmgphgmklcaa.PlainStamp
set_option linter.unusedVariables false

/-- a number lies in a..b -/
def inB (x a b : Int) : Bool := decide (a ≤ x ∧ x ≤ b)
theorem inB_yes {x a b : Int} (h1 : a ≤ x) (h2 : x ≤ b) : inB x a b = true := by unfold inB; exact decide_eq_true ⟨h1, h2⟩
theorem inB_of {x a b : Int} (h : inB x a b = true) : a ≤ x ∧ x ≤ b := by unfold inB at h; exact of_decide_eq_true h
theorem inB_no {x a b : Int} (h : x < a ∨ b < x) : inB x a b = false := by unfold inB; exact decide_eq_false (by omega)

structure St where
  id : Int
  face : Int
  color : Int
  year : Int
deriving DecidableEq

def St.cells (s : St) : List Value := [.int .i64 s.id, .int .i64 s.face, .int .i64 s.color, .int .i64 s.year]
def St.val (s : St) : Value := .agg #[.int .i64 s.id, .int .i64 s.face, .int .i64 s.color, .int .i64 s.year]
/-- each field fits an int -/
def St.fits (s : St) : Prop := (Lit.int .i64 s.id).wf = true ∧ (Lit.int .i64 s.face).wf = true ∧ (Lit.int .i64 s.color).wf = true ∧ (Lit.int .i64 s.year).wf = true

def okSt (s : St) : Bool := inB s.id 1 999 && inB s.face 0 9999 && inB s.color 0 99 && inB s.year 1840 2100
theorem okSt_yes {s : St} (h : okSt s = true) : (1 ≤ s.id ∧ s.id ≤ 999) ∧ (0 ≤ s.face ∧ s.face ≤ 9999) ∧ (0 ≤ s.color ∧ s.color ≤ 99) ∧ (1840 ≤ s.year ∧ s.year ≤ 2100) := by
  unfold okSt at h
  simp only [Bool.and_eq_true] at h
  exact ⟨inB_of h.1.1.1, inB_of h.1.1.2, inB_of h.1.2, inB_of h.2⟩

/-- the stamp at k is valid, and its id is above the one ahead of it -/
def okAt (l : List St) (k : Nat) : Bool :=
  match l[k]? with
  | none => true
  | some s => okSt s && (decide (k = 0) || (match l[k-1]? with | none => true | some r => decide (r.id < s.id)))
def okUp (l : List St) (k : Nat) : Bool := (List.range k).all (okAt l)
theorem okUp_zero (l : List St) : okUp l 0 = true := by simp [okUp]
theorem okUp_succ (l : List St) (k : Nat) : okUp l (k + 1) = (okUp l k && okAt l k) := by simp [okUp, List.range_succ, List.all_append]
theorem okUp_not {l : List St} {k n : Nat} (h : okAt l k = false) (hk : k < n) : okUp l n = false := by
  unfold okUp
  rw [Bool.eq_false_iff]
  intro hall
  have := List.all_eq_true.1 hall k (List.mem_range.2 hk)
  rw [h] at this; exact absurd this (by simp)
/-- a list of at most twelve valid stamps with rising ids -/
def okSts (l : List St) : Bool := decide (l.length ≤ 12) && okUp l l.length
theorem okAt_of {l : List St} {k : Nat} {s : St} (hs : l[k]? = some s) (h : okAt l k = true) : okSt s = true ∧ ∀ r, 0 < k → l[k-1]? = some r → r.id < s.id := by
  unfold okAt at h
  rw [hs] at h
  simp only [Bool.and_eq_true, Bool.or_eq_true, decide_eq_true_eq] at h
  refine ⟨h.1, fun r hk hr => ?_⟩
  rcases h.2 with h0 | h0
  · omega
  · rw [hr] at h0; simpa using h0
theorem okSts_len {l : List St} (h : okSts l = true) : l.length ≤ 12 := by unfold okSts at h; simp only [Bool.and_eq_true, decide_eq_true_eq] at h; exact h.1
theorem okSts_at {l : List St} (h : okSts l = true) {k : Nat} {s : St} (hs : l[k]? = some s) : okSt s = true ∧ ∀ r, 0 < k → l[k-1]? = some r → r.id < s.id := by
  unfold okSts at h
  simp only [Bool.and_eq_true, decide_eq_true_eq] at h
  exact okAt_of hs (List.all_eq_true.1 h.2 k (List.mem_range.2 (List.getElem?_eq_some_iff.1 hs).1))
theorem okSts_mem {l : List St} (h : okSts l = true) {s : St} (hs : s ∈ l) : okSt s = true := by
  obtain ⟨k, hk⟩ := List.getElem?_of_mem hs
  exact (okSts_at h hk).1

/-- the cells of a list of stamps, one after the other -/
def flat (l : List St) : List Value := l.flatMap St.cells
theorem flat_nil : flat [] = [] := rfl
theorem flat_cons (s : St) (l : List St) : flat (s :: l) = s.cells ++ flat l := by simp [flat]
theorem flat_len (l : List St) : (flat l).length = l.length * 4 := by
  induction l with
  | nil => rfl
  | cons s l ih => rw [flat_cons, List.length_append, ih]; simp [St.cells]; omega
theorem flat_at : ∀ (l : List St) (k : Nat) (s : St), l[k]? = some s → ∀ j, j < 4 → (flat l)[k * 4 + j]? = s.cells[j]?
  | [], k, s, h, _, _ => by simp at h
  | r :: l, 0, s, h, j, hj => by
    obtain rfl : r = s := by simpa using h
    rw [flat_cons, List.getElem?_append_left (by simp [St.cells]; omega)]; simp
  | r :: l, k + 1, s, h, j, hj => by
    rw [flat_cons, List.getElem?_append_right (by simp [St.cells]; omega), show (k + 1) * 4 + j - r.cells.length = k * 4 + j by simp [St.cells]; omega]
    exact flat_at l k s (by simpa using h) j hj
end Go.Proofs.Ytlljmgphgmklcaa.PlainStamp

/- Words for reckoning with plain functions; within and l1In. No condition. -/
namespace Go.Proofs.Ytlljmgphgmklcaa.QBase
set_option linter.unusedVariables false
set_option linter.unusedSimpArgs false
open Go.RowKit
open Go.Proofs.Ytlljmgphgmklcaa.GoP Go.Proofs.Ytlljmgphgmklcaa.PlainStamp

theorem iteK_if {ρ : Type} (c : Bool) (a b : Option ρ) : iteK c a b = if c = true then a else b := by cases c <;> rfl
theorem bind2_some {α β ρ : Type} (a : α) (b : β) (f : α → β → Option ρ) : bind2 (some (a, b)) f = f a b := rfl
theorem bind3_some {α β γ ρ : Type} (a : α) (b : β) (c : γ) (f : α → β → γ → Option ρ) : bind3 (some (a, b, c)) f = f a b c := rfl
theorem unp2_mk {α β ρ : Type} (a : α) (b : β) (f : α → β → Option ρ) : unp2 (a, b) f = f a b := rfl
theorem unp3_mk {α β γ ρ : Type} (a : α) (b : β) (c : γ) (f : α → β → γ → Option ρ) : unp3 (a, b, c) f = f a b c := rfl
theorem guardK_pos {ρ : Type} {p : Prop} [Decidable p] {a : Option ρ} (h : p) : guardK p a = a := if_pos h
theorem cut2 {α β : Type} {x : Option (α × β)} {p : α × β} (h : x = some p) : x = some (p.1, p.2) := h
theorem cut3 {α β γ : Type} {x : Option (α × β × γ)} {p : α × β × γ} (h : x = some p) : x = some (p.1, p.2.1, p.2.2) := h
theorem within_eq (n a b : Int) : GiWithin.P n a b = some (inB n a b) := by
  simp only [GiWithin.P, letK, joinK, appK, iteK_if, inB]
  by_cases h1 : a ≤ n <;> by_cases h2 : n ≤ b <;> simp [h1, h2]
theorem l1In_eq (n a b : Int) : GsL1In.P n a b = some (inB n a b) := by
  simp only [GsL1In.P, letK, joinK, appK, iteK_if, inB]
  by_cases h1 : a ≤ n <;> by_cases h2 : n ≤ b <;> simp [h1, h2]
end Go.Proofs.Ytlljmgphgmklcaa.QBase

/- Reckoning with the loops of plain functions; lists of valid records with rising ids. No condition. -/
namespace Go.Proofs.Ytlljmgphgmklcaa.QLoop
set_option linter.unusedVariables false
open Go.RowKit
open Go.Proofs.Ytlljmgphgmklcaa.GoP Go.Proofs.Ytlljmgphgmklcaa.QBase

theorem cnt_ex {σ ρ : Type} {f : Nat → σ → (σ → Option ρ) → (σ → Option ρ) → Option ρ} {fin : σ → Option ρ} {Q : ρ → Prop} {n : Nat} (I : Nat → σ → Prop)
    (step : ∀ k s nx, k < n → I k s → (∀ s', I (k + 1) s' → ∃ r, nx s' = some r ∧ Q r) → ∃ r, f k s nx fin = some r ∧ Q r) (done : ∀ s, I n s → ∃ r, fin s = some r ∧ Q r) :
    ∀ m k s, k + m = n → I k s → ∃ r, cntK f m k s fin = some r ∧ Q r := by
  intro m
  induction m with
  | zero => intro k s hk hI; obtain rfl : k = n := by omega
            exact done s hI
  | succ m ih => intro k s hk hI; exact step k s _ (by omega) hI (fun s' h' => ih (k + 1) s' (by omega) h')
theorem cnt_is {σ ρ : Type} {f : Nat → σ → (σ → Option ρ) → (σ → Option ρ) → Option ρ} {fin : σ → Option ρ} {n : Nat} (r : ρ) (I : Nat → σ → Prop)
    (step : ∀ k s nx, k < n → I k s → (∀ s', I (k + 1) s' → nx s' = some r) → f k s nx fin = some r) (done : ∀ s, I n s → fin s = some r) (s : σ) (h0 : I 0 s) : cntK f n 0 s fin = some r := by
  obtain ⟨r', h, rfl⟩ := cnt_ex (Q := fun x => x = r) I (fun k s nx hk hI hn => ⟨r, step k s nx hk hI (fun s' h' => by obtain ⟨_, h, rfl⟩ := hn s' h'; exact h), rfl⟩) (fun s h => ⟨r, done s h, rfl⟩) n 0 s (by omega) h0
  exact h
theorem at_lt {α : Type} {l : List α} {k : Nat} (h : k < l.length) : ∃ x, l[k]? = some x ∧ idx l (k : Int) = some x := ⟨l[k], List.getElem?_eq_getElem h, by rw [idx_nat, List.getElem?_eq_getElem h]⟩
theorem idx_pred {α : Type} {l : List α} {k : Nat} {x : α} (hk : 0 < k) (hb : k ≤ 9223372036854775807) (h : l[k - 1]? = some x) : idx l (IntKind.i64.wrap ((k : Int) - 1)) = some x := by
  rw [IntWalk.i64_in _ (by omega), show ((k : Int) - 1) = ((k - 1 : Nat) : Int) by omega, idx_nat, h]
theorem take_next {α : Type} {l : List α} {k : Nat} {x : α} (h : l[k]? = some x) : l.take (k + 1) = l.take k ++ [x] := by
  obtain ⟨hk, e⟩ := List.getElem?_eq_some_iff.1 h
  rw [List.take_succ_eq_append_getElem hk, e]
theorem all_next {α : Type} {p : α → Bool} {l : List α} {k : Nat} {x : α} (h : l[k]? = some x) : (l.take (k + 1)).all p = ((l.take k).all p && p x) := by
  rw [take_next h]; simp
theorem not_all {α : Type} {p : α → Bool} {l : List α} {k : Nat} {x : α} (h : l[k]? = some x) (hp : p x = false) : l.all p = false := by
  rw [Bool.eq_false_iff]
  intro ha
  have := List.all_eq_true.1 ha x (List.mem_of_getElem? h)
  rw [hp] at this; exact absurd this (by simp)
theorem wrap_in {x : Int} (h1 : -9223372036854775808 ≤ x) (h2 : x ≤ 9223372036854775807) : IntKind.i64.wrap x = x := IntWalk.i64_in _ (by omega)

/-- valid, and above the one ahead of it -/
def upAt {α : Type} (ok : α → Bool) (id : α → Int) (l : List α) (k : Nat) : Bool :=
  match l[k]? with
  | none => true
  | some s => ok s && (decide (k = 0) || (match l[k-1]? with | none => true | some r => decide (id r < id s)))
def upTo {α : Type} (ok : α → Bool) (id : α → Int) (l : List α) (k : Nat) : Bool := (List.range k).all (upAt ok id l)
theorem upTo_zero {α : Type} (ok : α → Bool) (id : α → Int) (l : List α) : upTo ok id l 0 = true := rfl
theorem upTo_succ {α : Type} (ok : α → Bool) (id : α → Int) (l : List α) (k : Nat) : upTo ok id l (k + 1) = (upTo ok id l k && upAt ok id l k) := by simp [upTo, List.range_succ, List.all_append]
theorem upTo_not {α : Type} {ok : α → Bool} {id : α → Int} {l : List α} {k n : Nat} (h : upAt ok id l k = false) (hk : k < n) : upTo ok id l n = false := by
  unfold upTo
  rw [Bool.eq_false_iff]
  intro ha
  have := List.all_eq_true.1 ha k (List.mem_range.2 hk)
  rw [h] at this; exact absurd this (by simp)
/-- a list of at most m valid records with rising ids -/
def upL {α : Type} (m : Nat) (ok : α → Bool) (id : α → Int) (l : List α) : Bool := decide (l.length ≤ m) && upTo ok id l l.length
theorem upAt_bad {α : Type} {ok : α → Bool} {id : α → Int} {l : List α} {k : Nat} {s : α} (hs : l[k]? = some s) (h : ok s = false) : upAt ok id l k = false := by unfold upAt; rw [hs]; simp [h]
theorem upAt_first {α : Type} {ok : α → Bool} {id : α → Int} {l : List α} {s : α} (hs : l[0]? = some s) (h : ok s = true) : upAt ok id l 0 = true := by unfold upAt; rw [hs]; simp [h]
theorem upAt_next {α : Type} {ok : α → Bool} {id : α → Int} {l : List α} {k : Nat} {s r : α} (hs : l[k]? = some s) (hr : l[k-1]? = some r) (hk : 0 < k) (h : ok s = true) : upAt ok id l k = decide (id r < id s) := by
  unfold upAt; rw [hs]; simp only [hr, h, Bool.true_and, decide_eq_false (show ¬ k = 0 by omega), Bool.false_or]
theorem upL_len {α : Type} {m : Nat} {ok : α → Bool} {id : α → Int} {l : List α} (h : upL m ok id l = true) : l.length ≤ m := by unfold upL at h; simp only [Bool.and_eq_true, decide_eq_true_eq] at h; exact h.1
theorem upL_ok {α : Type} {m : Nat} {ok : α → Bool} {id : α → Int} {l : List α} (h : upL m ok id l = true) {k : Nat} {s : α} (hs : l[k]? = some s) : ok s = true := by
  unfold upL at h
  simp only [Bool.and_eq_true, decide_eq_true_eq] at h
  have := List.all_eq_true.1 h.2 k (List.mem_range.2 (List.getElem?_eq_some_iff.1 hs).1)
  unfold upAt at this
  rw [hs] at this
  simp only [Bool.and_eq_true] at this
  exact this.1
theorem upL_mem {α : Type} {m : Nat} {ok : α → Bool} {id : α → Int} {l : List α} (h : upL m ok id l = true) {s : α} (hs : s ∈ l) : ok s = true := by
  obtain ⟨k, hk⟩ := List.getElem?_of_mem hs
  exact upL_ok h hk
/-- a loop that goes through a list of records and stops with 'false' at the first that is bad -/
theorem up_loop {α : Type} {ok : α → Bool} {id : α → Int} {l : List α} {R : Type} {no : R} {f : Nat → Unit → (Unit → Option R) → (Unit → Option R) → Option R} {fin : Unit → Option R}
    (step : ∀ k nx s, l[k]? = some s → (ok s = false → f k () nx fin = some no) ∧ (ok s = true → (k = 0 → f k () nx fin = nx ()) ∧ (0 < k → ∀ r, l[k-1]? = some r → (id r < id s → f k () nx fin = nx ()) ∧ (id s ≤ id r → f k () nx fin = some no)))) :
    cntK f l.length 0 () fin = if upTo ok id l l.length then fin () else some no := by
  have key : ∀ m k, k + m = l.length → upTo ok id l k = true → cntK f m k () fin = if upTo ok id l l.length then fin () else some no := by
    intro m
    induction m with
    | zero => intro k hk hu; obtain rfl : k = l.length := by omega
              rw [hu]; rfl
    | succ m ih =>
      intro k hk hu
      have hlt : k < l.length := by omega
      obtain ⟨s, hs, _⟩ := at_lt hlt
      obtain ⟨h1, h2⟩ := step k (fun s' => cntK f m (k + 1) s' fin) s hs
      show f k () _ fin = _
      cases hok : ok s with
      | false => rw [h1 hok, upTo_not (upAt_bad hs hok) hlt]; rfl
      | true =>
        obtain ⟨h3, h4⟩ := h2 hok
        by_cases hk0 : k = 0
        · rw [h3 hk0]
          subst hk0
          exact ih 1 (by omega) (by rw [upTo_succ, hu, upAt_first hs hok]; rfl)
        · obtain ⟨r, hr, _⟩ := at_lt (l := l) (k := k - 1) (by omega)
          obtain ⟨h5, h6⟩ := h4 (by omega) r hr
          by_cases hlt2 : id r < id s
          · rw [h5 hlt2]
            exact ih (k + 1) (by omega) (by rw [upTo_succ, hu, upAt_next hs hr (by omega) hok]; simpa using hlt2)
          · rw [h6 (by omega), upTo_not (by rw [upAt_next hs hr (by omega) hok]; simpa using hlt2) hlt]; rfl
  exact key l.length 0 (by omega) (upTo_zero ok id l)
end Go.Proofs.Ytlljmgphgmklcaa.QLoop

/- Draws on tapes: each gives something within its bounds. (QDraw) No condition but those of each theorem. -/
namespace Go.Proofs.Ytlljmgphgmklcaa.QDraw
set_option linter.unusedVariables false
set_option linter.unusedSimpArgs false
open Go.RowKit
open Go.Proofs.Ytlljmgphgmklcaa.GoP Go.Proofs.Ytlljmgphgmklcaa.PlainStamp Go.Proofs.Ytlljmgphgmklcaa.QBase Go.Proofs.Ytlljmgphgmklcaa.QLoop

/-- a tape that may be asked m times more -/
def good (t : GoC.Tape) (m : Nat) : Prop := m ≤ t.left ∧ ∀ i, 0 ≤ t.vals i ∧ t.vals i ≤ 255
theorem good_less {t : GoC.Tape} {m n : Nat} (h : good t m) (hn : n ≤ m) : good t n := ⟨Nat.le_trans hn h.1, h.2⟩
theorem good_of {tapes : List Int → GoC.Tape} (h : GoC.Tells tapes) (code : List Int) {m : Nat} (hm : m ≤ 4611686018427387904) : good (tapes code) m := ⟨by rw [h.1]; exact hm, h.2.1 code⟩
theorem next_ok {t : GoC.Tape} {m : Nat} (h : good t (m + 1)) : ∃ b t', GsL1CurNext.P t = some (b, t') ∧ (0 ≤ b ∧ b ≤ 255) ∧ good t' m := by
  unfold GsL1CurNext.P
  rw [if_pos (by have := h.1; omega)]
  exact ⟨_, _, rfl, h.2 0, by have := h.1; show m ≤ t.left - 1; omega, fun i => h.2 (i + 1)⟩
theorem pick_ok {t : GoC.Tape} {m : Nat} {n : Int} (h : good t (m + 2)) : ∃ x t', GsL1CurPick.P t n = some (x, t') ∧ 0 ≤ x ∧ (x < n ∨ n ≤ 1 ∧ x = 0) ∧ x ≤ 65535 ∧ good t' m := by
  simp only [GsL1CurPick.P, letK, iteK_if]
  by_cases hn : n ≤ 1
  · rw [if_pos (by simpa using hn)]
    exact ⟨0, t, rfl, by omega, by omega, by omega, good_less h (by omega)⟩
  · rw [if_neg (by simpa using hn)]
    obtain ⟨b, t1, e1, hb, h1⟩ := next_ok (m := m + 1) h
    rw [e1]
    simp only [bind2_some]
    by_cases h2 : 200 < n
    · rw [if_pos (by simpa using h2)]
      obtain ⟨b2, t2, e2, hb2, h3⟩ := next_ok (m := m) h1
      rw [e2]
      simp only [bind2_some, GsL1CurPick.j0, unp2, letK]
      rw [guardK_pos (by omega), wrap_in (x := b * 256) (by omega) (by omega), wrap_in (by omega) (by omega), Int.tmod_eq_emod_of_nonneg (by omega)]
      have k1 := Int.emod_nonneg (b * 256 + b2) (show n ≠ 0 by omega)
      have k2 := Int.emod_lt_of_pos (b * 256 + b2) (show 0 < n by omega)
      have k3 : (b * 256 + b2) % n ≤ 65535 := by
        by_cases hq : n ≤ 65536
        · omega
        · rw [Int.emod_eq_of_lt (by omega) (by omega)]; omega
      exact ⟨_, _, rfl, k1, .inl k2, by omega, h3⟩
    · rw [if_neg (by simpa using h2)]
      simp only [GsL1CurPick.j0, unp2, letK]
      rw [guardK_pos (by omega), Int.tmod_eq_emod_of_nonneg (by omega)]
      have k1 := Int.emod_nonneg b (show n ≠ 0 by omega)
      have k2 := Int.emod_lt_of_pos b (show 0 < n by omega)
      exact ⟨_, _, rfl, k1, .inl k2, by omega, good_less h1 (by omega)⟩
theorem among_ok {t : GoC.Tape} {m : Nat} {l : List Int} (h : good t (m + 2)) (h0 : 0 < l.length) : ∃ x t', GsL1CurAmong.P t l = some (x, t') ∧ x ∈ l ∧ good t' m := by
  obtain ⟨x, t', e, hx0, hx, _, hg⟩ := pick_ok (n := (l.length : Int)) h
  simp only [GsL1CurAmong.P, e, bind2_some]
  obtain ⟨y, hy, hyi⟩ := at_lt (l := l) (k := x.toNat) (by omega)
  rw [show ((x.toNat : Nat) : Int) = x by omega] at hyi
  exact ⟨y, t', by rw [hyi]; rfl, List.mem_of_getElem? hy, hg⟩
theorem one_ok {t : GoC.Tape} {m : Nat} {n : Int} (h : good t (m + 2)) : ∃ b t', GsL1CurOne.P t n = some (b, t') ∧ good t' m := by
  obtain ⟨x, t', e, _, _, _, hg⟩ := pick_ok (n := n) h
  exact ⟨x == 0, t', by simp only [GsL1CurOne.P, e, bind2_some, letK], hg⟩
end Go.Proofs.Ytlljmgphgmklcaa.QDraw

/- Loops that test each place, and loops without a count. No condition. -/
namespace Go.Proofs.Ytlljmgphgmklcaa.QAll
set_option linter.unusedVariables false
set_option linter.unusedSimpArgs false
open Go.RowKit
open Go.Proofs.Ytlljmgphgmklcaa.GoP Go.Proofs.Ytlljmgphgmklcaa.QBase Go.Proofs.Ytlljmgphgmklcaa.QLoop

/-- each number below n is good -/
def allN (n : Nat) (p : Nat → Bool) : Bool := (List.range n).all p
theorem allN_iff {n : Nat} {p : Nat → Bool} : allN n p = true ↔ ∀ i, i < n → p i = true := by unfold allN; simp
theorem allN_no {n k : Nat} {p : Nat → Bool} (hk : k < n) (h : p k = false) : allN n p = false := by
  rw [Bool.eq_false_iff]; intro ha; rw [allN_iff.1 ha k hk] at h; exact absurd h (by simp)
theorem allN_eq {n m : Nat} {p q : Nat → Bool} (h : (∀ i, i < n → p i = true) ↔ (∀ i, i < m → q i = true)) : allN n p = allN m q := by
  rw [Bool.eq_iff_iff, allN_iff, allN_iff]; exact h
theorem all_cnt {ρ : Type} {n : Nat} {p : Nat → Bool} {no : ρ} {f : Nat → Unit → (Unit → Option ρ) → (Unit → Option ρ) → Option ρ} {fin : Unit → Option ρ}
    (step : ∀ k nx, k < n → (p k = false → f k () nx fin = some no) ∧ (p k = true → f k () nx fin = nx ())) : cntK f n 0 () fin = if allN n p = true then fin () else some no := by
  have key : ∀ m k, k + m = n → (∀ i, i < k → p i = true) → cntK f m k () fin = if allN n p = true then fin () else some no := by
    intro m
    induction m with
    | zero => intro k hk hu; obtain rfl : k = n := by omega
              rw [allN_iff.2 hu]; rfl
    | succ m ih =>
      intro k hk hu
      obtain ⟨h1, h2⟩ := step k (fun s' => cntK f m (k + 1) s' fin) (by omega)
      show f k () _ fin = _
      cases hp : p k with
      | false => rw [h1 hp, allN_no (by omega) hp]; rfl
      | true =>
        rw [h2 hp]
        refine ih (k + 1) (by omega) (fun i hi => ?_)
        by_cases he : i = k
        · rw [he]; exact hp
        · exact hu i (by omega)
  exact key n 0 (by omega) (fun i hi => by omega)
theorem lp_ex {σ ρ : Type} {f : σ → (σ → Option ρ) → (σ → Option ρ) → Option ρ} {fin : σ → Option ρ} {Q : ρ → Prop} {n : Nat} (I : Nat → σ → Prop)
    (step : ∀ k s nx, k < n → I k s → (∀ s', I (k + 1) s' → ∃ r, nx s' = some r ∧ Q r) → ∃ r, f s nx fin = some r ∧ Q r) (done : ∀ s nx, I n s → ∃ r, f s nx fin = some r ∧ Q r) :
    ∀ fuel k s, k ≤ n → n - k < fuel → I k s → ∃ r, loopK f fuel s fin = some r ∧ Q r := by
  intro fuel
  induction fuel with
  | zero => intro k s hk hf; omega
  | succ m ih =>
    intro k s hk hf hI
    show ∃ r, f s _ fin = some r ∧ Q r
    by_cases he : k = n
    · subst he; exact done s _ hI
    · exact step k s _ (by omega) hI (fun s' h' => ih (k + 1) s' (by omega) (by omega) h')
theorem all_lp {ρ : Type} {n : Nat} {p : Nat → Bool} {no : ρ} {f : Int → (Int → Option ρ) → (Int → Option ρ) → Option ρ} {fin : Int → Option ρ}
    (step : ∀ (k : Nat) nx, k < n → (p k = false → f (k : Int) nx fin = some no) ∧ (p k = true → f (k : Int) nx fin = nx ((k + 1 : Nat) : Int))) (stop : ∀ nx, f (n : Int) nx fin = fin (n : Int))
    (fuel : Nat) (hf : n < fuel) : loopK f fuel 0 fin = if allN n p = true then fin (n : Int) else some no := by
  have key : ∀ fuel k, k ≤ n → n - k < fuel → (∀ i, i < k → p i = true) → loopK f fuel (k : Int) fin = if allN n p = true then fin (n : Int) else some no := by
    intro fuel
    induction fuel with
    | zero => intro k hk hf; omega
    | succ m ih =>
      intro k hk hf hu
      show f (k : Int) _ fin = _
      by_cases he : k = n
      · subst he; rw [stop, allN_iff.2 hu]; rfl
      · obtain ⟨h1, h2⟩ := step k (fun s' => loopK f m s' fin) (by omega)
        cases hp : p k with
        | false => rw [h1 hp, allN_no (by omega) hp]; rfl
        | true =>
          rw [h2 hp]
          refine ih (k + 1) (by omega) (by omega) (fun i hi => ?_)
          by_cases he : i = k
          · rw [he]; exact hp
          · exact hu i (by omega)
  exact key fuel 0 (by omega) (by omega) (fun i hi => by omega)
theorem next_i {k : Nat} (h : k ≤ 9223372036854775806) : IntKind.i64.wrap ((k : Int) + 1) = ((k + 1 : Nat) : Int) := by rw [wrap_in (by omega) (by omega)]; omega
end Go.Proofs.Ytlljmgphgmklcaa.QAll

/- Rising rows: what a rising row gives; loops that sum; loops from one on. No condition. -/
namespace Go.Proofs.Ytlljmgphgmklcaa.QUp
set_option linter.unusedVariables false
set_option linter.unusedSimpArgs false
open Go.RowKit
open Go.Proofs.Ytlljmgphgmklcaa.GoP Go.Proofs.Ytlljmgphgmklcaa.QBase Go.Proofs.Ytlljmgphgmklcaa.QLoop Go.Proofs.Ytlljmgphgmklcaa.QAll

theorem upTo_at {α : Type} {ok : α → Bool} {id : α → Int} {l : List α} {n : Nat} (h : upTo ok id l n = true) {k : Nat} (hk : k < n) : upAt ok id l k = true := List.all_eq_true.1 h k (List.mem_range.2 hk)
theorem upTo_ok {α : Type} {ok : α → Bool} {id : α → Int} {l : List α} {n : Nat} (h : upTo ok id l n = true) {k : Nat} (hk : k < n) {x : α} (hx : l[k]? = some x) : ok x = true := by
  have := upTo_at h hk
  unfold upAt at this
  rw [hx] at this
  simp only [Bool.and_eq_true] at this
  exact this.1
theorem upTo_step {α : Type} {ok : α → Bool} {id : α → Int} {l : List α} {n : Nat} (h : upTo ok id l n = true) {k : Nat} (hk : k + 1 < n) {x y : α} (hx : l[k]? = some x) (hy : l[k + 1]? = some y) : id x < id y := by
  have := upTo_at h hk
  unfold upAt at this
  rw [hy] at this
  simp only [Nat.add_sub_cancel, hx, Bool.and_eq_true, Bool.or_eq_true, decide_eq_true_eq] at this
  rcases this.2 with h0 | h0
  · omega
  · exact h0
theorem upTo_lt {α : Type} {ok : α → Bool} {id : α → Int} {l : List α} {n : Nat} (h : upTo ok id l n = true) (hn : n ≤ l.length) {i : Nat} : ∀ d {x y : α}, i + d + 1 < n → l[i]? = some x → l[i + d + 1]? = some y → id x < id y := by
  intro d
  induction d with
  | zero => intro x y hk hx hy; exact upTo_step h hk hx hy
  | succ d ih =>
    intro x y hk hx hy
    obtain ⟨z, hz, _⟩ := at_lt (l := l) (k := i + d + 1) (by omega)
    have h1 := ih (by omega) hx hz
    have h2 := upTo_step (k := i + d + 1) h (by omega) hz (by rw [← hy]; rfl)
    omega
/-- rising numbers: the later one is greater -/
theorem up_less {α : Type} {ok : α → Bool} {id : α → Int} {l : List α} (h : upTo ok id l l.length = true) {i j : Nat} {x y : α} (hij : i < j) (hx : l[i]? = some x) (hy : l[j]? = some y) : id x < id y := by
  have hj := (List.getElem?_eq_some_iff.1 hy).1
  exact upTo_lt h (Nat.le_refl _) (j - i - 1) (by omega) hx (by rw [← hy]; congr 1; omega)
/-- a loop with fuel, from k on, by an invariant -/
theorem lp_is {σ ρ : Type} {f : σ → (σ → Option ρ) → (σ → Option ρ) → Option ρ} {fin : σ → Option ρ} {n : Nat} (r : ρ) (I : Nat → σ → Prop)
    (step : ∀ k s nx, k < n → I k s → (∀ s', I (k + 1) s' → nx s' = some r) → f s nx fin = some r) (done : ∀ s nx, I n s → f s nx fin = some r) (fuel : Nat) (k : Nat) (s : σ) (hk : k ≤ n) (hf : n - k < fuel) (hI : I k s) : loopK f fuel s fin = some r := by
  obtain ⟨r', h, rfl⟩ := lp_ex (Q := fun x => x = r) I (fun k s nx hk hI hn => ⟨r, step k s nx hk hI (fun s' h' => by obtain ⟨_, h, rfl⟩ := hn s' h'; exact h), rfl⟩) (fun s nx h => ⟨r, done s nx h, rfl⟩) fuel k s hk hf hI
  exact h
theorem most_eq (a b : Int) (h : (if b < a then a else b) = max a b := by omega) : (if b < a then a else b) = max a b := h
end Go.Proofs.Ytlljmgphgmklcaa.QUp

/- What the named laws of rates draw: rates, days, weights: the draws answer, within bounds. (Q8Draws) No condition but those of each theorem. -/
namespace Go.Proofs.Ytlljmgphgmklcaa.Q8Draws
set_option linter.unusedVariables false
set_option linter.unusedSimpArgs false
open Go.RowKit
open Go.Proofs.Ytlljmgphgmklcaa.GoP Go.Proofs.Ytlljmgphgmklcaa.PlainStamp Go.Proofs.Ytlljmgphgmklcaa.QBase Go.Proofs.Ytlljmgphgmklcaa.QDraw Go.Proofs.Ytlljmgphgmklcaa.QUp Go.Proofs.Ytlljmgphgmklcaa.QAll Go.Proofs.Ytlljmgphgmklcaa.QLoop Go.Proofs.Ytlljmgphgmklcaa.PRate

def smR (x : Rate) : Prop := (-10000 ≤ x.zone ∧ x.zone ≤ 10000) ∧ (-10000 ≤ x.grams ∧ x.grams ≤ 10000) ∧ (-10000 ≤ x.from_ ∧ x.from_ ≤ 10000) ∧ (-10000 ≤ x.until_ ∧ x.until_ ≤ 10000) ∧ (-10000 ≤ x.cents ∧ x.cents ≤ 10000)
theorem day8_ok {t : GoC.Tape} {m : Nat} (h : good t (m + 2)) : ∃ x t', GsL1CurRateDay.P t = some (x, t') ∧ good t' m := by
  obtain ⟨x, t1, e1, _, h1⟩ := among_ok (l := [0, 1, 4, 5, 6, 9, 10, 11, 14, 15, 20, 25, 4000, 4001, (-1)]) h (by simp)
  exact ⟨x, t1, by simp only [GsL1CurRateDay.P, letK, e1, bind2_some], h1⟩
theorem rate8_ok {t : GoC.Tape} {m : Nat} (z g f : Int) (hz : -10000 ≤ z ∧ z ≤ 10000) (hg : -10000 ≤ g ∧ g ≤ 10000) (hf : -6000 ≤ f ∧ f ≤ 6000) (h : good t (m + 8)) : ∃ x t', GsL1CurRate.P t z g f = some (x, t') ∧ smR x ∧ (f - 1 ≤ x.until_ ∨ 4000 ≤ x.until_) ∧ good t' m := by
  obtain ⟨a, t1, e1, ha, h1⟩ := among_ok (l := [5, 9, 9, 19]) (m := m + 6) h (by simp)
  obtain ⟨c, t2, e2, hc, h2⟩ := among_ok (l := [3, 5, 5, 10, 12, 25, 9999]) (m := m + 4) h1 (by simp)
  obtain ⟨p, t3, e3, hp0, hp, _, h3⟩ := pick_ok (n := 64) (m := m + 2) h2
  have ha2 : 0 ≤ a ∧ a ≤ 19 := by simp only [List.mem_cons, List.not_mem_nil, or_false] at ha; omega
  have hc2 : 0 ≤ c ∧ c ≤ 9999 := by simp only [List.mem_cons, List.not_mem_nil, or_false] at hc; omega
  simp only [GsL1CurRate.P, letK, e1, e2, e3, bind2_some, iteK_if]
  rw [wrap_in (x := f + a) (by omega) (by omega), wrap_in (x := f - 1) (by omega) (by omega)]
  by_cases hp1 : p = 0
  · obtain ⟨u, t4, e4, hu, h4⟩ := among_ok (l := [f - 1, 4000, 4001]) (m := m) h3 (by simp)
    simp only [List.mem_cons, List.not_mem_nil, or_false] at hu
    refine ⟨⟨z, g, f, u, c⟩, t4, by simp only [hp1, beq_self_eq_true, if_true, e4, bind2_some], ⟨hz, hg, ?_, ?_, ?_⟩, ?_, h4⟩ <;> dsimp only <;> omega
  · have hpb : (p == 0) = false := by simpa using hp1
    by_cases hp2 : p = 1
    · obtain ⟨u, t4, e4, hu, h4⟩ := among_ok (l := [0, 10000]) (m := m) h3 (by simp)
      simp only [List.mem_cons, List.not_mem_nil, or_false] at hu
      refine ⟨⟨z, g, f, f + a, u⟩, t4, by simp only [hp2, show ((1 : Int) == 0) = false from rfl, Bool.false_eq_true, if_false, beq_self_eq_true, if_true, e4, bind2_some], ⟨hz, hg, ?_, ?_, ?_⟩, ?_, h4⟩ <;> dsimp only <;> omega
    · have hpb2 : (p == 1) = false := by simpa using hp2
      refine ⟨⟨z, g, f, f + a, c⟩, t3, by simp only [hpb, hpb2, Bool.false_eq_true, if_false], ⟨hz, hg, ?_, ?_, ?_⟩, ?_, good_less h3 (by omega)⟩ <;> dsimp only <;> omega
/-- one round: at most two rates more -/
theorem round8_ok {R : Type} {k0 k1 : Nat} (hk0 : k0 < 3) (hk1 : k1 < 3) {l : List Rate} {t : GoC.Tape} {m : Nat} (hl : l.length ≤ 1000) (hs : ∀ x ∈ l, smR x) (h : good t (m + 24)) (nx bk : List Rate × GoC.Tape → Option (List Rate × GoC.Tape)) :
    ∃ l' t', GsL1CurRates.l1 k0 k1 (l, t) nx bk = nx (l', t') ∧ l'.length ≤ l.length + 2 ∧ (∀ x ∈ l', smR x) ∧ good t' m := by
  obtain ⟨b, t1, e1, h1⟩ := one_ok (n := 2) (m := m + 22) h
  simp only [GsL1CurRates.l1, unp2, e1, bind2_some, iteK_if]
  cases b with
  | false => exact ⟨l, t1, by simp [appK], by omega, hs, good_less h1 (by omega)⟩
  | true =>
    obtain ⟨gr, hgr, hgi⟩ := at_lt (l := [(20 : Int), 50, 100]) (k := k1) hk1
    have hgm := List.mem_of_getElem? hgr
    simp only [List.mem_cons, List.not_mem_nil, or_false] at hgm
    obtain ⟨f, t2, e2, hf, h2⟩ := among_ok (l := [0, 0, 5]) (m := m + 20) h1 (by simp)
    simp only [List.mem_cons, List.not_mem_nil, or_false] at hf
    obtain ⟨x, t3, e3, hx, hxu, h3⟩ := rate8_ok (m := m + 12) (k0 : Int) gr f (by omega) (by omega) (by omega) h2
    obtain ⟨b2, t4, e4, h4⟩ := one_ok (n := 2) (m := m + 10) h3
    have hxe : Rate.mk x.zone x.grams x.from_ x.until_ x.cents = x := rfl
    have hlen : IntKind.i64.wrap (((l ++ [x]).length : Int) - 1) = (l.length : Int) := by rw [List.length_append, List.length_singleton, wrap_in (by omega) (by omega)]; omega
    have hidx : idx (l ++ [x]) (l.length : Int) = some x := by rw [idx_nat]; simp
    have hs2 : ∀ y ∈ l ++ [x], smR y := by
      intro y hy
      rcases List.mem_append.1 hy with hy | hy
      · exact hs y hy
      · obtain rfl := List.mem_singleton.1 hy; exact hx
    simp only [if_true, letK, hgi, Option.bind_some, e2, e3, e4, bind2_some, unRate, hxe, GsL1CurRates.q0, GsL1CurRates.q1, unp2]
    rw [guardK_pos (by omega), hlen, hidx]
    simp only [Option.bind_some, joinK, appK, iteK_if]
    have stop : ∃ l' t', nx (l ++ [x], t4) = nx (l', t') ∧ l'.length ≤ l.length + 2 ∧ (∀ x ∈ l', smR x) ∧ good t' m := ⟨l ++ [x], t4, rfl, by simp, hs2, good_less h4 (by omega)⟩
    cases b2 with
    | false => simpa using stop
    | true =>
      by_cases hu : x.until_ < 30
      · obtain ⟨a, t5, e5, ha, h5⟩ := among_ok (l := [1, 1, 3]) (m := m + 8) h4 (by simp)
        simp only [List.mem_cons, List.not_mem_nil, or_false] at ha
        have hub := hx.2.2.2.1
        have hgb := hx.2.1
        obtain ⟨y, t6, e6, hy, _, h6⟩ := rate8_ok (m := m) (k0 : Int) x.grams (x.until_ + a) (by omega) hgb (by omega) h5
        have hye : Rate.mk y.zone y.grams y.from_ y.until_ y.cents = y := rfl
        have hw : IntKind.i64.wrap (x.until_ + a) = x.until_ + a := wrap_in (by omega) (by omega)
        simp only [decide_eq_true hu, if_true, e5, bind2_some, hw, e6, hye]
        rw [guardK_pos (by rw [List.length_append]; simp; omega)]
        refine ⟨(l ++ [x]) ++ [y], t6, rfl, by simp, ?_, h6⟩
        intro v hv
        rcases List.mem_append.1 hv with hv | hv
        · exact hs2 v hv
        · obtain rfl := List.mem_singleton.1 hv; exact hy
      · simp only [decide_eq_false hu, Bool.false_eq_true, if_false, if_true]
        exact stop
theorem more8_ok {t : GoC.Tape} {m : Nat} (fuel : Nat) (hf : 1048577 ≤ fuel) (l : List Rate) (hl : l.length ≤ 18) (hs : ∀ x ∈ l, smR x) (h : good t (m + 40)) : ∃ r : List Rate × GoC.Tape, loopK GsL1CurRates.l2 fuel (l, t) GsL1CurRates.e2 = some r ∧ (r.1.length ≤ 40 ∧ (∀ x ∈ r.1, smR x) ∧ good r.2 m) := by
  refine lp_ex (n := 18) (fun k (s : List Rate × GoC.Tape) => s.1.length = l.length + k ∧ (∀ x ∈ s.1, smR x) ∧ good s.2 (m + 40 - 2 * k)) ?_ ?_ fuel 0 _ (by omega) (by omega) ⟨rfl, hs, h⟩
  · rintro k ⟨o, c⟩ nx hk ⟨h1, h3, h4⟩ hn
    dsimp only at h1 h3 h4
    obtain ⟨x, c1, e, hx0, hx, _, hg⟩ := pick_ok (n := 2) (m := m + 38 - 2 * k) (good_less h4 (by omega))
    simp only [GsL1CurRates.l2, unp2, e, bind2_some, letK, iteK_if]
    rw [wrap_in (x := 16 + x) (by omega) (by omega)]
    by_cases hc : (o.length : Int) < 16 + x
    · rw [if_pos (by simpa using hc), wrap_in (x := 10 + (o.length : Int)) (by omega) (by omega), guardK_pos (by omega)]
      refine hn _ ⟨by simp [h1]; omega, ?_, good_less hg (by omega)⟩
      intro y hy
      rcases List.mem_append.1 hy with hy | hy
      · exact h3 y hy
      · obtain rfl := List.mem_singleton.1 hy
        refine ⟨?_, ?_, ?_, ?_, ?_⟩ <;> dsimp only <;> omega
    · rw [if_neg (by simpa using hc)]
      exact ⟨_, rfl, by dsimp only; omega, h3, good_less hg (by omega)⟩
  · rintro ⟨o, c⟩ nx ⟨h1, h3, h4⟩
    dsimp only at h1 h3 h4
    obtain ⟨x, c1, e, hx0, hx, _, hg⟩ := pick_ok (n := 2) (m := m) (good_less h4 (by omega))
    simp only [GsL1CurRates.l2, unp2, e, bind2_some, letK, iteK_if]
    rw [wrap_in (x := 16 + x) (by omega) (by omega), if_neg (by simp; omega)]
    exact ⟨_, rfl, by dsimp only; omega, h3, hg⟩
theorem end8_ok {t : GoC.Tape} {m : Nat} (fuel : Nat) (hf : 1048577 ≤ fuel) (l : List Rate) (hl : l.length ≤ 18) (hs : ∀ x ∈ l, smR x) (h : good t (m + 50)) : ∃ r : List Rate × GoC.Tape, GsL1CurRates.e0 fuel (l, t) = some r ∧ (r.1.length ≤ 40 ∧ (∀ x ∈ r.1, smR x) ∧ good r.2 m) := by
  obtain ⟨p, t1, e1, hp0, hp, _, h1⟩ := pick_ok (n := 32) (m := m + 48) h
  simp only [GsL1CurRates.e0, unp2, e1, bind2_some, letK, iteK_if]
  by_cases hp1 : p = 0
  · obtain ⟨z, t2, e2, hz, h2⟩ := among_ok (l := [(-1), 2, 9, 10]) (m := m + 46) h1 (by simp)
    obtain ⟨g, t3, e3, hg, h3⟩ := among_ok (l := [0, 100, 2000, 2001]) (m := m + 44) h2 (by simp)
    simp only [List.mem_cons, List.not_mem_nil, or_false] at hz hg
    obtain ⟨x, t4, e4, hx, _, h4⟩ := rate8_ok (m := m + 36) z g 3 (by omega) (by omega) (by omega) h3
    have hxe : Rate.mk x.zone x.grams x.from_ x.until_ x.cents = x := rfl
    simp only [hp1, beq_self_eq_true, if_true, e2, e3, e4, bind2_some, unRate, hxe]
    rw [guardK_pos (by omega)]
    refine ⟨_, rfl, by simp; omega, ?_, good_less h4 (by omega)⟩
    intro y hy
    rcases List.mem_append.1 hy with hy | hy
    · exact hs y hy
    · obtain rfl := List.mem_singleton.1 hy; exact hx
  · have hpb : (p == 0) = false := by simpa using hp1
    by_cases hp2 : p = 1
    · simp only [hp2, show ((1 : Int) == 0) = false from rfl, Bool.false_eq_true, if_false, beq_self_eq_true, if_true]
      exact more8_ok fuel hf l hl hs (good_less h1 (by omega))
    · have hpb2 : (p == 1) = false := by simpa using hp2
      simp only [hpb, hpb2, Bool.false_eq_true, if_false]
      exact ⟨_, rfl, by dsimp only; omega, hs, good_less h1 (by omega)⟩
theorem rates8_ok {t : GoC.Tape} {m : Nat} (fuel : Nat) (hf : 1048577 ≤ fuel) (h : good t (m + 300)) : ∃ l t', GsL1CurRates.P fuel t = some (l, t') ∧ l.length ≤ 40 ∧ (∀ x ∈ l, smR x) ∧ good t' m := by
  obtain ⟨⟨l, t'⟩, h1, h2⟩ : ∃ r : List Rate × GoC.Tape, GsL1CurRates.P fuel t = some r ∧ (r.1.length ≤ 40 ∧ (∀ x ∈ r.1, smR x) ∧ good r.2 m) := by
    simp only [GsL1CurRates.P]
    refine cnt_ex (n := 3) (fun k (s : List Rate × GoC.Tape) => s.1.length ≤ 6 * k ∧ (∀ x ∈ s.1, smR x) ∧ good s.2 (m + 300 - 72 * k)) ?_ ?_ 3 0 _ (by omega) ⟨by simp, by simp, h⟩
    · rintro k ⟨l, c⟩ nx hk ⟨g1, g2, g3⟩ hn
      dsimp only at g1 g2 g3
      simp only [GsL1CurRates.l0, unp2]
      refine cnt_ex (n := 3) (fun j (s : List Rate × GoC.Tape) => s.1.length ≤ 6 * k + 2 * j ∧ (∀ x ∈ s.1, smR x) ∧ good s.2 (m + 300 - 72 * k - 24 * j)) ?_ ?_ 3 0 _ (by omega) ⟨by simpa using g1, g2, g3⟩
      · rintro j ⟨l2, c2⟩ nx2 hj ⟨k1, k2, k3⟩ hn2
        dsimp only at k1 k2 k3
        obtain ⟨l3, c3, e, q1, q2, q3⟩ := round8_ok (R := Unit) hk hj (m := m + 300 - 72 * k - 24 * j - 24) (by omega) k2 (good_less k3 (by omega)) nx2 (GsL1CurRates.e1 nx)
        rw [e]
        exact hn2 _ ⟨by dsimp only; omega, q2, good_less q3 (by omega)⟩
      · rintro ⟨l2, c2⟩ ⟨k1, k2, k3⟩
        dsimp only at k1 k2 k3
        simp only [GsL1CurRates.e1, unp2, appK]
        exact hn _ ⟨by dsimp only; omega, k2, good_less k3 (by omega)⟩
    · rintro ⟨l, c⟩ ⟨g1, g2, g3⟩
      dsimp only at g1 g2 g3
      exact end8_ok fuel hf l (by omega) g2 (good_less g3 (by omega))
  exact ⟨l, t', h1, h2⟩
end Go.Proofs.Ytlljmgphgmklcaa.Q8Draws

/- The named law of raises: what it draws, a raised rate on its day and the day before, and the law answers true. (Q8DrawsR) No condition but those of each theorem. -/
namespace Go.Proofs.Ytlljmgphgmklcaa.Q8DrawsR
set_option linter.unusedVariables false
set_option linter.unusedSimpArgs false
open Go.RowKit
open Go.Proofs.Ytlljmgphgmklcaa.GoP Go.Proofs.Ytlljmgphgmklcaa.PlainStamp Go.Proofs.Ytlljmgphgmklcaa.QBase Go.Proofs.Ytlljmgphgmklcaa.Q8Draws Go.Proofs.Ytlljmgphgmklcaa.QDraw Go.Proofs.Ytlljmgphgmklcaa.QUp Go.Proofs.Ytlljmgphgmklcaa.QAll Go.Proofs.Ytlljmgphgmklcaa.QLoop Go.Proofs.Ytlljmgphgmklcaa.PRate

theorem drawCheap_ok {tapes : List Int → GoC.Tape} (ht : GoC.Tells tapes) (code : List Int) (fuel : Nat) (hf : 1048577 ≤ fuel) : ∃ l d g, GsDrawCheapestZones.P fuel tapes code = some (l, d, g) ∧ l.length ≤ 40 := by
  obtain ⟨l, c0, e0, hl, _, h0⟩ := rates8_ok fuel hf (m := 40) (good_of ht code (by omega))
  obtain ⟨d, c1, e1, h1⟩ := day8_ok (m := 38) h0
  obtain ⟨g, c2, e2, _, h2⟩ := among_ok (l := [1, 20, 21, 51, 101, 0]) (m := 36) h1 (by simp)
  exact ⟨l, d, g, by simp only [GsDrawCheapestZones.P, letK, e0, e1, e2, bind2_some], hl⟩
theorem drawHeavy_ok {tapes : List Int → GoC.Tape} (ht : GoC.Tells tapes) (code : List Int) (fuel : Nat) (hf : 1048577 ≤ fuel) : ∃ l d z c, GsDrawHeaviestFor.P fuel tapes code = some (l, d, z, c) ∧ l.length ≤ 40 := by
  obtain ⟨l, c0, e0, hl, _, h0⟩ := rates8_ok fuel hf (m := 40) (good_of ht code (by omega))
  obtain ⟨d, c1, e1, h1⟩ := day8_ok (m := 38) h0
  obtain ⟨z, c2, e2, _, h2⟩ := among_ok (l := [0, 0, 1, 2, 10]) (m := 36) h1 (by simp)
  obtain ⟨g, c3, e3, _, h3⟩ := among_ok (l := [3, 4, 5, 10, 12, 25, 9999, 0, 10000]) (m := 34) h2 (by simp)
  exact ⟨l, d, z, g, by simp only [GsDrawHeaviestFor.P, letK, e0, e1, e2, e3, bind2_some], hl⟩
theorem drawStrange_ok {tapes : List Int → GoC.Tape} (ht : GoC.Tells tapes) (code : List Int) (fuel : Nat) (hf : 1048577 ≤ fuel) : ∃ l, GsDrawStrangeRates.P fuel tapes code = some l ∧ l.length ≤ 40 := by
  obtain ⟨l, c0, e0, hl, _, h0⟩ := rates8_ok fuel hf (m := 40) (good_of ht code (by omega))
  exact ⟨l, by simp only [GsDrawStrangeRates.P, GsDrawAreRates.P, letK, e0, bind2_some, Option.bind_some], hl⟩
theorem drawRaise_ok {tapes : List Int → GoC.Tape} (ht : GoC.Tells tapes) (code : List Int) (fuel : Nat) (hf : 1048577 ≤ fuel) : ∃ l z g d c, GsDrawRaiseRate.P fuel tapes code = some (l, z, g, d, c) ∧ l.length ≤ 40 := by
  obtain ⟨l, c0, e0, hl, hs, h0⟩ := rates8_ok fuel hf (m := 60) (good_of ht code (by omega))
  obtain ⟨c, c1, e1, _, h1⟩ := among_ok (l := [4, 5, 6, 9999, 0, 10000]) (m := 58) h0 (by simp)
  have other : ∀ t : GoC.Tape, good t 40 → ∃ g d g1 t1 d1 t2, GsL1CurAmong.P t [20, 50, 1] = some (g1, t1) ∧ GsL1CurRateDay.P t1 = some (d1, t2) ∧ g = g1 ∧ d = d1 := by
    intro t h
    obtain ⟨g, t1, e2, _, h2⟩ := among_ok (l := [20, 50, 1]) (m := 38) h (by simp)
    obtain ⟨d, t2, e3, _⟩ := day8_ok (m := 36) h2
    exact ⟨g, d, g, t1, d, t2, e2, e3, rfl, rfl⟩
  by_cases hpos : (0 : Int) < (l.length : Int)
  · obtain ⟨b, c2, e2, h2⟩ := one_ok (n := 6) (m := 56) h1
    cases b with
    | true =>
      obtain ⟨g, d, g1, t1, d1, t2, k1, k2, rfl, rfl⟩ := other c2 (good_less h2 (by omega))
      exact ⟨l, 0, g, d, c, by simp only [GsDrawRaiseRate.P, letK, e0, e1, e2, bind2_some, decide_eq_true hpos, iteK_if, if_true, joinK, appK, unp2, Bool.not_true, Bool.false_eq_true, if_false, k1, k2], hl⟩
    | false =>
      obtain ⟨k, c3, e3, hk0, hk, _, h3⟩ := pick_ok (n := (l.length : Int)) (m := 54) h2
      obtain ⟨y, hy, hyi⟩ := at_lt (l := l) (k := k.toNat) (by omega)
      rw [show ((k.toNat : Nat) : Int) = k by omega] at hyi
      obtain ⟨a, c4, e4, _, h4⟩ := among_ok (l := [0, 1, 1, 2, 5]) (m := 52) h3 (by simp)
      exact ⟨l, y.zone, y.grams, IntKind.i64.wrap (y.from_ + a), c, by simp only [GsDrawRaiseRate.P, letK, e0, e1, e2, e3, bind2_some, decide_eq_true hpos, iteK_if, if_true, joinK, appK, unp2, Bool.not_false, hyi, Option.bind_some, unRate, e4], hl⟩
  · obtain ⟨g, d, g1, t1, d1, t2, k1, k2, rfl, rfl⟩ := other c1 (good_less h1 (by omega))
    exact ⟨l, 0, g, d, c, by simp only [GsDrawRaiseRate.P, letK, e0, e1, bind2_some, decide_eq_false hpos, iteK_if, Bool.false_eq_true, if_false, joinK, appK, unp2, k1, k2], hl⟩
end Go.Proofs.Ytlljmgphgmklcaa.Q8DrawsR

/- Chapter 8: rates: the plain functions of the program and of the reference agree, and the laws answer true. (QFold) No condition but those of each theorem. -/
namespace Go.Proofs.Ytlljmgphgmklcaa.QFold
set_option linter.unusedVariables false
set_option linter.unusedSimpArgs false
open Go.RowKit
open Go.Proofs.Ytlljmgphgmklcaa.GoP Go.Proofs.Ytlljmgphgmklcaa.PlainStamp Go.Proofs.Ytlljmgphgmklcaa.QBase Go.Proofs.Ytlljmgphgmklcaa.QLoop

theorem fold_loop {α σ R : Type} {l : List α} {g : σ → α → σ} {f : Nat → σ → (σ → Option R) → (σ → Option R) → Option R} {fin : σ → Option R} (s0 : σ)
    (step : ∀ k nx x s, l[k]? = some x → f k s nx fin = nx (g s x)) : cntK f l.length 0 s0 fin = fin (l.foldl g s0) := by
  have key : ∀ m k s, k + m = l.length → cntK f m k s fin = fin ((l.drop k).foldl g s) := by
    intro m
    induction m with
    | zero => intro k s hk; rw [List.drop_of_length_le (by omega)]; rfl
    | succ m ih =>
      intro k s hk
      obtain ⟨x, hx, _⟩ := at_lt (l := l) (k := k) (by omega)
      obtain ⟨hlt, e⟩ := List.getElem?_eq_some_iff.1 hx
      show f k s _ fin = _
      rw [step k _ x s hx, ih (k + 1) _ (by omega), List.drop_eq_getElem_cons hlt, e]; rfl
  exact key l.length 0 s0 (by omega)
theorem find_val {α R : Type} {l : List α} {p : α → Bool} {f : Nat → Unit → (Unit → Option R) → (Unit → Option R) → Option R} {fin : Unit → Option R} {yes : α → Option R}
    (step : ∀ k nx x, l[k]? = some x → f k () nx fin = if p x = true then yes x else nx ()) : cntK f l.length 0 () fin = match l.find? p with | some x => yes x | none => fin () := by
  have key : ∀ m k, k + m = l.length → cntK f m k () fin = match (l.drop k).find? p with | some x => yes x | none => fin () := by
    intro m
    induction m with
    | zero => intro k hk; rw [List.drop_of_length_le (by omega)]; rfl
    | succ m ih =>
      intro k hk
      obtain ⟨x, hx, _⟩ := at_lt (l := l) (k := k) (by omega)
      obtain ⟨hlt, e⟩ := List.getElem?_eq_some_iff.1 hx
      show f k () _ fin = _
      rw [step k _ x hx, List.drop_eq_getElem_cons hlt, e, List.find?_cons]
      cases hp : p x with
      | true => simp
      | false => simp only [Bool.false_eq_true, if_false]; exact ih (k + 1) (by omega)
  exact key l.length 0 (by omega)
theorem find_congr {α : Type} {l : List α} {p q : α → Bool} (h : ∀ x ∈ l, p x = q x) : l.find? p = l.find? q := by
  induction l with
  | nil => rfl
  | cons x l ih => rw [List.find?_cons, List.find?_cons, h x (by simp), ih (fun y hy => h y (by simp [hy]))]
end Go.Proofs.Ytlljmgphgmklcaa.QFold

/- Lists of valid records in strictly rising order of any kind; texts in the order of their bytes. (QOrd) No condition but those of each theorem. -/
namespace Go.Proofs.Ytlljmgphgmklcaa.QOrd
set_option linter.unusedVariables false
set_option linter.unusedSimpArgs false
open Go.RowKit
open Go.Proofs.Ytlljmgphgmklcaa.GoP Go.Proofs.Ytlljmgphgmklcaa.PlainStamp Go.Proofs.Ytlljmgphgmklcaa.QBase Go.Proofs.Ytlljmgphgmklcaa.QLoop

/-- texts in the order of their bytes -/
def bl (a b : ByteArray) : Bool := Op.bytesLess a.toList b.toList
theorem bl_self' : ∀ x, Op.bytesLess x x = false
  | [] => rfl
  | a :: x => by
    have h1 : ¬ a < a := fun k => by rw [UInt8.lt_iff_toNat_lt] at k; omega
    simp [Op.bytesLess, h1, bl_self' x]
theorem bl_total' : ∀ x y, x ≠ y → Op.bytesLess x y = !(Op.bytesLess y x)
  | [], [], h => absurd rfl h
  | [], b :: y, _ => by simp [Op.bytesLess]
  | a :: x, [], _ => by simp [Op.bytesLess]
  | a :: x, b :: y, h => by
    by_cases hab : a = b
    · subst hab
      have h1 : ¬ a < a := fun k => by rw [UInt8.lt_iff_toNat_lt] at k; omega
      have := bl_total' x y (fun e => h (by rw [e]))
      simp [Op.bytesLess, h1, this]
    · have hne : a.toNat ≠ b.toNat := fun e => hab (UInt8.toNat_inj.1 e)
      by_cases hlt : a < b
      · have h2 : ¬ b < a := fun k => by rw [UInt8.lt_iff_toNat_lt] at k hlt; omega
        simp [Op.bytesLess, hlt, h2, Ne.symm hab]
      · have h2 : b < a := by rw [UInt8.lt_iff_toNat_lt] at hlt ⊢; omega
        simp [Op.bytesLess, hlt, h2, hab]
theorem bl_trans' : ∀ x y z, Op.bytesLess x y = true → Op.bytesLess y z = true → Op.bytesLess x z = true
  | [], _, [], h1, h2 => by rename_i y; cases y <;> simp [Op.bytesLess] at h1 h2
  | [], _, c :: z, _, _ => by simp [Op.bytesLess]
  | a :: x, [], _, h1, _ => by simp [Op.bytesLess] at h1
  | a :: x, b :: y, [], _, h2 => by simp [Op.bytesLess] at h2
  | a :: x, b :: y, c :: z, h1, h2 => by
    simp only [Op.bytesLess, Bool.or_eq_true, decide_eq_true_eq, Bool.and_eq_true, beq_iff_eq] at h1 h2 ⊢
    rcases h1 with h1 | ⟨rfl, h1⟩
    · rcases h2 with h2 | ⟨rfl, h2⟩
      · left; rw [UInt8.lt_iff_toNat_lt] at h1 h2 ⊢; omega
      · left; exact h1
    · rcases h2 with h2 | ⟨rfl, h2⟩
      · left; exact h2
      · right; exact ⟨rfl, bl_trans' x y z h1 h2⟩
theorem list_inj {a b : ByteArray} (h : a.toList = b.toList) : a = b := by
  rw [Lib.toList_data, Lib.toList_data] at h
  cases a; cases b; congr 1; exact Array.toList_inj.1 h
theorem bl_self (a : ByteArray) : bl a a = false := bl_self' _
theorem bl_total {a b : ByteArray} (h : a ≠ b) : bl a b = !(bl b a) := bl_total' _ _ (fun e => h (list_inj e))
theorem bl_trans {a b c : ByteArray} (h1 : bl a b = true) (h2 : bl b c = true) : bl a c = true := bl_trans' _ _ _ h1 h2
theorem bl_asymm {a b : ByteArray} (h : bl a b = true) : bl b a = false := by
  by_cases e : a = b
  · rw [e]; exact bl_self b
  · rw [bl_total e] at h; simpa using h
theorem bl_ne {a b : ByteArray} (h : bl a b = true) : a ≠ b := fun e => by rw [e, bl_self] at h; exact absurd h (by simp)
/-- 'not above', as the program asks it -/
theorem bl_le (a b : ByteArray) : (Op.bytesLess a.toList b.toList || a.toList == b.toList) = !(bl b a) := by
  by_cases e : a = b
  · subst e; rw [bl_self]; simp
  · have h1 : (a.toList == b.toList) = false := by rw [beq_eq_false_iff_ne]; exact fun h => e (list_inj h)
    rw [h1, Bool.or_false]; exact bl_total e
theorem bl_lt (a b : ByteArray) : Op.bytesLess a.toList b.toList = bl a b := rfl
theorem eq_list (a b : ByteArray) : (a.toList == b.toList) = decide (a = b) := by
  by_cases e : a = b
  · subst e; simp
  · rw [decide_eq_false e, beq_eq_false_iff_ne]; exact fun h => e (list_inj h)

/-- valid, and behind the one ahead of it -/
def riseAt {α : Type} (ok : α → Bool) (lt : α → α → Bool) (l : List α) (k : Nat) : Bool :=
  match l[k]? with
  | none => true
  | some s => ok s && (decide (k = 0) || (match l[k-1]? with | none => true | some r => lt r s))
def riseTo {α : Type} (ok : α → Bool) (lt : α → α → Bool) (l : List α) (k : Nat) : Bool := (List.range k).all (riseAt ok lt l)
theorem riseTo_zero {α : Type} (ok : α → Bool) (lt : α → α → Bool) (l : List α) : riseTo ok lt l 0 = true := rfl
theorem riseTo_succ {α : Type} (ok : α → Bool) (lt : α → α → Bool) (l : List α) (k : Nat) : riseTo ok lt l (k + 1) = (riseTo ok lt l k && riseAt ok lt l k) := by simp [riseTo, List.range_succ, List.all_append]
theorem riseTo_not {α : Type} {ok : α → Bool} {lt : α → α → Bool} {l : List α} {k n : Nat} (h : riseAt ok lt l k = false) (hk : k < n) : riseTo ok lt l n = false := by
  unfold riseTo
  rw [Bool.eq_false_iff]
  intro ha
  have := List.all_eq_true.1 ha k (List.mem_range.2 hk)
  rw [h] at this; exact absurd this (by simp)
def riseL {α : Type} (m : Nat) (ok : α → Bool) (lt : α → α → Bool) (l : List α) : Bool := decide (l.length ≤ m) && riseTo ok lt l l.length
theorem riseAt_bad {α : Type} {ok : α → Bool} {lt : α → α → Bool} {l : List α} {k : Nat} {s : α} (hs : l[k]? = some s) (h : ok s = false) : riseAt ok lt l k = false := by unfold riseAt; rw [hs]; simp [h]
theorem riseAt_first {α : Type} {ok : α → Bool} {lt : α → α → Bool} {l : List α} {s : α} (hs : l[0]? = some s) (h : ok s = true) : riseAt ok lt l 0 = true := by unfold riseAt; rw [hs]; simp [h]
theorem riseAt_next {α : Type} {ok : α → Bool} {lt : α → α → Bool} {l : List α} {k : Nat} {s r : α} (hs : l[k]? = some s) (hr : l[k-1]? = some r) (hk : 0 < k) (h : ok s = true) : riseAt ok lt l k = lt r s := by
  unfold riseAt; rw [hs]; simp only [hr, h, Bool.true_and, decide_eq_false (show ¬ k = 0 by omega), Bool.false_or]
theorem riseL_len {α : Type} {m : Nat} {ok : α → Bool} {lt : α → α → Bool} {l : List α} (h : riseL m ok lt l = true) : l.length ≤ m := by unfold riseL at h; simp only [Bool.and_eq_true, decide_eq_true_eq] at h; exact h.1
theorem riseTo_at {α : Type} {ok : α → Bool} {lt : α → α → Bool} {l : List α} {n : Nat} (h : riseTo ok lt l n = true) {k : Nat} (hk : k < n) : riseAt ok lt l k = true := List.all_eq_true.1 h k (List.mem_range.2 hk)
theorem riseL_ok {α : Type} {m : Nat} {ok : α → Bool} {lt : α → α → Bool} {l : List α} (h : riseL m ok lt l = true) {k : Nat} {s : α} (hs : l[k]? = some s) : ok s = true := by
  unfold riseL at h
  simp only [Bool.and_eq_true, decide_eq_true_eq] at h
  have := riseTo_at h.2 (List.getElem?_eq_some_iff.1 hs).1
  unfold riseAt at this
  rw [hs] at this
  simp only [Bool.and_eq_true] at this
  exact this.1
theorem riseL_mem {α : Type} {m : Nat} {ok : α → Bool} {lt : α → α → Bool} {l : List α} (h : riseL m ok lt l = true) {s : α} (hs : s ∈ l) : ok s = true := by
  obtain ⟨k, hk⟩ := List.getElem?_of_mem hs
  exact riseL_ok h hk
theorem riseL_step {α : Type} {m : Nat} {ok : α → Bool} {lt : α → α → Bool} {l : List α} (h : riseL m ok lt l = true) {k : Nat} {x y : α} (hx : l[k]? = some x) (hy : l[k + 1]? = some y) : lt x y = true := by
  unfold riseL at h
  simp only [Bool.and_eq_true, decide_eq_true_eq] at h
  have := riseTo_at h.2 (List.getElem?_eq_some_iff.1 hy).1
  unfold riseAt at this
  rw [hy] at this
  simp only [Nat.add_sub_cancel, hx, Bool.and_eq_true, Bool.or_eq_true, decide_eq_true_eq] at this
  rcases this.2 with h0 | h0
  · omega
  · exact h0
theorem riseL_lt {α : Type} {m : Nat} {ok : α → Bool} {lt : α → α → Bool} (tr : ∀ a b c, lt a b = true → lt b c = true → lt a c = true) {l : List α} (h : riseL m ok lt l = true) {i j : Nat} {x y : α} (hij : i < j) (hx : l[i]? = some x) (hy : l[j]? = some y) : lt x y = true := by
  obtain ⟨d, rfl⟩ : ∃ d, j = i + d + 1 := ⟨j - i - 1, by omega⟩
  clear hij
  induction d generalizing y with
  | zero => exact riseL_step h hx hy
  | succ d ih =>
    obtain ⟨z, hz, _⟩ := at_lt (l := l) (k := i + d + 1) (by have := (List.getElem?_eq_some_iff.1 hy).1; omega)
    exact tr _ _ _ (ih hz) (riseL_step (k := i + d + 1) h hz (by rw [← hy]; rfl))
/-- a loop that goes through a list of records and stops with 'no' at the first that is bad -/
theorem rise_loop {α : Type} {ok : α → Bool} {lt : α → α → Bool} {l : List α} {R : Type} {no : R} {f : Nat → Unit → (Unit → Option R) → (Unit → Option R) → Option R} {fin : Unit → Option R}
    (step : ∀ k nx s, l[k]? = some s → (ok s = false → f k () nx fin = some no) ∧ (ok s = true → (k = 0 → f k () nx fin = nx ()) ∧ (0 < k → ∀ r, l[k-1]? = some r → (lt r s = true → f k () nx fin = nx ()) ∧ (lt r s = false → f k () nx fin = some no)))) :
    cntK f l.length 0 () fin = if riseTo ok lt l l.length then fin () else some no := by
  have key : ∀ m k, k + m = l.length → riseTo ok lt l k = true → cntK f m k () fin = if riseTo ok lt l l.length then fin () else some no := by
    intro m
    induction m with
    | zero => intro k hk hu; obtain rfl : k = l.length := by omega
              rw [hu]; rfl
    | succ m ih =>
      intro k hk hu
      have hlt : k < l.length := by omega
      obtain ⟨s, hs, _⟩ := at_lt hlt
      obtain ⟨h1, h2⟩ := step k (fun s' => cntK f m (k + 1) s' fin) s hs
      show f k () _ fin = _
      cases hok : ok s with
      | false => rw [h1 hok, riseTo_not (riseAt_bad hs hok) hlt]; rfl
      | true =>
        obtain ⟨h3, h4⟩ := h2 hok
        by_cases hk0 : k = 0
        · rw [h3 hk0]
          subst hk0
          exact ih 1 (by omega) (by rw [riseTo_succ, hu, riseAt_first hs hok]; rfl)
        · obtain ⟨r, hr, _⟩ := at_lt (l := l) (k := k - 1) (by omega)
          obtain ⟨h5, h6⟩ := h4 (by omega) r hr
          cases hl : lt r s with
          | true =>
            rw [h5 hl]
            exact ih (k + 1) (by omega) (by rw [riseTo_succ, hu, riseAt_next hs hr (by omega) hok, hl]; rfl)
          | false => rw [h6 hl, riseTo_not (by rw [riseAt_next hs hr (by omega) hok, hl]) hlt]; rfl
  exact key l.length 0 (by omega) (riseTo_zero ok lt l)
end Go.Proofs.Ytlljmgphgmklcaa.QOrd

/- Chapter 8: rates: the plain functions of the program and of the reference agree, and the laws answer true. (QRiseL) No condition but those of each theorem. -/
namespace Go.Proofs.Ytlljmgphgmklcaa.QRiseL
set_option linter.unusedVariables false
set_option linter.unusedSimpArgs false
open Go.RowKit
open Go.Proofs.Ytlljmgphgmklcaa.GoP Go.Proofs.Ytlljmgphgmklcaa.PlainStamp Go.Proofs.Ytlljmgphgmklcaa.QBase Go.Proofs.Ytlljmgphgmklcaa.QOrd Go.Proofs.Ytlljmgphgmklcaa.QLoop

/-- the same, for a loop that counts by itself and stops behind m: the list may be longer than m -/
theorem rise_lp {α R : Type} {ok : α → Bool} {lt : α → α → Bool} {l : List α} {m : Nat} {no : R} {yes : Option R} {f : Int → (Int → Option R) → (Int → Option R) → Option R} {fin : Int → Option R}
    (stop : ∀ (k : Nat) nx, (l.length ≤ k ∨ m < k) → k ≤ l.length → k ≤ m + 1 → f (k : Int) nx fin = fin (k : Int))
    (end_ : ∀ k : Int, fin k = if l.length ≤ m then yes else some no)
    (step : ∀ (k : Nat) nx s, k ≤ m → l[k]? = some s → (ok s = false → f (k : Int) nx fin = some no) ∧ (ok s = true → (k = 0 → f (k : Int) nx fin = nx ((k + 1 : Nat) : Int)) ∧ (0 < k → ∀ r, l[k-1]? = some r → ok r = true → (lt r s = true → f (k : Int) nx fin = nx ((k + 1 : Nat) : Int)) ∧ (lt r s = false → f (k : Int) nx fin = some no)))) :
    ∀ fuel k, m + 1 - k < fuel → k ≤ l.length → k ≤ m + 1 → riseTo ok lt l k = true → loopK f fuel (k : Int) fin = if riseL m ok lt l = true then yes else some no := by
  intro fuel
  induction fuel with
  | zero => intro k h; omega
  | succ n ih =>
    intro k hf hk hm hu
    show f (k : Int) (fun s' => loopK f n s' fin) fin = _
    by_cases hs : l.length ≤ k ∨ m < k
    · rw [stop k _ hs hk hm, end_]
      by_cases hl : l.length ≤ m
      · obtain rfl : k = l.length := by omega
        rw [if_pos hl, if_pos (by unfold riseL; simp [hl, hu])]
      · rw [if_neg hl, if_neg (by unfold riseL; simp [hl])]
    · have hlt : k < l.length := by omega
      obtain ⟨s, hs', _⟩ := at_lt hlt
      obtain ⟨h1, h2⟩ := step k (fun s' => loopK f n s' fin) s (by omega) hs'
      have bad : riseAt ok lt l k = false → riseL m ok lt l = false := by
        intro h; unfold riseL; rw [riseTo_not h hlt, Bool.and_false]
      cases hok : ok s with
      | false => rw [h1 hok, bad (riseAt_bad hs' hok)]; rfl
      | true =>
        obtain ⟨h3, h4⟩ := h2 hok
        by_cases hk0 : k = 0
        · rw [h3 hk0]
          subst hk0
          exact ih 1 (by omega) (by omega) (by omega) (by rw [riseTo_succ, hu, riseAt_first hs' hok]; rfl)
        · obtain ⟨r, hr, _⟩ := at_lt (l := l) (k := k - 1) (by omega)
          have hokr : ok r = true := by
            have := riseTo_at hu (k := k - 1) (by omega)
            unfold riseAt at this; rw [hr] at this
            simp only [Bool.and_eq_true] at this; exact this.1
          obtain ⟨h5, h6⟩ := h4 (by omega) r hr hokr
          cases hl : lt r s with
          | true =>
            rw [h5 hl]
            exact ih (k + 1) (by omega) (by omega) (by omega) (by rw [riseTo_succ, hu, riseAt_next hs' hr (by omega) hok, hl]; rfl)
          | false => rw [h6 hl, bad (by rw [riseAt_next hs' hr (by omega) hok, hl])]; rfl
/-- what each step gives holds between any two -/
theorem riseL_rel {α : Type} {m : Nat} {ok : α → Bool} {lt : α → α → Bool} (rel : α → α → Prop) (st : ∀ a b, ok a = true → ok b = true → lt a b = true → rel a b) (tr : ∀ a b c, rel a b → rel b c → rel a c) {l : List α} (h : riseL m ok lt l = true) {i j : Nat} {x y : α} (hij : i < j) (hx : l[i]? = some x) (hy : l[j]? = some y) : rel x y := by
  obtain ⟨d, rfl⟩ : ∃ d, j = i + d + 1 := ⟨j - i - 1, by omega⟩
  clear hij
  induction d generalizing y with
  | zero => exact st _ _ (riseL_ok h hx) (riseL_ok h hy) (riseL_step h hx hy)
  | succ d ih =>
    obtain ⟨z, hz, _⟩ := at_lt (l := l) (k := i + d + 1) (by have := (List.getElem?_eq_some_iff.1 hy).1; omega)
    exact tr _ _ _ (ih hz) (st _ _ (riseL_ok h hz) (riseL_ok h hy) (riseL_step (k := i + d + 1) h hz (by rw [← hy]; rfl)))
end Go.Proofs.Ytlljmgphgmklcaa.QRiseL

/- Chapter 8: rates: the plain functions of the program and of the reference agree, and the laws answer true. (Q8Rate) No condition but those of each theorem. -/
namespace Go.Proofs.Ytlljmgphgmklcaa.Q8Rate
set_option linter.unusedVariables false
set_option linter.unusedSimpArgs false
open Go.RowKit
open Go.Proofs.Ytlljmgphgmklcaa.GoP Go.Proofs.Ytlljmgphgmklcaa.PlainStamp Go.Proofs.Ytlljmgphgmklcaa.QBase Go.Proofs.Ytlljmgphgmklcaa.QLoop Go.Proofs.Ytlljmgphgmklcaa.PRate Go.Proofs.Ytlljmgphgmklcaa.PrateClass

theorem isZone_eq (n : Int) : GiIsZone.P n = some (inB n 0 9) := by simp only [GiIsZone.P, within_eq, Option.bind_some]
theorem isWeight_eq (n : Int) : GiIsWeight.P n = some (inB n 1 2000) := by simp only [GiIsWeight.P, within_eq, Option.bind_some]
theorem isRateCents_eq (n : Int) : GiIsRateCents.P n = some (inB n 1 9999) := by simp only [GiIsRateCents.P, within_eq, Option.bind_some]
theorem isDay_eq (n : Int) : GiIsDay.P n = some (inB n 0 4000) := by simp only [GiIsDay.P, within_eq, Option.bind_some]
theorem l8Zone_eq (n : Int) : GsL8Zone.P n = some (inB n 0 9) := by simp only [GsL8Zone.P, l1In_eq, Option.bind_some]
theorem l8Grams_eq (n : Int) : GsL8Grams.P n = some (inB n 1 2000) := by simp only [GsL8Grams.P, l1In_eq, Option.bind_some]
theorem l8Cents_eq (n : Int) : GsL8Cents.P n = some (inB n 1 9999) := by simp only [GsL8Cents.P, l1In_eq, Option.bind_some]
theorem l2Day_eq (n : Int) : GsL2Day.P n = some (inB n 0 4000) := by simp only [GsL2Day.P, l1In_eq, Option.bind_some]
def okR (x : Rate) : Bool := inB x.zone 0 9 && inB x.grams 1 2000 && inB x.cents 1 9999 && inB x.from_ 0 4000 && inB x.until_ 0 4000 && decide (x.from_ ≤ x.until_)
theorem isRate_eq (x : Rate) : GiIsRate.P x = some (okR x) := by
  obtain ⟨a, b, c, d, e⟩ := x
  simp only [GiIsRate.P, unRate, isZone_eq, isWeight_eq, isRateCents_eq, isDay_eq, Option.bind_some, letK, joinK, appK, iteK_if, okR]
  cases inB a 0 9 <;> cases inB b 1 2000 <;> cases inB e 1 9999 <;> cases inB c 0 4000 <;> cases inB d 0 4000 <;> simp
theorem l8One_eq (x : Rate) : GsL8One.P x = some (okR x) := by
  obtain ⟨a, b, c, d, e⟩ := x
  have hx : (inB d 0 4000 && inB c 0 d) = (inB c 0 4000 && inB d 0 4000 && decide (c ≤ d)) := by unfold inB; rw [Bool.eq_iff_iff]; simp; omega
  have hy : okR ⟨a, b, c, d, e⟩ = (inB a 0 9 && inB b 1 2000 && (inB d 0 4000 && inB c 0 d) && inB e 1 9999) := by
    rw [hx]; unfold okR
    cases inB a 0 9 <;> cases inB b 1 2000 <;> cases inB e 1 9999 <;> simp
  rw [hy]
  simp only [GsL8One.P, unRate, l8Zone_eq, l8Grams_eq, l8Cents_eq, l2Day_eq, l1In_eq, Option.bind_some, letK, joinK, appK, iteK_if]
  cases inB a 0 9 <;> cases inB b 1 2000 <;> cases inB d 0 4000 <;> cases inB c 0 d <;> simp
theorem okR_of {x : Rate} (h : okR x = true) : (0 ≤ x.zone ∧ x.zone ≤ 9) ∧ (1 ≤ x.grams ∧ x.grams ≤ 2000) ∧ (1 ≤ x.cents ∧ x.cents ≤ 9999) ∧ (0 ≤ x.from_ ∧ x.from_ ≤ x.until_ ∧ x.until_ ≤ 4000) := by
  unfold okR at h
  simp only [Bool.and_eq_true, decide_eq_true_eq] at h
  have h1 := inB_of h.1.1.1.1.1
  have h2 := inB_of h.1.1.1.1.2
  have h3 := inB_of h.1.1.1.2
  have h4 := inB_of h.1.1.2
  have h5 := inB_of h.1.2
  omega
def linkR (a b : Rate) : Bool := if a.zone = b.zone ∧ a.grams = b.grams then decide (a.until_ < b.from_) else decide (a.zone < b.zone ∨ a.zone = b.zone ∧ a.grams < b.grams)
theorem compare_eq (x y : Int) : GxCmpCompareInt.P x y = some (if x < y then -1 else if y < x then 1 else 0) := by
  simp only [GxCmpCompareInt.P, GxCmpIsNaNInt.P, Option.bind_some, letK, iteK_if]
  by_cases h : x < y <;> by_cases h2 : y < x <;> simp [h, h2]
theorem or_eq (a b : Int) : GxCmpOrInt.P [a, b] = some (if a = 0 then b else a) := by
  have h0 : idx [a, b] ((0 : Nat) : Int) = some a := rfl
  have h1 : idx [a, b] ((1 : Nat) : Int) = some b := rfl
  show cntK (GxCmpOrInt.l0 [a, b]) 2 0 () GxCmpOrInt.e0 = _
  simp only [cntK, GxCmpOrInt.l0, h0, h1, Option.bind_some, letK, iteK_if, appK, GxCmpOrInt.e0, Nat.zero_add]
  by_cases ha : a = 0 <;> by_cases hb : b = 0 <;> simp [ha, hb]
theorem canFollow_eq (b a : Rate) : GiCanFollow.P b a = some (linkR a b) := by
  obtain ⟨z, g, f, u, c⟩ := b
  obtain ⟨z2, g2, f2, u2, c2⟩ := a
  simp only [GiCanFollow.P, unRate, unrateClass, GiClassOf.P, Option.bind_some, letK, iteK_if, compare_eq, or_eq, linkR]
  by_cases h1 : z = z2
  · subst h1
    by_cases h2 : g = g2
    · subst h2; simp
    · have h3 : ¬ g2 = g := fun h => h2 h.symm
      by_cases h4 : g2 < g
      · simp [h2, h3, h4]
      · by_cases h5 : g < g2
        · simp [h2, h3, h4, h5]
        · omega
  · have h3 : ¬ z2 = z := fun h => h1 h.symm
    by_cases h4 : z2 < z
    · simp [h1, h3, h4]
    · by_cases h5 : z < z2
      · simp [h1, h3, h4, h5]
      · omega
def codeR (x : Rate) : Int := (10000 * x.zone + x.grams) * 10000 + x.from_
theorem l8Code_eq {x : Rate} (h : okR x = true) : GsL8Code.P x = some (codeR x) := by
  have h1 := okR_of h
  obtain ⟨a, b, c, d, e⟩ := x
  dsimp only at h1
  simp only [GsL8Code.P, unRate, letK, codeR]
  rw [wrap_in (x := 10000 * a) (by omega) (by omega), wrap_in (x := 10000 * a + b) (by omega) (by omega), wrap_in (x := (10000 * a + b) * 10000) (by omega) (by omega), wrap_in (by omega) (by omega)]
theorem link_code {a b : Rate} (ha : okR a = true) (hb : okR b = true) : linkR a b = (decide (codeR a < codeR b) && !(decide (a.zone = b.zone) && decide (a.grams = b.grams) && decide (b.from_ ≤ a.until_))) := by
  have h1 := okR_of ha
  have h2 := okR_of hb
  unfold linkR codeR
  rw [Bool.eq_iff_iff]
  split
  · simp; omega
  · simp; omega
end Go.Proofs.Ytlljmgphgmklcaa.Q8Rate

/- Chapter 8: rates: the plain functions of the program and of the reference agree, and the laws answer true. (Q8List) No condition but those of each theorem. -/
namespace Go.Proofs.Ytlljmgphgmklcaa.Q8List
set_option linter.unusedVariables false
set_option linter.unusedSimpArgs false
open Go.RowKit
open Go.Proofs.Ytlljmgphgmklcaa.GoP Go.Proofs.Ytlljmgphgmklcaa.PlainStamp Go.Proofs.Ytlljmgphgmklcaa.QBase Go.Proofs.Ytlljmgphgmklcaa.QRiseL Go.Proofs.Ytlljmgphgmklcaa.QOrd Go.Proofs.Ytlljmgphgmklcaa.Q8Rate Go.Proofs.Ytlljmgphgmklcaa.QLoop Go.Proofs.Ytlljmgphgmklcaa.PRate

def okRs (l : List Rate) : Bool := riseL 16 okR linkR l
theorem areRates_eq (l : List Rate) (hl : l.length ≤ 9223372036854775807) : GiAreRates.P l = some (okRs l) := by
  simp only [GiAreRates.P, letK, iteK_if]
  by_cases h12 : l.length ≤ 16
  · rw [if_neg (by simp; omega), rise_loop (ok := okR) (lt := linkR) (no := false)]
    · unfold okRs riseL; cases riseTo okR linkR l l.length <;> simp [h12, GiAreRates.e0]
    · intro k nx s hs
      have hi : idx l (k : Int) = some s := by rw [idx_nat, hs]
      have hk : k < l.length := (List.getElem?_eq_some_iff.1 hs).1
      simp only [GiAreRates.l0, hi, Option.bind_some, unRate, isRate_eq, letK, joinK, appK, iteK_if]
      refine ⟨fun h => by simp [h], fun h => ⟨fun h0 => by subst h0; simp [h], fun h0 r hr => ?_⟩⟩
      rw [idx_pred h0 (by omega) hr]
      have hk0 : (0 : Int) < (k : Int) := by omega
      have hk1 : ¬ k = 0 := by omega
      exact ⟨fun hlt => by simp [h, hk0, hk1, canFollow_eq, hlt], fun hge => by simp [h, hk0, hk1, canFollow_eq, hge]⟩
  · rw [if_pos (by simp; omega)]; unfold okRs riseL; simp [h12]
theorem l8Good_eq {fuel : Nat} (l : List Rate) (hl : l.length ≤ 9223372036854775807) (hf : 17 < fuel) : GsL8Good.P fuel l = some (okRs l) := by
  simp only [GsL8Good.P]
  have key := rise_lp (ok := okR) (lt := linkR) (l := l) (m := 16) (no := false) (yes := some true) (f := GsL8Good.l0 l) (fin := GsL8Good.e0 l) ?_ ?_ ?_ fuel 0 (by omega) (by omega) (by omega) rfl
  · rw [show ((0 : Nat) : Int) = 0 from rfl] at key
    rw [key]; unfold okRs; cases riseL 16 okR linkR l <;> rfl
  · intro k nx hs h1 h2
    simp only [GsL8Good.l0, letK, joinK, appK, iteK_if]
    by_cases hk : l.length ≤ k
    · have : ¬ ((k : Int) < (l.length : Int)) := by omega
      simp [this]
    · have h3 : ((k : Int) < (l.length : Int)) := by omega
      have h4 : ¬ ((k : Int) ≤ 16) := by omega
      simp [h3, h4]
  · intro k
    simp only [GsL8Good.e0, letK]
    by_cases h : l.length ≤ 16
    · rw [if_pos h]; simp; omega
    · rw [if_neg h]; simp; omega
  · intro k nx s hk16 hs
    have hi : idx l (k : Int) = some s := by rw [idx_nat, hs]
    have hk : k < l.length := (List.getElem?_eq_some_iff.1 hs).1
    have h1 : ((k : Int) < (l.length : Int)) := by omega
    have h2 : (k : Int) ≤ 16 := by omega
    have hw : IntKind.i64.wrap ((k : Int) + 1) = ((k + 1 : Nat) : Int) := by rw [wrap_in (by omega) (by omega)]; omega
    simp only [GsL8Good.l0, letK, joinK, appK, iteK_if, decide_eq_true h1, decide_eq_true h2, if_true, hi, Option.bind_some, unRate, l8One_eq, hw]
    refine ⟨fun h => by simp [h], fun h => ⟨fun h0 => by subst h0; simp [h], fun h0 r hr hokr => ?_⟩⟩
    rw [idx_pred h0 (by omega) hr]
    have hk0 : (0 : Int) < (k : Int) := by omega
    have hk1 : ¬ k = 0 := by omega
    simp only [Option.bind_some, l8Code_eq h, l8Code_eq hokr, link_code hokr h]
    have he : ∀ x : Rate, Rate.mk x.zone x.grams x.from_ x.until_ x.cents = x := fun x => rfl
    simp only [h, decide_eq_true hk0, Bool.not_true, Bool.false_eq_true, if_false, if_true]
    constructor
    · intro hlt
      simp only [Bool.and_eq_true, decide_eq_true_eq, Bool.not_eq_true'] at hlt
      obtain ⟨c1, c2⟩ := hlt
      have : ¬ (codeR s ≤ codeR r) := by omega
      by_cases e1 : r.zone = s.zone
      · by_cases e2 : r.grams = s.grams
        · have e3 : ¬ (s.from_ ≤ r.until_) := by simpa [e1, e2] using c2
          simp [this, e1, e2, e3]
        · simp [this, e1, e2]
      · simp [this, e1]
    · intro hge
      by_cases c1 : codeR r < codeR s
      · have : ¬ (codeR s ≤ codeR r) := by omega
        simp only [decide_eq_true c1, Bool.true_and, Bool.not_eq_false', Bool.and_eq_true, decide_eq_true_eq] at hge
        simp [this, hge.1.1, hge.1.2, hge.2]
      · have : codeR s ≤ codeR r := by omega
        simp [this]
theorem rs_mem {l : List Rate} (h : okRs l = true) {x : Rate} (hx : x ∈ l) : okR x = true := riseL_mem h hx
end Go.Proofs.Ytlljmgphgmklcaa.Q8List

/- Chapter 8: rates: the plain functions of the program and of the reference agree, and the laws answer true. (Q8For) No condition but those of each theorem. -/
namespace Go.Proofs.Ytlljmgphgmklcaa.Q8For
set_option linter.unusedVariables false
set_option linter.unusedSimpArgs false
open Go.RowKit
open Go.Proofs.Ytlljmgphgmklcaa.GoP Go.Proofs.Ytlljmgphgmklcaa.PlainStamp Go.Proofs.Ytlljmgphgmklcaa.QBase Go.Proofs.Ytlljmgphgmklcaa.QFold Go.Proofs.Ytlljmgphgmklcaa.QRiseL Go.Proofs.Ytlljmgphgmklcaa.QOrd Go.Proofs.Ytlljmgphgmklcaa.Q8List Go.Proofs.Ytlljmgphgmklcaa.Q8Rate Go.Proofs.Ytlljmgphgmklcaa.QLoop Go.Proofs.Ytlljmgphgmklcaa.PRate

def onB (day zone grams : Int) (r : Rate) : Bool := decide (r.zone = zone) && decide (grams ≤ r.grams) && inB day r.from_ r.until_
def rateV (l : List Rate) (day zone grams : Int) : Int := match l.find? (onB day zone grams) with | some r => r.cents | none => 0
theorem rateOn_eq (l : List Rate) (day zone grams : Int) : GiRateOn.P l day zone grams = some (rateV l day zone grams) := by
  simp only [GiRateOn.P]
  rw [find_val (p := onB day zone grams) (yes := fun x => some x.cents)]
  · unfold rateV; cases l.find? (onB day zone grams) <;> rfl
  · intro k nx x hx
    have hi : idx l (k : Int) = some x := by rw [idx_nat, hx]
    simp only [GiRateOn.l0, hi, Option.bind_some, unRate, within_eq, letK, joinK, appK, iteK_if, onB]
    by_cases h1 : x.zone = zone <;> by_cases h2 : grams ≤ x.grams <;> simp [h1, h2]
theorem l8For_eq (l : List Rate) (day zone grams : Int) : GsL8For.P l day zone grams = some (rateV l day zone grams) := by
  simp only [GsL8For.P]
  rw [find_val (p := onB day zone grams) (yes := fun x => some x.cents)]
  · unfold rateV; cases l.find? (onB day zone grams) <;> rfl
  · intro k nx x hx
    have hi : idx l (k : Int) = some x := by rw [idx_nat, hx]
    simp only [GsL8For.l0, hi, Option.bind_some, unRate, l1In_eq, letK, joinK, appK, iteK_if, onB]
    by_cases h1 : x.zone = zone <;> by_cases h2 : grams ≤ x.grams <;> simp [h1, h2]
theorem rateV_nonneg {l : List Rate} (h : okRs l = true) (day zone grams : Int) : 0 ≤ rateV l day zone grams := by
  unfold rateV
  cases hf : l.find? (onB day zone grams) with
  | none => exact Int.le_refl _
  | some r => have := okR_of (rs_mem h (List.mem_of_find?_eq_some hf)); dsimp only; omega
theorem canSend_eq (l : List Rate) (zone grams : Int) (hl : l.length ≤ 9223372036854775807) : GiCanSend.P l zone grams = some (okRs l && inB zone 0 9 && inB grams 1 2000) := by
  simp only [GiCanSend.P, areRates_eq l hl, isZone_eq, isWeight_eq, Option.bind_some, joinK, appK, iteK_if]
  cases okRs l <;> cases inB zone 0 9 <;> simp
end Go.Proofs.Ytlljmgphgmklcaa.Q8For

/- The named law of raises: what it draws, a raised rate on its day and the day before, and the law answers true. (Q8Exact) No condition but those of each theorem. -/
namespace Go.Proofs.Ytlljmgphgmklcaa.Q8Exact
set_option linter.unusedVariables false
set_option linter.unusedSimpArgs false
open Go.RowKit
open Go.Proofs.Ytlljmgphgmklcaa.GoP Go.Proofs.Ytlljmgphgmklcaa.PlainStamp Go.Proofs.Ytlljmgphgmklcaa.QBase Go.Proofs.Ytlljmgphgmklcaa.QFold Go.Proofs.Ytlljmgphgmklcaa.QRiseL Go.Proofs.Ytlljmgphgmklcaa.QOrd Go.Proofs.Ytlljmgphgmklcaa.Q8For Go.Proofs.Ytlljmgphgmklcaa.Q8List Go.Proofs.Ytlljmgphgmklcaa.Q8Rate Go.Proofs.Ytlljmgphgmklcaa.QLoop Go.Proofs.Ytlljmgphgmklcaa.PRate

def ordR (a b : Rate) : Prop := a.zone < b.zone ∨ a.zone = b.zone ∧ (a.grams < b.grams ∨ a.grams = b.grams ∧ a.until_ < b.from_)
theorem rates_pw {l : List Rate} (h : okRs l = true) : l.Pairwise ordR := by
  rw [List.pairwise_iff_getElem]
  intro i j hi hj hij
  have := riseL_rel (fun a b : Rate => okR a = true ∧ okR b = true ∧ ordR a b) (fun a b ha hb hl => ⟨ha, hb, by
    unfold linkR at hl
    unfold ordR
    split at hl
    · simp only [decide_eq_true_eq] at hl; omega
    · simp only [decide_eq_true_eq] at hl; omega⟩) (fun a b c h1 h2 => ⟨h1.1, h2.2.1, by
    have hb := okR_of h1.2.1
    have h3 := h1.2.2
    have h4 := h2.2.2
    unfold ordR at h3 h4 ⊢
    omega⟩) h hij (List.getElem?_eq_getElem hi) (List.getElem?_eq_getElem hj)
  exact this.2.2
/-- the rate of a letter of just a Rate's weight is this Rate's -/
theorem exact_rate {l : List Rate} (h : okRs l = true) {r : Rate} (hr : r ∈ l) {d : Int} (hd : r.from_ ≤ d ∧ d ≤ r.until_) : rateV l d r.zone r.grams = r.cents := by
  have hp : onB d r.zone r.grams r = true := by unfold onB inB; simp [hd]
  unfold rateV
  cases hf : l.find? (onB d r.zone r.grams) with
  | none => rw [List.find?_eq_none] at hf; exact absurd hp (hf r hr)
  | some x =>
    dsimp only
    rw [List.find?_eq_some_iff_append] at hf
    obtain ⟨hx, ps, bs, e, hno⟩ := hf
    have pw := rates_pw h
    rw [e] at hr pw
    rw [List.pairwise_append, List.pairwise_cons] at pw
    rcases List.mem_append.1 hr with hr | hr
    · have := hno r hr
      rw [hp] at this; exact absurd this (by simp)
    · rcases List.mem_cons.1 hr with rfl | hr
      · rfl
      · have h1 := pw.2.1.1 r hr
        unfold onB at hx
        simp only [Bool.and_eq_true, decide_eq_true_eq] at hx
        have h2 := inB_of hx.2
        unfold ordR at h1
        omega
end Go.Proofs.Ytlljmgphgmklcaa.Q8Exact

/- Loops that count, that search, and that gather behind what is there already: the plain loops' answers. (QCount) No condition but those of each theorem. -/
namespace Go.Proofs.Ytlljmgphgmklcaa.QCount
set_option linter.unusedVariables false
set_option linter.unusedSimpArgs false
open Go.RowKit
open Go.Proofs.Ytlljmgphgmklcaa.GoP Go.Proofs.Ytlljmgphgmklcaa.PlainStamp Go.Proofs.Ytlljmgphgmklcaa.QBase Go.Proofs.Ytlljmgphgmklcaa.QLoop

theorem count_list {α R : Type} {l : List α} {p : α → Bool} {f : Nat → Int → (Int → Option R) → (Int → Option R) → Option R} {fin : Int → Option R}
    (step : ∀ k nx x (s : Nat), l[k]? = some x → s ≤ k → f k (s : Int) nx fin = nx ((if p x = true then s + 1 else s : Nat) : Int)) : cntK f l.length 0 0 fin = fin ((l.filter p).length : Int) := by
  have key : ∀ m k, k + m = l.length → cntK f m k (((l.take k).filter p).length : Int) fin = fin ((l.filter p).length : Int) := by
    intro m
    induction m with
    | zero => intro k hk; obtain rfl : k = l.length := by omega
              rw [List.take_of_length_le (Nat.le_refl _)]; rfl
    | succ m ih =>
      intro k hk
      obtain ⟨x, hx, _⟩ := at_lt (l := l) (k := k) (by omega)
      show f k _ _ fin = _
      have hle : ((l.take k).filter p).length ≤ k := by
        have := List.length_filter_le p (l.take k)
        rw [List.length_take] at this
        omega
      rw [step k _ x _ hx hle, ← ih (k + 1) (by omega), take_next hx, List.filter_append, List.length_append]
      cases hp : p x <;> simp [List.filter, hp]
  exact key l.length 0 (by omega)
theorem count_up {R : Type} {n : Nat} {p : Nat → Bool} {f : Nat → Int → (Int → Option R) → (Int → Option R) → Option R} {fin : Int → Option R}
    (step : ∀ k nx (s : Nat), k < n → s ≤ k → f k (s : Int) nx fin = nx ((if p k = true then s + 1 else s : Nat) : Int)) : cntK f n 0 0 fin = fin (((List.range n).filter p).length : Int) := by
  have h := count_list (l := List.range n) (p := p) (f := f) (fin := fin) (fun k nx x s hx hs => by
    obtain ⟨hk, rfl⟩ := List.getElem?_eq_some_iff.1 hx
    rw [List.length_range] at hk
    rw [List.getElem_range]
    exact step k nx s hk hs)
  rw [List.length_range] at h
  exact h
theorem filter_zero {α : Type} (l : List α) (p : α → Bool) : (((l.filter p).length : Int) == 0) = !(l.any p) := by
  rw [Bool.eq_iff_iff]
  simp only [beq_iff_eq, Bool.not_eq_true', List.any_eq_false]
  constructor
  · intro h x hx hp
    have : x ∈ l.filter p := List.mem_filter.2 ⟨hx, hp⟩
    have := List.length_pos_of_mem this
    omega
  · intro h
    have : l.filter p = [] := List.filter_eq_nil_iff.2 h
    rw [this]; rfl
/-- the first place at which the test holds -/
def firstI {α : Type} (p : α → Bool) (l : List α) : Int := match l.findIdx? p with | some i => (i : Int) | none => -1
theorem find_loop {α R : Type} {l : List α} {p : α → Bool} {f : Nat → Unit → (Unit → Option R) → (Unit → Option R) → Option R} {fin : Unit → Option R} {yes : Nat → Option R}
    (step : ∀ k nx x, l[k]? = some x → f k () nx fin = if p x = true then yes k else nx ()) : cntK f l.length 0 () fin = match l.findIdx? p with | some i => yes i | none => fin () := by
  have key : ∀ m k, k + m = l.length → (∀ i x, i < k → l[i]? = some x → p x = false) → cntK f m k () fin = match l.findIdx? p with | some i => yes i | none => fin () := by
    intro m
    induction m with
    | zero =>
      intro k hk hu; obtain rfl : k = l.length := by omega
      have : l.findIdx? p = none := by
        rw [List.findIdx?_eq_none_iff]
        intro x hx
        obtain ⟨i, hi⟩ := List.getElem?_of_mem hx
        exact hu i x (List.getElem?_eq_some_iff.1 hi).1 hi
      rw [this]; rfl
    | succ m ih =>
      intro k hk hu
      obtain ⟨x, hx, _⟩ := at_lt (l := l) (k := k) (by omega)
      show f k () _ fin = _
      rw [step k _ x hx]
      cases hp : p x with
      | true =>
        have : l.findIdx? p = some k := by
          rw [List.findIdx?_eq_some_iff_getElem]
          obtain ⟨hlt, e⟩ := List.getElem?_eq_some_iff.1 hx
          refine ⟨hlt, by rw [e]; exact hp, fun j hj => ?_⟩
          rw [hu j l[j] hj (List.getElem?_eq_getElem (by omega))]; simp
        rw [this, if_pos rfl]
      | false =>
        rw [if_neg (by simp)]
        refine ih (k + 1) (by omega) (fun i y hi hy => ?_)
        by_cases he : i = k
        · subst he; rw [hx] at hy; obtain rfl := Option.some.inj hy; exact hp
        · exact hu i y (by omega) hy
  exact key l.length 0 (by omega) (fun i x hi _ => by omega)
theorem any_find {α : Type} (p : α → Bool) (l : List α) : decide (0 ≤ firstI p l) = l.any p := by
  unfold firstI
  cases h : l.findIdx? p with
  | none =>
    rw [List.findIdx?_eq_none_iff] at h
    have : l.any p = false := by rw [List.any_eq_false]; intro x hx; rw [h x hx]; simp
    rw [this]; rfl
  | some i =>
    rw [List.findIdx?_eq_some_iff_getElem] at h
    obtain ⟨hi, hp, _⟩ := h
    have : l.any p = true := List.any_eq_true.2 ⟨l[i], List.getElem_mem hi, hp⟩
    rw [this]; simp
theorem gatherA {α β R : Type} {l : List α} {p : α → Bool} {g : α → β} {acc : List β} {f : Nat → List β → (List β → Option R) → (List β → Option R) → Option R} {fin : List β → Option R} (hl : acc.length + l.length ≤ 1099511627776)
    (step : ∀ k nx x s, l[k]? = some x → s.length ≤ 1099511627776 → f k s nx fin = nx (if p x = true then s ++ [g x] else s)) : cntK f l.length 0 acc fin = fin (acc ++ (l.filter p).map g) := by
  have key : ∀ m k, k + m = l.length → cntK f m k (acc ++ ((l.take k).filter p).map g) fin = fin (acc ++ (l.filter p).map g) := by
    intro m
    induction m with
    | zero => intro k hk; obtain rfl : k = l.length := by omega
              rw [List.take_of_length_le (Nat.le_refl _)]; rfl
    | succ m ih =>
      intro k hk
      obtain ⟨x, hx, _⟩ := at_lt (l := l) (k := k) (by omega)
      show f k _ _ fin = _
      have hle : (acc ++ ((l.take k).filter p).map g).length ≤ 1099511627776 := by
        rw [List.length_append, List.length_map]
        have := List.length_filter_le p (l.take k)
        rw [List.length_take] at this
        omega
      rw [step k _ x _ hx hle, ← ih (k + 1) (by omega), take_next hx, List.filter_append, List.map_append]
      cases hp : p x <;> simp [List.filter, hp]
  have h0 := key l.length 0 (by omega)
  simpa using h0
/-- a loop with fuel over what stands from k on -/
theorem gatherL {α β R : Type} {l : List α} {p : α → Bool} {g : α → β} {f : List β × Int → (List β × Int → Option R) → (List β × Int → Option R) → Option R} {fin : List β × Int → Option R}
    (step : ∀ (k : Nat) nx x s, l[k]? = some x → s.length ≤ 1099511627776 → f (s, (k : Int)) nx fin = nx (if p x = true then s ++ [g x] else s, ((k + 1 : Nat) : Int)))
    (stop : ∀ s nx, f (s, (l.length : Int)) nx fin = fin (s, (l.length : Int))) : ∀ (fuel k : Nat) (acc : List β), k ≤ l.length → l.length - k < fuel → acc.length + l.length ≤ 1099511627776 + k → loopK f fuel (acc, (k : Int)) fin = fin (acc ++ ((l.drop k).filter p).map g, (l.length : Int)) := by
  intro fuel
  induction fuel with
  | zero => intro k acc hk hf; omega
  | succ m ih =>
    intro k acc hk hf ha
    show f (acc, (k : Int)) _ fin = _
    by_cases he : k = l.length
    · subst he; rw [stop, List.drop_of_length_le (Nat.le_refl _)]; simp
    · obtain ⟨x, hx, _⟩ := at_lt (l := l) (k := k) (by omega)
      rw [step k _ x acc hx (by omega), ih (k + 1) _ (by omega) (by omega) (by
        split
        · rw [List.length_append, List.length_singleton]; omega
        · omega)]
      obtain ⟨hlt, e⟩ := List.getElem?_eq_some_iff.1 hx
      rw [List.drop_eq_getElem_cons hlt, e]
      cases hp : p x <;> simp [List.filter, hp]
end Go.Proofs.Ytlljmgphgmklcaa.QCount

/- Chapter 8: a raised rate: the plain functions of the program and of the reference agree, and the law answers true. (Q8Concat) No condition but those of each theorem. -/
namespace Go.Proofs.Ytlljmgphgmklcaa.Q8Concat
set_option linter.unusedVariables false
set_option linter.unusedSimpArgs false
open Go.RowKit
open Go.Proofs.Ytlljmgphgmklcaa.GoP Go.Proofs.Ytlljmgphgmklcaa.PlainStamp Go.Proofs.Ytlljmgphgmklcaa.QBase Go.Proofs.Ytlljmgphgmklcaa.QLoop Go.Proofs.Ytlljmgphgmklcaa.PRate

theorem concat_eq (L : List (List Rate)) (hL : L.length ≤ 10) (hr : ∀ x ∈ L, x.length ≤ 1000) : GxSlicesConcatLoopExampleG01062ImplRateLoopExampleG01062ImplRate.P L = some L.flatten := by
  simp only [GxSlicesConcatLoopExampleG01062ImplRateLoopExampleG01062ImplRate.P]
  refine cnt_is _ (fun k (s : Int) => 0 ≤ s ∧ s ≤ 1000 * (k : Int)) ?_ ?_ 0 (by simp)
  · intro k s nx hk ⟨h0, h1⟩ hn
    obtain ⟨x, hx, hi⟩ := at_lt (l := L) (k := k) hk
    have hxl := hr x (List.mem_of_getElem? hx)
    simp only [GxSlicesConcatLoopExampleG01062ImplRateLoopExampleG01062ImplRate.l0, letK, hi, Option.bind_some, iteK_if, appK]
    rw [wrap_in (by omega) (by omega), if_neg (by simp; omega)]
    exact hn _ ⟨by omega, by omega⟩
  · intro s ⟨h0, h1⟩
    have hg : GxSlicesGrowLoopExampleG01062ImplRateLoopExampleG01062ImplRate.P [] s = some [] := by
      unfold GxSlicesGrowLoopExampleG01062ImplRateLoopExampleG01062ImplRate.P
      rw [if_pos ⟨rfl, h0, by omega⟩]
    simp only [GxSlicesConcatLoopExampleG01062ImplRateLoopExampleG01062ImplRate.e0, letK, hg, Option.bind_some]
    refine cnt_is _ (fun k (s : List Rate) => s = (L.take k).flatten ∧ s.length ≤ 1000 * k) ?_ ?_ [] (by simp)
    · intro k s nx hk ⟨g0, g1⟩ hn
      obtain ⟨x, hx, hi⟩ := at_lt (l := L) (k := k) hk
      have hxl := hr x (List.mem_of_getElem? hx)
      simp only [GxSlicesConcatLoopExampleG01062ImplRateLoopExampleG01062ImplRate.l1, letK, hi, Option.bind_some, appK]
      rw [guardK_pos (by omega)]
      refine hn _ ⟨?_, by rw [List.length_append]; omega⟩
      rw [take_next hx, List.flatten_append, g0]; simp
    · intro s ⟨g0, _⟩
      rw [List.take_of_length_le (Nat.le_refl _)] at g0
      simp only [GxSlicesConcatLoopExampleG01062ImplRateLoopExampleG01062ImplRate.e1, letK]
      rw [g0]
end Go.Proofs.Ytlljmgphgmklcaa.Q8Concat

/- Chapter 8: a raised rate: the plain functions of the program and of the reference agree, and the law answers true. (Q8Raise) No condition but those of each theorem. -/
namespace Go.Proofs.Ytlljmgphgmklcaa.Q8Raise
set_option linter.unusedVariables false
set_option linter.unusedSimpArgs false
open Go.RowKit
open Go.Proofs.Ytlljmgphgmklcaa.GoP Go.Proofs.Ytlljmgphgmklcaa.PlainStamp Go.Proofs.Ytlljmgphgmklcaa.QBase Go.Proofs.Ytlljmgphgmklcaa.QCount Go.Proofs.Ytlljmgphgmklcaa.QFold Go.Proofs.Ytlljmgphgmklcaa.Q8Concat Go.Proofs.Ytlljmgphgmklcaa.QRiseL Go.Proofs.Ytlljmgphgmklcaa.QOrd Go.Proofs.Ytlljmgphgmklcaa.Q8For Go.Proofs.Ytlljmgphgmklcaa.Q8List Go.Proofs.Ytlljmgphgmklcaa.Q8Rate Go.Proofs.Ytlljmgphgmklcaa.QLoop Go.Proofs.Ytlljmgphgmklcaa.PRate

def hitB (zone grams day : Int) (r : Rate) : Bool := decide (r.zone = zone) && decide (r.grams = grams) && decide (r.from_ < day) && decide (day ≤ r.until_)
def raised (l : List Rate) (i : Nat) (r : Rate) (day cents : Int) : List Rate := l.take i ++ ([⟨r.zone, r.grams, r.from_, day - 1, r.cents⟩, ⟨r.zone, r.grams, day, r.until_, cents⟩] ++ l.drop (i + 1))
def raiseAt (l : List Rate) (i : Nat) (day cents : Int) : List Rate × Bool := match l[i]? with | none => ([], false) | some r => if r.cents = cents then ([], false) else if okRs (raised l i r day cents) = true then (raised l i r day cents, true) else ([], false)
def raiseRes (l : List Rate) (zone grams day cents : Int) : List Rate × Bool := if (okRs l && inB day 0 4000 && inB cents 1 9999) = true then (match l.findIdx? (hitB zone grams day) with | none => ([], false) | some i => raiseAt l i day cents) else ([], false)
theorem raised_len (l : List Rate) (i : Nat) (r : Rate) (day cents : Int) : (raised l i r day cents).length ≤ l.length + 2 := by
  unfold raised
  rw [List.length_append, List.length_append, List.length_take, List.length_drop]
  simp only [List.length_cons, List.length_nil]; omega
theorem raiseAt_len {l : List Rate} (h16 : l.length ≤ 16) (i : Nat) (day cents : Int) : (raiseAt l i day cents).1.length ≤ 20 := by
  unfold raiseAt
  cases hr : l[i]? with
  | none => simp
  | some r =>
    have := raised_len l i r day cents
    dsimp only
    by_cases h1 : r.cents = cents
    · rw [if_pos h1]; simp
    · rw [if_neg h1]
      by_cases h2 : okRs (raised l i r day cents) = true
      · rw [if_pos h2]; dsimp only; omega
      · rw [if_neg h2]; simp
theorem raise_len {l : List Rate} (zone grams day cents : Int) : (raiseRes l zone grams day cents).1.length ≤ 20 := by
  unfold raiseRes
  by_cases hc : (okRs l && inB day 0 4000 && inB cents 1 9999) = true
  · rw [if_pos hc]
    simp only [Bool.and_eq_true] at hc
    have h16 := riseL_len hc.1.1
    cases l.findIdx? (hitB zone grams day) with
    | none => simp
    | some i => exact raiseAt_len h16 i day cents
  · rw [if_neg hc]; simp
theorem find_hit (l : List Rate) (zone grams day : Int) : GxSlicesIndexFuncLoopExampleG01062ImplRateLoopExampleG01062ImplRateiRaiseRate1.P l zone grams day = some (firstI (hitB zone grams day) l) := by
  simp only [GxSlicesIndexFuncLoopExampleG01062ImplRateLoopExampleG01062ImplRateiRaiseRate1.P]
  rw [find_loop (p := hitB zone grams day) (yes := fun i => some (i : Int))]
  · unfold firstI; cases l.findIdx? (hitB zone grams day) <;> rfl
  · intro k nx x hx
    have hi : idx l (k : Int) = some x := by rw [idx_nat, hx]
    have hp : GiRaiseRate1.P (Rate.mk x.zone x.grams x.from_ x.until_ x.cents) zone grams day = some (hitB zone grams day x) := by
      simp only [GiRaiseRate1.P, unRate, unrateClass, GiClassOf.P, Option.bind_some, letK, joinK, appK, iteK_if, hitB]
      by_cases h1 : x.zone = zone <;> by_cases h2 : x.grams = grams <;> by_cases h3 : x.from_ < day <;> simp [h1, h2, h3]
    simp only [GxSlicesIndexFuncLoopExampleG01062ImplRateLoopExampleG01062ImplRateiRaiseRate1.l0, hi, Option.bind_some, unRate, hp, iteK_if, appK]
theorem no_hit {l : List Rate} (h : okRs l = true) {zone grams day : Int} (hz : inB zone 0 9 = false ∨ inB grams 1 2000 = false) : l.findIdx? (hitB zone grams day) = none := by
  rw [List.findIdx?_eq_none_iff]
  intro r hr
  have hok := okR_of (rs_mem h hr)
  unfold hitB
  unfold inB at hz
  simp only [decide_eq_false_iff_not] at hz
  rw [Bool.eq_false_iff]
  simp only [ne_eq, Bool.and_eq_true, decide_eq_true_eq]
  omega
theorem raise_impl (l : List Rate) (zone grams day cents : Int) (hl : l.length ≤ 9223372036854775807) : GiRaiseRate.P l zone grams day cents = some (raiseRes l zone grams day cents) := by
  simp only [GiRaiseRate.P, canSend_eq l zone grams hl, isDay_eq, isRateCents_eq, Option.bind_some, letK, joinK, appK, iteK_if, raiseRes]
  cases hc : okRs l with
  | false => simp
  | true =>
    cases hd : inB day 0 4000 with
    | false => cases inB zone 0 9 <;> cases inB grams 1 2000 <;> simp
    | true =>
      cases hce : inB cents 1 9999 with
      | false => cases inB zone 0 9 <;> cases inB grams 1 2000 <;> simp
      | true =>
        cases hz : inB zone 0 9 with
        | false => simp [no_hit hc (day := day) (grams := grams) (Or.inl hz)]
        | true =>
          cases hg : inB grams 1 2000 with
          | false => simp [no_hit hc (day := day) (zone := zone) (Or.inr hg)]
          | true =>
            have h16 := riseL_len hc
            have hdd := inB_of hd
            simp only [Bool.and_self, Bool.not_true, Bool.false_eq_true, if_false, if_true, find_hit, Option.bind_some, firstI]
            cases hf : l.findIdx? (hitB zone grams day) with
            | none => simp
            | some i =>
              have hi : i < l.length := by
                rw [List.findIdx?_eq_some_iff_getElem] at hf
                exact hf.1
              obtain ⟨r, hr, hri⟩ := at_lt (l := l) (k := i) hi
              have hneg : ¬ ((i : Int) < 0) := by omega
              have hw : IntKind.i64.wrap ((i : Int) + 1) = ((i + 1 : Nat) : Int) := by rw [wrap_in (by omega) (by omega)]; omega
              have hwd : IntKind.i64.wrap (day - 1) = day - 1 := wrap_in (by omega) (by omega)
              have hrl := raised_len l i r day cents
              have hcat : GxSlicesConcatLoopExampleG01062ImplRateLoopExampleG01062ImplRate.P [l.take i, [⟨r.zone, r.grams, r.from_, day - 1, r.cents⟩, ⟨r.zone, r.grams, day, r.until_, cents⟩], l.drop (i + 1)] = some (raised l i r day cents) := by
                rw [concat_eq _ (by simp) (fun x hx => by
                  simp only [List.mem_cons, List.not_mem_nil, or_false] at hx
                  rcases hx with rfl | rfl | rfl
                  · rw [List.length_take]; omega
                  · simp
                  · rw [List.length_drop]; omega)]
                simp [raised]
              simp only [decide_eq_false hneg, Bool.false_eq_true, if_false, hri, Option.bind_some, unRate, hw, hwd, Int.toNat_natCast, raiseAt, hr]
              by_cases he : r.cents = cents
              · simp [he]
              · have heb : (r.cents == cents) = false := by simpa using he
                simp only [heb, Bool.false_eq_true, if_false, if_neg he]
                rw [guardK_pos (by omega), guardK_pos (by omega), hcat]
                simp only [Option.bind_some, areRates_eq (raised l i r day cents) (by omega)]
                cases okRs (raised l i r day cents) <;> simp
theorem raise_spec {fuel : Nat} (l : List Rate) (zone grams day cents : Int) (hl : l.length ≤ 9223372036854775807) (hfu : 17 < fuel) : GsRaiseRate.P fuel l zone grams day cents = some (raiseRes l zone grams day cents) := by
  simp only [GsRaiseRate.P, l8Good_eq l hl hfu, l2Day_eq, l8Cents_eq, Option.bind_some, letK, joinK, appK, iteK_if, raiseRes]
  cases hc : okRs l with
  | false => simp
  | true =>
    cases hd : inB day 0 4000 with
    | false => simp
    | true =>
      cases hce : inB cents 1 9999 with
      | false => simp
      | true =>
        have h16 := riseL_len hc
        have hdd := inB_of hd
        simp only [Bool.and_self, Bool.not_true, Bool.false_eq_true, if_false, if_true]
        rw [find_loop (p := hitB zone grams day) (yes := fun i => some (raiseAt l i day cents))]
        · cases l.findIdx? (hitB zone grams day) <;> rfl
        · intro k nx r hr
          have hi : idx l (k : Int) = some r := by rw [idx_nat, hr]
          have hk : k < l.length := (List.getElem?_eq_some_iff.1 hr).1
          have hok := okR_of (rs_mem hc (List.mem_of_getElem? hr))
          have hw1 : IntKind.i64.wrap (r.from_ + 1) = r.from_ + 1 := wrap_in (by omega) (by omega)
          have hin : inB day (r.from_ + 1) r.until_ = (decide (r.from_ < day) && decide (day ≤ r.until_)) := by unfold inB; rw [Bool.eq_iff_iff]; simp; omega
          simp only [GsRaiseRate.l0, hi, Option.bind_some, unRate, letK, joinK, appK, iteK_if, hw1, l1In_eq, hin]
          cases hh : hitB zone grams day r with
          | false =>
            unfold hitB at hh
            by_cases h1 : r.zone = zone
            · by_cases h2 : r.grams = grams
              · have h3 : (decide (r.from_ < day) && decide (day ≤ r.until_)) = false := by simpa [h1, h2] using hh
                simp [h1, h2, h3]
              · simp [h1, h2]
            · simp [h1]
          | true =>
            unfold hitB at hh
            simp only [Bool.and_eq_true, decide_eq_true_eq] at hh
            obtain ⟨⟨⟨h1, h2⟩, h3⟩, h4⟩ := hh
            have hw : IntKind.i64.wrap ((k : Int) + 1) = ((k + 1 : Nat) : Int) := by rw [wrap_in (by omega) (by omega)]; omega
            have hwd : IntKind.i64.wrap (day - 1) = day - 1 := wrap_in (by omega) (by omega)
            have hrl := raised_len l k r day cents
            have hcat : l.take k ++ [⟨r.zone, r.grams, r.from_, day - 1, r.cents⟩, ⟨r.zone, r.grams, day, r.until_, cents⟩] ++ l.drop (k + 1) = raised l k r day cents := by simp [raised]
            have z1 : (r.zone != zone) = false := by simp [h1]
            have z2 : (r.grams != grams) = false := by simp [h2]
            simp only [z1, z2, h3, h4, decide_true, Bool.and_self, Bool.not_true, Bool.false_eq_true, if_false, if_true, hw, hwd, Int.toNat_natCast, List.nil_append]
            rw [guardK_pos (by omega), guardK_pos (by simp; omega), guardK_pos (by simp; omega), guardK_pos (by omega), guardK_pos (by simp; omega), hcat]
            simp only [l8Good_eq (raised l k r day cents) (by omega) hfu, Option.bind_some, raiseAt, hr]
            by_cases he : r.cents = cents
            · have heb : (cents == r.cents) = true := by simpa using he.symm
              cases okRs (raised l k r day cents) <;> simp [heb, he]
            · have heb : (cents == r.cents) = false := by simpa using fun e => he e.symm
              cases okRs (raised l k r day cents) <;> simp [heb, he]
end Go.Proofs.Ytlljmgphgmklcaa.Q8Raise

/- Chapter 8: rates: the plain functions of the program and of the reference agree, and the laws answer true. (Q8Cheap) No condition but those of each theorem. -/
namespace Go.Proofs.Ytlljmgphgmklcaa.Q8Cheap
set_option linter.unusedVariables false
set_option linter.unusedSimpArgs false
open Go.RowKit
open Go.Proofs.Ytlljmgphgmklcaa.GoP Go.Proofs.Ytlljmgphgmklcaa.PlainStamp Go.Proofs.Ytlljmgphgmklcaa.QBase Go.Proofs.Ytlljmgphgmklcaa.QFold Go.Proofs.Ytlljmgphgmklcaa.QRiseL Go.Proofs.Ytlljmgphgmklcaa.QOrd Go.Proofs.Ytlljmgphgmklcaa.Q8For Go.Proofs.Ytlljmgphgmklcaa.Q8List Go.Proofs.Ytlljmgphgmklcaa.Q8Rate Go.Proofs.Ytlljmgphgmklcaa.QLoop Go.Proofs.Ytlljmgphgmklcaa.PRate

theorem rateV_le {l : List Rate} (h : okRs l = true) (day zone grams : Int) : rateV l day zone grams ≤ 9999 := by
  unfold rateV
  cases hf : l.find? (onB day zone grams) with
  | none => dsimp only; omega
  | some r => have := okR_of (rs_mem h (List.mem_of_find?_eq_some hf)); dsimp only; omega
def stepC (l : List Rate) (day grams : Int) (s : List Int × Int) (k : Nat) : List Int × Int :=
  if rateV l day (k : Int) grams = 0 ∨ (0 < s.2 ∧ s.2 < rateV l day (k : Int) grams) then s
  else if rateV l day (k : Int) grams = s.2 then (s.1 ++ [(k : Int)], s.2) else ([(k : Int)], rateV l day (k : Int) grams)
def cheap (l : List Rate) (day grams : Int) : Nat → List Int × Int
  | 0 => ([], 0)
  | n + 1 => stepC l day grams (cheap l day grams n) n
theorem cheap_inv {l : List Rate} (h : okRs l = true) (day grams : Int) (n : Nat) : 0 ≤ (cheap l day grams n).2 ∧ (cheap l day grams n).2 ≤ 9999 ∧ (cheap l day grams n).1.length ≤ n := by
  induction n with
  | zero => simp [cheap]
  | succ n ih =>
    have h1 := rateV_nonneg h day (n : Int) grams
    have h2 := rateV_le h day (n : Int) grams
    show 0 ≤ (stepC l day grams (cheap l day grams n) n).2 ∧ (stepC l day grams (cheap l day grams n) n).2 ≤ 9999 ∧ (stepC l day grams (cheap l day grams n) n).1.length ≤ n + 1
    unfold stepC
    split
    · exact ⟨ih.1, ih.2.1, by omega⟩
    · split
      · refine ⟨ih.1, ih.2.1, ?_⟩
        rw [List.length_append]; simp; omega
      · exact ⟨h1, h2, by simp⟩
def cheapRes (l : List Rate) (day grams : Int) : List Int × Bool := if (okRs l && inB day 0 4000 && inB grams 1 2000) = true then ((cheap l day grams 10).1, true) else ([], false)
theorem cheap_len (l : List Rate) (day grams : Int) : (cheapRes l day grams).1.length ≤ 10 := by
  unfold cheapRes
  split
  · rename_i h
    simp only [Bool.and_eq_true] at h
    exact (cheap_inv h.1.1 day grams 10).2.2
  · simp
theorem cheap_impl (l : List Rate) (day grams : Int) (hl : l.length ≤ 9223372036854775807) : GiCheapestZones.P l day grams = some (cheapRes l day grams) := by
  have loop : okRs l = true → cntK (GiCheapestZones.l0 l day grams) 10 0 ([], 10000) GiCheapestZones.e0 = some ((cheap l day grams 10).1, true) := by
    intro h
    refine cnt_is _ (fun k (s : List Int × Int) => s = ((cheap l day grams k).1, if (cheap l day grams k).2 = 0 then 10000 else (cheap l day grams k).2)) ?_ ?_ _ rfl
    · rintro k s nx hk rfl hn
      obtain ⟨i1, i2, i3⟩ := cheap_inv h day grams k
      have h1 := rateV_nonneg h day (k : Int) grams
      have h2 := rateV_le h day (k : Int) grams
      have hst : cheap l day grams (k + 1) = stepC l day grams (cheap l day grams k) k := rfl
      obtain ⟨c, hc⟩ : ∃ c, rateV l day (k : Int) grams = c := ⟨_, rfl⟩
      obtain ⟨⟨z, m⟩, hs⟩ : ∃ s, cheap l day grams k = s := ⟨_, rfl⟩
      rw [hc] at h1 h2
      rw [hs] at i1 i2 i3
      unfold stepC at hst
      rw [hc, hs] at hst
      dsimp only at hst i1 i2 i3
      simp only [GiCheapestZones.l0, unp2, rateOn_eq, hc, hs, Option.bind_some, letK, joinK, appK, iteK_if, GiCheapestZones.j0]
      have ht : List.take (Int.toNat 0) z = [] := rfl
      by_cases c0 : c = 0
      · rw [if_pos (Or.inl c0)] at hst
        simp only [c0, beq_self_eq_true, if_true]
        exact hn _ (by rw [hst])
      · have c0b : (c == 0) = false := by simpa using c0
        by_cases m0 : m = 0
        · subst m0
          rw [if_neg (by omega), if_neg c0] at hst
          have a1 : ¬ (10000 < c) := by omega
          have a2 : c < 10000 := by omega
          simp only [c0b, Bool.false_eq_true, if_false, if_true, decide_eq_false a1, decide_eq_true a2, ht]
          rw [guardK_pos (by omega), guardK_pos (by simp)]
          refine hn _ ?_
          rw [hst]; simp [c0]
        · simp only [if_neg m0]
          by_cases a1 : m < c
          · rw [if_pos (Or.inr ⟨by omega, a1⟩)] at hst
            simp only [c0b, Bool.false_eq_true, if_false, if_true, decide_eq_true a1]
            refine hn _ ?_
            rw [hst]; simp [m0]
          · by_cases a2 : c < m
            · rw [if_neg (by omega), if_neg (by omega)] at hst
              simp only [c0b, Bool.false_eq_true, if_false, if_true, decide_eq_false a1, decide_eq_true a2, ht]
              rw [guardK_pos (by omega), guardK_pos (by simp)]
              refine hn _ ?_
              rw [hst]; simp [c0]
            · obtain rfl : c = m := by omega
              rw [if_neg (by omega), if_pos rfl] at hst
              simp only [c0b, Bool.false_eq_true, if_false, if_true, decide_eq_false a1]
              rw [guardK_pos (by omega)]
              refine hn _ ?_
              rw [hst]; simp [c0]
    · rintro s rfl; rfl
  simp only [GiCheapestZones.P, areRates_eq l hl, isDay_eq, isWeight_eq, Option.bind_some, letK, joinK, appK, iteK_if, cheapRes]
  cases hc : okRs l with
  | false => simp
  | true =>
    rw [loop hc]
    cases inB day 0 4000 <;> cases inB grams 1 2000 <;> simp
theorem cheap_spec {fuel : Nat} (l : List Rate) (day grams : Int) (hl : l.length ≤ 9223372036854775807) (hf : 17 < fuel) : GsCheapestZones.P fuel l day grams = some (cheapRes l day grams) := by
  have loop : okRs l = true → cntK (GsCheapestZones.l0 l day grams) 10 0 ([], 0) GsCheapestZones.e0 = some ((cheap l day grams 10).1, true) := by
    intro h
    refine cnt_is _ (fun k (s : List Int × Int) => s = cheap l day grams k) ?_ ?_ _ rfl
    · rintro k s nx hk rfl hn
      obtain ⟨i1, i2, i3⟩ := cheap_inv h day grams k
      have hst : cheap l day grams (k + 1) = stepC l day grams (cheap l day grams k) k := rfl
      obtain ⟨c, hc⟩ : ∃ c, rateV l day (k : Int) grams = c := ⟨_, rfl⟩
      obtain ⟨⟨z, m⟩, hs⟩ : ∃ s, cheap l day grams k = s := ⟨_, rfl⟩
      rw [hs] at i1 i2 i3
      unfold stepC at hst
      rw [hc, hs] at hst
      dsimp only at hst i1 i2 i3
      simp only [GsCheapestZones.l0, unp2, l8For_eq, hc, hs, Option.bind_some, letK, joinK, appK, iteK_if]
      by_cases c0 : c = 0
      · rw [if_pos (Or.inl c0)] at hst
        simp only [c0, beq_self_eq_true, if_true]
        exact hn _ (by rw [hst])
      · have c0b : (c == 0) = false := by simpa using c0
        by_cases m0 : 0 < m
        · by_cases a1 : m < c
          · rw [if_pos (Or.inr ⟨m0, a1⟩)] at hst
            simp only [c0b, Bool.false_eq_true, if_false, if_true, decide_eq_true m0, decide_eq_true a1]
            exact hn _ (by rw [hst])
          · rw [if_neg (by omega)] at hst
            by_cases e : c = m
            · rw [if_pos e] at hst
              subst e
              simp only [c0b, Bool.false_eq_true, if_false, if_true, decide_eq_true m0, decide_eq_false a1, beq_self_eq_true]
              rw [guardK_pos (by omega)]
              exact hn _ (by rw [hst])
            · rw [if_neg e] at hst
              have eb : (c == m) = false := by simpa using e
              simp only [c0b, Bool.false_eq_true, if_false, if_true, decide_eq_true m0, decide_eq_false a1, eb]
              exact hn _ (by rw [hst])
        · rw [if_neg (by omega), if_neg (by omega)] at hst
          have eb : (c == m) = false := by simp; omega
          simp only [c0b, Bool.false_eq_true, if_false, decide_eq_false m0, eb]
          exact hn _ (by rw [hst])
    · rintro s rfl; rfl
  simp only [GsCheapestZones.P, l8Good_eq l hl hf, l2Day_eq, l8Grams_eq, Option.bind_some, letK, joinK, appK, iteK_if, cheapRes]
  cases hc : okRs l with
  | false => simp
  | true =>
    rw [loop hc]
    cases inB day 0 4000 <;> cases inB grams 1 2000 <;> simp
end Go.Proofs.Ytlljmgphgmklcaa.Q8Cheap

