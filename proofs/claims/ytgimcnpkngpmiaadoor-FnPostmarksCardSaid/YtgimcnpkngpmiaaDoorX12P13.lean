/- Texts on which the proofs of several laws stand, one behind the other (13 of 14). No condition of their own. -/
import Derived.WalkKit
import Derived.Test.YtgimcnpkngpmiaaDoorX12P1
import Derived.Test.YtgimcnpkngpmiaaDoorX12P5
import Derived.Test.YtgimcnpkngpmiaaDoorX12P6
import Derived.IntWalk
import Derived.Test.YtgimcnpkngpmiaaDoorX12P2
import Derived.Test.YtgimcnpkngpmiaaDoorX12P7
import Derived.Test.YtgimcnpkngpmiaaDoorX12P9
import Derived.Test.YtgimcnpkngpmiaaDoorX12P3
import Derived.Test.YtgimcnpkngpmiaaDoorX12P4
import Derived.Test.YtgimcnpkngpmiaaDoorX12P10
import Derived.Test.YtgimcnpkngpmiaaDoorX12P8
/- Plain words on stamps: what a stamp is, when one is valid, when a list of them is; the cells of a list of records. No condition. -/
namespace Go.Proofs.YtgimcnpkngpmiaaDoor.PlainStamp
set_option linter.unusedVariables false

/-- a number lies in a..b -/
def inB (x a b : Int) : Bool := decide (a ≤ x ∧ x ≤ b)
theorem inB_of {x a b : Int} (h : inB x a b = true) : a ≤ x ∧ x ≤ b := by unfold inB at h; exact of_decide_eq_true h
structure St where
  id : Int
  face : Int
  color : Int
  year : Int
deriving DecidableEq

def St.cells (s : St) : List Value := [.int .i64 s.id, .int .i64 s.face, .int .i64 s.color, .int .i64 s.year]
def St.val (s : St) : Value := .agg #[.int .i64 s.id, .int .i64 s.face, .int .i64 s.color, .int .i64 s.year]
/-- each field fits an int -/
def St.fits (s : St) : Prop := (Lit.int .i64 s.id).wf = true ∧ (Lit.int .i64 s.face).wf = true ∧ (Lit.int .i64 s.color).wf = true ∧ (Lit.int .i64 s.year).wf = true

def okSt (s : St) : Bool := inB s.id 1 999 && inB s.face 0 9999 && inB s.color 0 99 && inB s.year 1840 2100
/-- the stamp at k is valid, and its id is above the one ahead of it -/
def okAt (l : List St) (k : Nat) : Bool :=
  match l[k]? with
  | none => true
  | some s => okSt s && (decide (k = 0) || (match l[k-1]? with | none => true | some r => decide (r.id < s.id)))
def okUp (l : List St) (k : Nat) : Bool := (List.range k).all (okAt l)
/-- a list of at most twelve valid stamps with rising ids -/
def okSts (l : List St) : Bool := decide (l.length ≤ 12) && okUp l l.length
/-- the cells of a list of stamps, one after the other -/
def flat (l : List St) : List Value := l.flatMap St.cells
theorem flat_nil : flat [] = [] := rfl
theorem flat_cons (s : St) (l : List St) : flat (s :: l) = s.cells ++ flat l := by simp [flat]
theorem flat_len (l : List St) : (flat l).length = l.length * 4 := by
  induction l with
  | nil => rfl
  | cons s l ih => rw [flat_cons, List.length_append, ih]; simp [St.cells]; omega
theorem flat_at : ∀ (l : List St) (k : Nat) (s : St), l[k]? = some s → ∀ j, j < 4 → (flat l)[k * 4 + j]? = s.cells[j]?
  | [], k, s, h, _, _ => by simp at h
  | r :: l, 0, s, h, j, hj => by
    obtain rfl : r = s := by simpa using h
    rw [flat_cons, List.getElem?_append_left (by simp [St.cells]; omega)]; simp
  | r :: l, k + 1, s, h, j, hj => by
    rw [flat_cons, List.getElem?_append_right (by simp [St.cells]; omega), show (k + 1) * 4 + j - r.cells.length = k * 4 + j by simp [St.cells]; omega]
    exact flat_at l k s (by simpa using h) j hj
end Go.Proofs.YtgimcnpkngpmiaaDoor.PlainStamp

/- Words for reckoning with plain functions; within and l1In. No condition. -/
namespace Go.Proofs.YtgimcnpkngpmiaaDoor.QBase
set_option linter.unusedVariables false
set_option linter.unusedSimpArgs false
open Go.RowKit
open Go.Proofs.YtgimcnpkngpmiaaDoor.GoP Go.Proofs.YtgimcnpkngpmiaaDoor.PlainStamp

theorem iteK_if {ρ : Type} (c : Bool) (a b : Option ρ) : iteK c a b = if c = true then a else b := by cases c <;> rfl
theorem bind2_some {α β ρ : Type} (a : α) (b : β) (f : α → β → Option ρ) : bind2 (some (a, b)) f = f a b := rfl
theorem bind3_some {α β γ ρ : Type} (a : α) (b : β) (c : γ) (f : α → β → γ → Option ρ) : bind3 (some (a, b, c)) f = f a b c := rfl
theorem guardK_pos {ρ : Type} {p : Prop} [Decidable p] {a : Option ρ} (h : p) : guardK p a = a := if_pos h
theorem within_eq (n a b : Int) : GiWithin.P n a b = some (inB n a b) := by
  simp only [GiWithin.P, letK, joinK, appK, iteK_if, inB]
  by_cases h1 : a ≤ n <;> by_cases h2 : n ≤ b <;> simp [h1, h2]
theorem l1In_eq (n a b : Int) : GsL1In.P n a b = some (inB n a b) := by
  simp only [GsL1In.P, letK, joinK, appK, iteK_if, inB]
  by_cases h1 : a ≤ n <;> by_cases h2 : n ≤ b <;> simp [h1, h2]
end Go.Proofs.YtgimcnpkngpmiaaDoor.QBase

/- Reckoning with the loops of plain functions; lists of valid records with rising ids. No condition. -/
namespace Go.Proofs.YtgimcnpkngpmiaaDoor.QLoop
set_option linter.unusedVariables false
open Go.RowKit
open Go.Proofs.YtgimcnpkngpmiaaDoor.GoP Go.Proofs.YtgimcnpkngpmiaaDoor.QBase

theorem cnt_ex {σ ρ : Type} {f : Nat → σ → (σ → Option ρ) → (σ → Option ρ) → Option ρ} {fin : σ → Option ρ} {Q : ρ → Prop} {n : Nat} (I : Nat → σ → Prop)
    (step : ∀ k s nx, k < n → I k s → (∀ s', I (k + 1) s' → ∃ r, nx s' = some r ∧ Q r) → ∃ r, f k s nx fin = some r ∧ Q r) (done : ∀ s, I n s → ∃ r, fin s = some r ∧ Q r) :
    ∀ m k s, k + m = n → I k s → ∃ r, cntK f m k s fin = some r ∧ Q r := by
  intro m
  induction m with
  | zero => intro k s hk hI; obtain rfl : k = n := by omega
            exact done s hI
  | succ m ih => intro k s hk hI; exact step k s _ (by omega) hI (fun s' h' => ih (k + 1) s' (by omega) h')
theorem cnt_is {σ ρ : Type} {f : Nat → σ → (σ → Option ρ) → (σ → Option ρ) → Option ρ} {fin : σ → Option ρ} {n : Nat} (r : ρ) (I : Nat → σ → Prop)
    (step : ∀ k s nx, k < n → I k s → (∀ s', I (k + 1) s' → nx s' = some r) → f k s nx fin = some r) (done : ∀ s, I n s → fin s = some r) (s : σ) (h0 : I 0 s) : cntK f n 0 s fin = some r := by
  obtain ⟨r', h, rfl⟩ := cnt_ex (Q := fun x => x = r) I (fun k s nx hk hI hn => ⟨r, step k s nx hk hI (fun s' h' => by obtain ⟨_, h, rfl⟩ := hn s' h'; exact h), rfl⟩) (fun s h => ⟨r, done s h, rfl⟩) n 0 s (by omega) h0
  exact h
theorem at_lt {α : Type} {l : List α} {k : Nat} (h : k < l.length) : ∃ x, l[k]? = some x ∧ idx l (k : Int) = some x := ⟨l[k], List.getElem?_eq_getElem h, by rw [idx_nat, List.getElem?_eq_getElem h]⟩
theorem idx_pred {α : Type} {l : List α} {k : Nat} {x : α} (hk : 0 < k) (hb : k ≤ 9223372036854775807) (h : l[k - 1]? = some x) : idx l (IntKind.i64.wrap ((k : Int) - 1)) = some x := by
  rw [IntWalk.i64_in _ (by omega), show ((k : Int) - 1) = ((k - 1 : Nat) : Int) by omega, idx_nat, h]
theorem take_next {α : Type} {l : List α} {k : Nat} {x : α} (h : l[k]? = some x) : l.take (k + 1) = l.take k ++ [x] := by
  obtain ⟨hk, e⟩ := List.getElem?_eq_some_iff.1 h
  rw [List.take_succ_eq_append_getElem hk, e]
theorem all_next {α : Type} {p : α → Bool} {l : List α} {k : Nat} {x : α} (h : l[k]? = some x) : (l.take (k + 1)).all p = ((l.take k).all p && p x) := by
  rw [take_next h]; simp
theorem not_all {α : Type} {p : α → Bool} {l : List α} {k : Nat} {x : α} (h : l[k]? = some x) (hp : p x = false) : l.all p = false := by
  rw [Bool.eq_false_iff]
  intro ha
  have := List.all_eq_true.1 ha x (List.mem_of_getElem? h)
  rw [hp] at this; exact absurd this (by simp)
theorem wrap_in {x : Int} (h1 : -9223372036854775808 ≤ x) (h2 : x ≤ 9223372036854775807) : IntKind.i64.wrap x = x := IntWalk.i64_in _ (by omega)

/-- valid, and above the one ahead of it -/
def upAt {α : Type} (ok : α → Bool) (id : α → Int) (l : List α) (k : Nat) : Bool :=
  match l[k]? with
  | none => true
  | some s => ok s && (decide (k = 0) || (match l[k-1]? with | none => true | some r => decide (id r < id s)))
def upTo {α : Type} (ok : α → Bool) (id : α → Int) (l : List α) (k : Nat) : Bool := (List.range k).all (upAt ok id l)
theorem upTo_zero {α : Type} (ok : α → Bool) (id : α → Int) (l : List α) : upTo ok id l 0 = true := rfl
theorem upTo_succ {α : Type} (ok : α → Bool) (id : α → Int) (l : List α) (k : Nat) : upTo ok id l (k + 1) = (upTo ok id l k && upAt ok id l k) := by simp [upTo, List.range_succ, List.all_append]
theorem upTo_not {α : Type} {ok : α → Bool} {id : α → Int} {l : List α} {k n : Nat} (h : upAt ok id l k = false) (hk : k < n) : upTo ok id l n = false := by
  unfold upTo
  rw [Bool.eq_false_iff]
  intro ha
  have := List.all_eq_true.1 ha k (List.mem_range.2 hk)
  rw [h] at this; exact absurd this (by simp)
/-- a list of at most m valid records with rising ids -/
def upL {α : Type} (m : Nat) (ok : α → Bool) (id : α → Int) (l : List α) : Bool := decide (l.length ≤ m) && upTo ok id l l.length
theorem upAt_bad {α : Type} {ok : α → Bool} {id : α → Int} {l : List α} {k : Nat} {s : α} (hs : l[k]? = some s) (h : ok s = false) : upAt ok id l k = false := by unfold upAt; rw [hs]; simp [h]
theorem upAt_first {α : Type} {ok : α → Bool} {id : α → Int} {l : List α} {s : α} (hs : l[0]? = some s) (h : ok s = true) : upAt ok id l 0 = true := by unfold upAt; rw [hs]; simp [h]
theorem upAt_next {α : Type} {ok : α → Bool} {id : α → Int} {l : List α} {k : Nat} {s r : α} (hs : l[k]? = some s) (hr : l[k-1]? = some r) (hk : 0 < k) (h : ok s = true) : upAt ok id l k = decide (id r < id s) := by
  unfold upAt; rw [hs]; simp only [hr, h, Bool.true_and, decide_eq_false (show ¬ k = 0 by omega), Bool.false_or]
theorem upL_len {α : Type} {m : Nat} {ok : α → Bool} {id : α → Int} {l : List α} (h : upL m ok id l = true) : l.length ≤ m := by unfold upL at h; simp only [Bool.and_eq_true, decide_eq_true_eq] at h; exact h.1
theorem upL_ok {α : Type} {m : Nat} {ok : α → Bool} {id : α → Int} {l : List α} (h : upL m ok id l = true) {k : Nat} {s : α} (hs : l[k]? = some s) : ok s = true := by
  unfold upL at h
  simp only [Bool.and_eq_true, decide_eq_true_eq] at h
  have := List.all_eq_true.1 h.2 k (List.mem_range.2 (List.getElem?_eq_some_iff.1 hs).1)
  unfold upAt at this
  rw [hs] at this
  simp only [Bool.and_eq_true] at this
  exact this.1
theorem upL_mem {α : Type} {m : Nat} {ok : α → Bool} {id : α → Int} {l : List α} (h : upL m ok id l = true) {s : α} (hs : s ∈ l) : ok s = true := by
  obtain ⟨k, hk⟩ := List.getElem?_of_mem hs
  exact upL_ok h hk
/-- a loop that goes through a list of records and stops with 'false' at the first that is bad -/
theorem up_loop {α : Type} {ok : α → Bool} {id : α → Int} {l : List α} {R : Type} {no : R} {f : Nat → Unit → (Unit → Option R) → (Unit → Option R) → Option R} {fin : Unit → Option R}
    (step : ∀ k nx s, l[k]? = some s → (ok s = false → f k () nx fin = some no) ∧ (ok s = true → (k = 0 → f k () nx fin = nx ()) ∧ (0 < k → ∀ r, l[k-1]? = some r → (id r < id s → f k () nx fin = nx ()) ∧ (id s ≤ id r → f k () nx fin = some no)))) :
    cntK f l.length 0 () fin = if upTo ok id l l.length then fin () else some no := by
  have key : ∀ m k, k + m = l.length → upTo ok id l k = true → cntK f m k () fin = if upTo ok id l l.length then fin () else some no := by
    intro m
    induction m with
    | zero => intro k hk hu; obtain rfl : k = l.length := by omega
              rw [hu]; rfl
    | succ m ih =>
      intro k hk hu
      have hlt : k < l.length := by omega
      obtain ⟨s, hs, _⟩ := at_lt hlt
      obtain ⟨h1, h2⟩ := step k (fun s' => cntK f m (k + 1) s' fin) s hs
      show f k () _ fin = _
      cases hok : ok s with
      | false => rw [h1 hok, upTo_not (upAt_bad hs hok) hlt]; rfl
      | true =>
        obtain ⟨h3, h4⟩ := h2 hok
        by_cases hk0 : k = 0
        · rw [h3 hk0]
          subst hk0
          exact ih 1 (by omega) (by rw [upTo_succ, hu, upAt_first hs hok]; rfl)
        · obtain ⟨r, hr, _⟩ := at_lt (l := l) (k := k - 1) (by omega)
          obtain ⟨h5, h6⟩ := h4 (by omega) r hr
          by_cases hlt2 : id r < id s
          · rw [h5 hlt2]
            exact ih (k + 1) (by omega) (by rw [upTo_succ, hu, upAt_next hs hr (by omega) hok]; simpa using hlt2)
          · rw [h6 (by omega), upTo_not (by rw [upAt_next hs hr (by omega) hok]; simpa using hlt2) hlt]; rfl
  exact key l.length 0 (by omega) (upTo_zero ok id l)
end Go.Proofs.YtgimcnpkngpmiaaDoor.QLoop

/- Loops that test each place, and loops without a count. No condition. -/
namespace Go.Proofs.YtgimcnpkngpmiaaDoor.QAll
set_option linter.unusedVariables false
set_option linter.unusedSimpArgs false
open Go.RowKit
open Go.Proofs.YtgimcnpkngpmiaaDoor.GoP Go.Proofs.YtgimcnpkngpmiaaDoor.QBase Go.Proofs.YtgimcnpkngpmiaaDoor.QLoop

/-- each number below n is good -/
def allN (n : Nat) (p : Nat → Bool) : Bool := (List.range n).all p
theorem allN_iff {n : Nat} {p : Nat → Bool} : allN n p = true ↔ ∀ i, i < n → p i = true := by unfold allN; simp
theorem allN_no {n k : Nat} {p : Nat → Bool} (hk : k < n) (h : p k = false) : allN n p = false := by
  rw [Bool.eq_false_iff]; intro ha; rw [allN_iff.1 ha k hk] at h; exact absurd h (by simp)
theorem all_cnt {ρ : Type} {n : Nat} {p : Nat → Bool} {no : ρ} {f : Nat → Unit → (Unit → Option ρ) → (Unit → Option ρ) → Option ρ} {fin : Unit → Option ρ}
    (step : ∀ k nx, k < n → (p k = false → f k () nx fin = some no) ∧ (p k = true → f k () nx fin = nx ())) : cntK f n 0 () fin = if allN n p = true then fin () else some no := by
  have key : ∀ m k, k + m = n → (∀ i, i < k → p i = true) → cntK f m k () fin = if allN n p = true then fin () else some no := by
    intro m
    induction m with
    | zero => intro k hk hu; obtain rfl : k = n := by omega
              rw [allN_iff.2 hu]; rfl
    | succ m ih =>
      intro k hk hu
      obtain ⟨h1, h2⟩ := step k (fun s' => cntK f m (k + 1) s' fin) (by omega)
      show f k () _ fin = _
      cases hp : p k with
      | false => rw [h1 hp, allN_no (by omega) hp]; rfl
      | true =>
        rw [h2 hp]
        refine ih (k + 1) (by omega) (fun i hi => ?_)
        by_cases he : i = k
        · rw [he]; exact hp
        · exact hu i (by omega)
  exact key n 0 (by omega) (fun i hi => by omega)
theorem lp_ex {σ ρ : Type} {f : σ → (σ → Option ρ) → (σ → Option ρ) → Option ρ} {fin : σ → Option ρ} {Q : ρ → Prop} {n : Nat} (I : Nat → σ → Prop)
    (step : ∀ k s nx, k < n → I k s → (∀ s', I (k + 1) s' → ∃ r, nx s' = some r ∧ Q r) → ∃ r, f s nx fin = some r ∧ Q r) (done : ∀ s nx, I n s → ∃ r, f s nx fin = some r ∧ Q r) :
    ∀ fuel k s, k ≤ n → n - k < fuel → I k s → ∃ r, loopK f fuel s fin = some r ∧ Q r := by
  intro fuel
  induction fuel with
  | zero => intro k s hk hf; omega
  | succ m ih =>
    intro k s hk hf hI
    show ∃ r, f s _ fin = some r ∧ Q r
    by_cases he : k = n
    · subst he; exact done s _ hI
    · exact step k s _ (by omega) hI (fun s' h' => ih (k + 1) s' (by omega) (by omega) h')
end Go.Proofs.YtgimcnpkngpmiaaDoor.QAll

/- Rising rows: what a rising row gives; loops that sum; loops from one on. No condition. -/
namespace Go.Proofs.YtgimcnpkngpmiaaDoor.QUp
set_option linter.unusedVariables false
set_option linter.unusedSimpArgs false
open Go.RowKit
open Go.Proofs.YtgimcnpkngpmiaaDoor.GoP Go.Proofs.YtgimcnpkngpmiaaDoor.QBase Go.Proofs.YtgimcnpkngpmiaaDoor.QLoop Go.Proofs.YtgimcnpkngpmiaaDoor.QAll

theorem upTo_at {α : Type} {ok : α → Bool} {id : α → Int} {l : List α} {n : Nat} (h : upTo ok id l n = true) {k : Nat} (hk : k < n) : upAt ok id l k = true := List.all_eq_true.1 h k (List.mem_range.2 hk)
theorem upTo_step {α : Type} {ok : α → Bool} {id : α → Int} {l : List α} {n : Nat} (h : upTo ok id l n = true) {k : Nat} (hk : k + 1 < n) {x y : α} (hx : l[k]? = some x) (hy : l[k + 1]? = some y) : id x < id y := by
  have := upTo_at h hk
  unfold upAt at this
  rw [hy] at this
  simp only [Nat.add_sub_cancel, hx, Bool.and_eq_true, Bool.or_eq_true, decide_eq_true_eq] at this
  rcases this.2 with h0 | h0
  · omega
  · exact h0
theorem upTo_lt {α : Type} {ok : α → Bool} {id : α → Int} {l : List α} {n : Nat} (h : upTo ok id l n = true) (hn : n ≤ l.length) {i : Nat} : ∀ d {x y : α}, i + d + 1 < n → l[i]? = some x → l[i + d + 1]? = some y → id x < id y := by
  intro d
  induction d with
  | zero => intro x y hk hx hy; exact upTo_step h hk hx hy
  | succ d ih =>
    intro x y hk hx hy
    obtain ⟨z, hz, _⟩ := at_lt (l := l) (k := i + d + 1) (by omega)
    have h1 := ih (by omega) hx hz
    have h2 := upTo_step (k := i + d + 1) h (by omega) hz (by rw [← hy]; rfl)
    omega
/-- rising numbers: the later one is greater -/
theorem up_less {α : Type} {ok : α → Bool} {id : α → Int} {l : List α} (h : upTo ok id l l.length = true) {i j : Nat} {x y : α} (hij : i < j) (hx : l[i]? = some x) (hy : l[j]? = some y) : id x < id y := by
  have hj := (List.getElem?_eq_some_iff.1 hy).1
  exact upTo_lt h (Nat.le_refl _) (j - i - 1) (by omega) hx (by rw [← hy]; congr 1; omega)
/-- a loop with fuel, from k on, by an invariant -/
theorem lp_is {σ ρ : Type} {f : σ → (σ → Option ρ) → (σ → Option ρ) → Option ρ} {fin : σ → Option ρ} {n : Nat} (r : ρ) (I : Nat → σ → Prop)
    (step : ∀ k s nx, k < n → I k s → (∀ s', I (k + 1) s' → nx s' = some r) → f s nx fin = some r) (done : ∀ s nx, I n s → f s nx fin = some r) (fuel : Nat) (k : Nat) (s : σ) (hk : k ≤ n) (hf : n - k < fuel) (hI : I k s) : loopK f fuel s fin = some r := by
  obtain ⟨r', h, rfl⟩ := lp_ex (Q := fun x => x = r) I (fun k s nx hk hI hn => ⟨r, step k s nx hk hI (fun s' h' => by obtain ⟨_, h, rfl⟩ := hn s' h'; exact h), rfl⟩) (fun s nx h => ⟨r, done s nx h, rfl⟩) fuel k s hk hf hI
  exact h
theorem most_eq (a b : Int) (h : (if b < a then a else b) = max a b := by omega) : (if b < a then a else b) = max a b := h
end Go.Proofs.YtgimcnpkngpmiaaDoor.QUp

/- Chapter 11: postmarks: the plain functions of the program and of the reference agree, and the laws answer true. (QByte) No condition but those of each theorem. -/
namespace Go.Proofs.YtgimcnpkngpmiaaDoor.QByte
set_option linter.unusedVariables false
set_option linter.unusedSimpArgs false
open Go.RowKit
open Go.Proofs.YtgimcnpkngpmiaaDoor.GoP Go.Proofs.YtgimcnpkngpmiaaDoor.PlainStamp Go.Proofs.YtgimcnpkngpmiaaDoor.QBase Go.Proofs.YtgimcnpkngpmiaaDoor.QLoop

/-- the text of these bytes -/
def bs (l : List UInt8) : ByteArray := ⟨l.toArray⟩
theorem bs_size (l : List UInt8) : (bs l).size = l.length := by unfold bs; show l.toArray.size = _; rw [List.size_toArray]
theorem bs_list (l : List UInt8) : (bs l).toList = l := by rw [Lib.toList_data]; simp [bs]
theorem bs_app (a b : List UInt8) : bs a ++ bs b = bs (a ++ b) := by
  apply ByteArray.ext; simp [bs]
theorem bs_cut (l : List UInt8) (i j : Nat) : (bs l).extract i j = bs ((l.take j).drop i) := by
  apply ByteArray.ext
  simp [bs, List.drop_take]
theorem bs_of (s : ByteArray) : bs s.toList = s := by
  apply ByteArray.ext; rw [Lib.toList_data]; simp [bs]
theorem toList_size (s : ByteArray) : s.toList.length = s.size := by rw [Lib.toList_data]; rfl
def toI (l : List UInt8) : List Int := l.map fun b => (b.toNat : Int)
theorem byte_eq (b c : UInt8) : ((b.toNat : Int) == (c.toNat : Int)) = (b == c) := by
  rw [Bool.eq_iff_iff, beq_iff_eq, beq_iff_eq]
  constructor
  · intro h; exact UInt8.toNat.inj (by omega)
  · intro h; rw [h]
end Go.Proofs.YtgimcnpkngpmiaaDoor.QByte

/- Words: the tests of a word of the program and of the reference as plain functions. (QWord) No condition but those of each theorem. -/
namespace Go.Proofs.YtgimcnpkngpmiaaDoor.QWord
set_option linter.unusedVariables false
set_option linter.unusedSimpArgs false
open Go.RowKit
open Go.Proofs.YtgimcnpkngpmiaaDoor.GoP Go.Proofs.YtgimcnpkngpmiaaDoor.PlainStamp Go.Proofs.YtgimcnpkngpmiaaDoor.QBase Go.Proofs.YtgimcnpkngpmiaaDoor.QLoop

def small (b : UInt8) : Bool := decide (97 ≤ b.toNat ∧ b.toNat ≤ 122)
def wordB (s : ByteArray) : Bool := inB (s.size : Int) 1 10 && s.toList.all small
theorem size_list (s : ByteArray) : s.toList.length = s.size := by rw [Lib.toList_data]; rfl
theorem isLetter_eq (b : UInt8) : GiIsLetter.P (b.toNat : Int) = some (small b) := by
  simp only [GiIsLetter.P, letK, joinK, appK, iteK_if]
  unfold small
  by_cases h1 : 97 ≤ b.toNat
  · by_cases h2 : b.toNat ≤ 122
    · simp [h1, h2, show (97 : Int) ≤ b.toNat by omega, show (b.toNat : Int) ≤ 122 by omega]
    · simp [h1, h2, show (97 : Int) ≤ b.toNat by omega, show ¬ (b.toNat : Int) ≤ 122 by omega]
  · simp [h1, show ¬ (97 : Int) ≤ b.toNat by omega]
theorem isWord_eq (s : ByteArray) : GiIsWord.P s = some (wordB s) := by
  cases hb : inB (s.size : Int) 1 10 with
  | false => simp only [GiIsWord.P, within_eq, hb, Option.bind_some, letK, iteK_if, wordB]; rfl
  | true =>
    have h := inB_of hb
    simp only [GiIsWord.P, within_eq, hb, Option.bind_some, letK, iteK_if]
    rw [if_neg (by simp), guardK_pos (by omega)]
    refine cnt_is _ (fun k _ => (s.toList.take k).all small = true) ?_ ?_ () rfl
    · intro k u nx hk hI hn
      obtain ⟨y, hy, hi⟩ := at_lt (l := s.toList) (k := k) (by rw [size_list]; exact hk)
      simp only [GiIsWord.l0, hi, Option.bind_some, letK, joinK, appK, iteK_if, isLetter_eq]
      cases hs : small y with
      | false =>
        have : wordB s = false := by unfold wordB; rw [not_all hy hs, Bool.and_false]
        simp [this]
      | true => exact hn () (by rw [all_next hy, hI, hs]; rfl)
    · intro u hI
      rw [List.take_of_length_le (by rw [size_list]; exact Nat.le_refl _)] at hI
      simp [GiIsWord.e0, wordB, hb, hI]
theorem l2Word_eq (s : ByteArray) (hz : s.size ≤ 9223372036854775807) : GsL2Word.P s = some (wordB s) := by
  simp only [GsL2Word.P]
  rw [guardK_pos hz]
  refine cnt_is _ (fun k _ => (s.toList.take k).all small = true) ?_ ?_ () rfl
  · intro k u nx hk hI hn
    obtain ⟨y, hy, hi⟩ := at_lt (l := s.toList) (k := k) (by rw [size_list]; exact hk)
    simp only [GsL2Word.l0, hi, Option.bind_some, letK, joinK, appK, iteK_if]
    by_cases h1 : (y.toNat : Int) < 97
    · have : wordB s = false := by unfold wordB; rw [not_all hy (by unfold small; simp; omega), Bool.and_false]
      simp [h1, this]
    · by_cases h2 : (122 : Int) < (y.toNat : Int)
      · have : wordB s = false := by unfold wordB; rw [not_all hy (by unfold small; simp; omega), Bool.and_false]
        simp [h1, h2, this]
      · simp [h1, h2]
        exact hn () (by rw [all_next hy, hI]; unfold small; simp; omega)
  · intro u hI
    rw [List.take_of_length_le (by rw [size_list]; exact Nat.le_refl _)] at hI
    simp [GsL2Word.e0, wordB, l1In_eq, hI]
theorem word_len {s : ByteArray} (h : wordB s = true) : 1 ≤ s.size ∧ s.size ≤ 10 := by
  unfold wordB at h
  simp only [Bool.and_eq_true] at h
  have := inB_of h.1; omega
end Go.Proofs.YtgimcnpkngpmiaaDoor.QWord

/- Chapter 11: postmarks: the plain functions of the program and of the reference agree, and the laws answer true. (Q11Mark) No condition but those of each theorem. -/
namespace Go.Proofs.YtgimcnpkngpmiaaDoor.Q11Mark
set_option linter.unusedVariables false
set_option linter.unusedSimpArgs false
open Go.RowKit
open Go.Proofs.YtgimcnpkngpmiaaDoor.GoP Go.Proofs.YtgimcnpkngpmiaaDoor.PlainStamp Go.Proofs.YtgimcnpkngpmiaaDoor.QBase Go.Proofs.YtgimcnpkngpmiaaDoor.QUp Go.Proofs.YtgimcnpkngpmiaaDoor.QByte Go.Proofs.YtgimcnpkngpmiaaDoor.QWord Go.Proofs.YtgimcnpkngpmiaaDoor.QLoop Go.Proofs.YtgimcnpkngpmiaaDoor.PPostmark

def isSign (b : UInt8) : Bool := b == 46 || b == 120
def lossB (lost town : ByteArray) : Bool := decide (lost.size = town.size) && (lost.toList.all isSign && lost.toList.any fun b => b == 46)
theorem count_split (l : List UInt8) : Lib.countByte l 46 + Lib.countByte l 120 ≤ l.length ∧ (Lib.countByte l 46 + Lib.countByte l 120 = l.length ↔ l.all isSign = true) ∧ (0 < Lib.countByte l 46 ↔ l.any (fun b => b == 46) = true) := by
  induction l with
  | nil => simp [Lib.countByte]
  | cons b l ih =>
    obtain ⟨h1, h2, h3⟩ := ih
    have e : ∀ x : UInt8, Lib.countByte (b :: l) x = Lib.countByte l x + (if b = x then 1 else 0) := by
      intro x
      simp only [Lib.countByte, List.count_cons]
      by_cases hb : b = x <;> simp [hb]
    rw [e, e, List.length_cons, List.all_cons, List.any_cons]
    by_cases ha : b = 46
    · subst ha
      rw [if_pos rfl, if_neg (by decide)]
      refine ⟨by omega, ?_, by simp⟩
      rw [show isSign 46 = true from rfl, Bool.true_and, ← h2]
      omega
    · rw [if_neg ha, show (b == 46) = false by simpa using ha, Bool.false_or, ← h3]
      by_cases hb : b = 120
      · subst hb
        rw [if_pos rfl]
        refine ⟨by omega, ?_, by simp⟩
        rw [show isSign 120 = true from rfl, Bool.true_and, ← h2]
        omega
      · rw [if_neg hb]
        refine ⟨by omega, ?_, by simp⟩
        have : isSign b = false := by simp [isSign, ha, hb]
        rw [this]; simp; omega
theorem isLoss_eq (lost town : ByteArray) (h1 : lost.size ≤ 9223372036854775807) : GiIsLoss.P lost town = some (lossB lost town) := by
  obtain ⟨c1, c2, c3⟩ := count_split lost.toList
  have hsz := size_list lost
  have e1 : GxStringsCount.P lost ⟨#[46]⟩ = some (Lib.countByte lost.toList 46 : Int) := by rw [Lib.toList_data]; rfl
  have e2 : GxStringsCount.P lost ⟨#[120]⟩ = some (Lib.countByte lost.toList 120 : Int) := by rw [Lib.toList_data]; rfl
  have hw := wrap_in (x := (Lib.countByte lost.toList 46 : Int) + (Lib.countByte lost.toList 120 : Int)) (by omega) (by omega)
  simp only [GiIsLoss.P, e1, e2, hw, Option.bind_some, letK, joinK, appK, iteK_if, lossB]
  rw [hsz] at c2
  by_cases h3 : lost.size = town.size
  · rw [if_pos (by simp; omega)]
    by_cases h4 : 0 < Lib.countByte lost.toList 46
    · rw [decide_eq_true (show (0 : Int) < (Lib.countByte lost.toList 46 : Int) by omega), if_pos rfl, c3.1 h4, Bool.and_true, decide_eq_true h3, Bool.true_and]
      congr 1
      rw [Bool.eq_iff_iff, ← c2, beq_iff_eq]; omega
    · have : (lost.toList.any fun b => b == 46) = false := by rw [Bool.eq_false_iff]; exact fun h => h4 (c3.2 h)
      rw [decide_eq_false (show ¬ (0 : Int) < (Lib.countByte lost.toList 46 : Int) by omega), if_neg (by simp), this, Bool.and_false, Bool.and_false]
  · rw [if_neg (by simp; omega), decide_eq_false h3, Bool.false_and]; simp
theorem isDay_eq (n : Int) : GiIsDay.P n = some (inB n 0 4000) := by simp only [GiIsDay.P, within_eq, Option.bind_some]
theorem l2Day_eq (n : Int) : GsL2Day.P n = some (inB n 0 4000) := by simp only [GsL2Day.P, l1In_eq, Option.bind_some]
def okPm (p : Postmark) : Bool := inB p.id 1 999 && wordB p.town && inB p.kind_ 1 5 && inB p.first 0 4000 && inB p.last 0 4000 && decide (p.first ≤ p.last) && lossB p.lost p.town
theorem fits_sz {p : Postmark} (h : p.fits) : p.town.size ≤ 9223372036854775807 ∧ p.lost.size ≤ 9223372036854775807 := by
  obtain ⟨a, b, c, d, e, g⟩ := p
  obtain ⟨_, h1, _, _, _, h2⟩ := h
  unfold maxLen at h1 h2
  exact ⟨h1, h2⟩
theorem isPostmark_eq (p : Postmark) (h : p.lost.size ≤ 9223372036854775807) : GiIsPostmark.P p = some (okPm p) := by
  obtain ⟨a, b, c, d, e, g⟩ := p
  simp only [GiIsPostmark.P, unPostmark, isWord_eq, isDay_eq, isLoss_eq g b h, within_eq, Option.bind_some, letK, joinK, appK, iteK_if, okPm]
  cases inB a 1 999 <;> cases wordB b <;> cases inB c 1 5 <;> cases inB d 0 4000 <;> cases inB e 0 4000 <;> cases decide (d ≤ e) <;> simp
theorem l11One_eq (p : Postmark) (h : p.fits) (fuel : Nat) (hfu : 100 ≤ fuel) : GsL11One.P fuel p = some (okPm p) := by
  obtain ⟨hz, hzl⟩ := fits_sz h
  obtain ⟨a, b, c, d, e, g⟩ := p
  have hx : (inB e 0 4000 && inB d 0 e) = (inB d 0 4000 && inB e 0 4000 && decide (d ≤ e)) := by unfold inB; rw [Bool.eq_iff_iff]; simp; omega
  have hy : okPm ⟨a, b, c, d, e, g⟩ = (inB a 1 999 && wordB b && inB c 1 5 && (inB e 0 4000 && inB d 0 e) && lossB g b) := by rw [hx]; simp [okPm, Bool.and_assoc]
  rw [hy]
  simp only [GsL11One.P, unPostmark, l2Word_eq b hz, l2Day_eq, l1In_eq, Option.bind_some, letK, joinK, appK, iteK_if]
  cases inB a 1 999 with
  | false => simp
  | true =>
    cases hw : wordB b with
    | false => simp
    | true =>
      cases inB c 1 5 with
      | false => simp
      | true =>
        cases inB e 0 4000 with
        | false => simp
        | true =>
          cases inB d 0 e with
          | false => simp
          | true =>
            have hwl := word_len hw
            by_cases h3 : g.size = b.size
            · have hne : ((g.size : Int) != (b.size : Int)) = false := by simp; omega
              simp only [hne, Bool.not_true, Bool.false_eq_true, if_false, Bool.and_true, Bool.true_and, lossB, decide_eq_true h3]
              refine lp_is (n := g.size) _ (fun k (s : Bool × Int) => s = ((g.toList.take k).any (fun b => b == 46), (k : Int)) ∧ (g.toList.take k).all isSign = true) ?_ ?_ fuel 0 _ (by omega) (by omega) ⟨rfl, rfl⟩
              · rintro k s nx hk ⟨rfl, hall⟩ hn
                obtain ⟨y, hy, hi⟩ := at_lt (l := g.toList) (k := k) (by rw [size_list]; exact hk)
                have hw1 := wrap_in (x := (k : Int) + 1) (by omega) (by omega)
                have hany : (g.toList.take (k + 1)).any (fun b => b == 46) = ((g.toList.take k).any (fun b => b == 46) || (y == 46)) := by rw [take_next hy, List.any_append]; simp
                have e46 : ((y.toNat : Int) == 46) = (y == 46) := byte_eq y 46
                have n46 : ((y.toNat : Int) != 46) = !(y == 46) := by rw [← e46]; rfl
                have n120 : ((y.toNat : Int) != 120) = !(y == 120) := by rw [← byte_eq y 120]; rfl
                simp only [GsL11One.l0, unp2, letK, joinK, appK, iteK_if, hi, hw1, Option.bind_some, e46, n46, n120]
                rw [if_pos (by simp; omega)]
                cases hs : isSign y with
                | false =>
                  have h46 : (y == 46) = false := by unfold isSign at hs; simp only [Bool.or_eq_false_iff] at hs; exact hs.1
                  have h120 : (y == 120) = false := by unfold isSign at hs; simp only [Bool.or_eq_false_iff] at hs; exact hs.2
                  rw [not_all hy hs]
                  simp [h46, h120]
                | true =>
                  have hnn := hn ((g.toList.take (k + 1)).any (fun b => b == 46), ((k + 1 : Nat) : Int)) ⟨rfl, by rw [all_next hy, hall, hs]; rfl⟩
                  rw [hany, show ((k + 1 : Nat) : Int) = (k : Int) + 1 by omega] at hnn
                  have hsg : (!(y == 46) && !(y == 120)) = false := by unfold isSign at hs; cases h46 : (y == 46) <;> simp_all
                  cases h46 : (y == 46) with
                  | true =>
                    rw [h46] at hnn
                    cases hh : (g.toList.take k).any (fun b => b == 46) <;> simp_all
                  | false =>
                    rw [h46] at hnn
                    have h120 : (y == 120) = true := by rw [h46] at hsg; simpa using hsg
                    cases hh : (g.toList.take k).any (fun b => b == 46) <;> simp_all
              · rintro s nx ⟨rfl, hall⟩
                have hfull : g.toList.take g.size = g.toList := List.take_of_length_le (by rw [size_list]; exact Nat.le_refl _)
                rw [hfull] at hall
                simp only [GsL11One.l0, unp2, letK, iteK_if, appK, GsL11One.e0]
                rw [if_neg (by simp), hfull, hall]; simp
            · have hne : ((g.size : Int) != (b.size : Int)) = true := by simp; omega
              simp [hne, lossB, h3]
theorem okPm_of {p : Postmark} (h : okPm p = true) : (1 ≤ p.id ∧ p.id ≤ 999) ∧ wordB p.town = true ∧ (1 ≤ p.kind_ ∧ p.kind_ ≤ 5) ∧ (0 ≤ p.first ∧ p.first ≤ 4000) ∧ (0 ≤ p.last ∧ p.last ≤ 4000) ∧ p.first ≤ p.last ∧ lossB p.lost p.town = true := by
  unfold okPm at h
  simp only [Bool.and_eq_true, decide_eq_true_eq] at h
  obtain ⟨⟨⟨⟨⟨⟨h1, h2⟩, h3⟩, h4⟩, h5⟩, h6⟩, h7⟩ := h
  exact ⟨inB_of h1, h2, inB_of h3, inB_of h4, inB_of h5, h6, h7⟩
theorem okPm_size {p : Postmark} (h : okPm p = true) : p.lost.size = p.town.size ∧ 1 ≤ p.town.size ∧ p.town.size ≤ 10 := by
  obtain ⟨_, h2, _, _, _, _, h7⟩ := okPm_of h
  have := word_len h2
  unfold lossB at h7
  simp only [Bool.and_eq_true, decide_eq_true_eq] at h7
  exact ⟨h7.1, this⟩
end Go.Proofs.YtgimcnpkngpmiaaDoor.Q11Mark

/- Chapter 11: postmarks: the plain functions of the program and of the reference agree, and the laws answer true. (Q11Show) No condition but those of each theorem. -/
namespace Go.Proofs.YtgimcnpkngpmiaaDoor.Q11Show
set_option linter.unusedVariables false
set_option linter.unusedSimpArgs false
open Go.RowKit
open Go.Proofs.YtgimcnpkngpmiaaDoor.GoP Go.Proofs.YtgimcnpkngpmiaaDoor.PlainStamp Go.Proofs.YtgimcnpkngpmiaaDoor.QBase Go.Proofs.YtgimcnpkngpmiaaDoor.Q11Mark Go.Proofs.YtgimcnpkngpmiaaDoor.QUp Go.Proofs.YtgimcnpkngpmiaaDoor.QAll Go.Proofs.YtgimcnpkngpmiaaDoor.QByte Go.Proofs.YtgimcnpkngpmiaaDoor.QWord Go.Proofs.YtgimcnpkngpmiaaDoor.QLoop Go.Proofs.YtgimcnpkngpmiaaDoor.PPostmark

def sh (t b : UInt8) : UInt8 := if b = 120 then 63 else t
def shL (p : Postmark) : List UInt8 := List.zipWith sh p.town.toList p.lost.toList
def shown (p : Postmark) : ByteArray := bs (shL p)
theorem shL_at {p : Postmark} {k : Nat} {t b : UInt8} (ht : p.town.toList[k]? = some t) (hb : p.lost.toList[k]? = some b) : (shL p)[k]? = some (sh t b) := by
  unfold shL; rw [List.getElem?_zipWith, ht, hb]
theorem shL_len {p : Postmark} (h : p.lost.size = p.town.size) : (shL p).length = p.town.size := by
  unfold shL; rw [List.length_zipWith, toList_size, toList_size]; omega
theorem shown_size {p : Postmark} (h : p.lost.size = p.town.size) : (shown p).size = p.town.size := by unfold shown; rw [bs_size, shL_len h]
theorem strK_toI (l : List UInt8) : Go.Proofs.YtgimcnpkngpmiaaDoor.GoB.strK (toI l) = bs l := by
  unfold Go.Proofs.YtgimcnpkngpmiaaDoor.GoB.strK toI bs
  rw [List.map_map]
  have : ((fun z : Int => UInt8.ofNat z.toNat) ∘ fun b : UInt8 => (b.toNat : Int)) = id := by
    funext b; simp
  rw [this, List.map_id]
theorem shown_impl {p : Postmark} (h : p.lost.size = p.town.size) (h10 : p.town.size ≤ 1000) : GiLoShownBy.P p = some (shown p) := by
  obtain ⟨q, hq⟩ : ∃ q, p = q := ⟨_, rfl⟩
  obtain ⟨a, b, c, d, e, g⟩ := p
  dsimp only at h h10
  simp only [GiLoShownBy.P, unPostmark, letK]
  rw [guardK_pos (by omega), List.length_map, toList_size]
  refine cnt_is _ (fun k s => s = toI ((shL ⟨a, b, c, d, e, g⟩).take k ++ b.toList.drop k)) ?_ ?_ _ (by simp [toI])
  · intro k s nx hk hI hn
    obtain ⟨t, ht, _⟩ := at_lt (l := b.toList) (k := k) (by rw [toList_size]; omega)
    obtain ⟨y, hy, hyi⟩ := at_lt (l := g.toList) (k := k) (by rw [toList_size]; omega)
    have hs := shL_at (p := ⟨a, b, c, d, e, g⟩) ht hy
    have hlen := shL_len (p := ⟨a, b, c, d, e, g⟩) h
    dsimp only at hlen
    obtain ⟨hk1, e1⟩ := List.getElem?_eq_some_iff.1 ht
    have hdrop : b.toList.drop k = t :: b.toList.drop (k + 1) := by rw [List.drop_eq_getElem_cons hk1, e1]
    rw [hdrop] at hI
    have hl1 : (toI ((shL ⟨a, b, c, d, e, g⟩).take k)).length = k := by unfold toI; rw [List.length_map, List.length_take]; omega
    have hI' : s = toI ((shL ⟨a, b, c, d, e, g⟩).take k) ++ ((t.toNat : Int) :: toI (b.toList.drop (k + 1))) := by rw [hI]; simp [toI]
    have e120 : ((y.toNat : Int) == 120) = (y == 120) := byte_eq y 120
    simp only [GiLoShownBy.l0, letK, hyi, Option.bind_some, iteK_if, e120]
    cases h120 : (y == 120) with
    | true =>
      have hat : idx s (k : Int) = some (t.toNat : Int) := by rw [idx_nat, hI', List.getElem?_append_right (by omega), hl1]; simp
      rw [if_pos rfl]
      simp only [hat, Option.bind_some, appK]
      refine hn _ ?_
      rw [hI', List.set_append_right _ _ (by omega), hl1, take_next hs]
      have : sh t y = 63 := by unfold sh; rw [if_pos (by simpa using h120)]
      rw [this]; simp [toI]
    | false =>
      rw [if_neg (by simp)]
      simp only [appK]
      refine hn _ ?_
      rw [hI, take_next hs]
      have : sh t y = t := by unfold sh; rw [if_neg (by simpa using h120)]
      rw [this]; simp
  · intro s hI
    have hlen := shL_len (p := ⟨a, b, c, d, e, g⟩) h
    dsimp only at hlen
    rw [List.take_of_length_le (by omega), List.drop_of_length_le (by rw [toList_size]; omega), List.append_nil] at hI
    simp only [GiLoShownBy.e0, letK, hI, strK_toI]; rfl
theorem shown_spec {p : Postmark} (h : p.lost.size = p.town.size) (h10 : p.town.size ≤ 10) (fuel : Nat) (hfu : 100 ≤ fuel) : GsL11Shown.P fuel p = some (shown p) := by
  obtain ⟨a, b, c, d, e, g⟩ := p
  dsimp only at h h10
  have hlen := shL_len (p := ⟨a, b, c, d, e, g⟩) h
  dsimp only at hlen
  simp only [GsL11Shown.P, unPostmark]
  refine lp_is (n := b.size) _ (fun k (s : ByteArray × Int) => s = (bs ((shL ⟨a, b, c, d, e, g⟩).take k), (k : Int))) ?_ ?_ fuel 0 _ (by omega) (by omega) rfl
  · rintro k s nx hk rfl hn
    obtain ⟨t, ht, _⟩ := at_lt (l := b.toList) (k := k) (by rw [toList_size]; omega)
    obtain ⟨y, hy, hyi⟩ := at_lt (l := g.toList) (k := k) (by rw [toList_size]; omega)
    have hs := shL_at (p := ⟨a, b, c, d, e, g⟩) ht hy
    have e120 : ((y.toNat : Int) == 120) = (y == 120) := byte_eq y 120
    have hw1 := wrap_in (x := (k : Int) + 1) (by omega) (by omega)
    have hsz : (bs ((shL ⟨a, b, c, d, e, g⟩).take k)).size ≤ 10 := by rw [bs_size, List.length_take]; omega
    simp only [GsL11Shown.l0, unp2, letK, hyi, Option.bind_some, iteK_if, e120, hw1, appK]
    rw [if_pos (by simp; omega)]
    cases h120 : (y == 120) with
    | true =>
      have hone : (⟨#[63]⟩ : ByteArray).size = 1 := rfl
      rw [if_pos rfl, guardK_pos (by rw [hone]; unfold maxLen; omega)]
      refine hn _ ?_
      have : sh t y = 63 := by unfold sh; rw [if_pos (by simpa using h120)]
      rw [take_next hs, this, ← bs_app]; rfl
    | false =>
      have hex : b.extract k (k + 1) = bs [t] := by
        have h1 : (bs b.toList).extract k (k + 1) = bs [t] := by
          rw [bs_cut, take_next ht, List.drop_left' (by rw [List.length_take, toList_size]; omega)]
        rw [bs_of] at h1; exact h1
      rw [if_neg (by simp), guardK_pos (by omega), show Int.toNat (k : Int) = k by omega, show Int.toNat ((k : Int) + 1) = k + 1 by omega, hex]
      have hone : (bs [t]).size = 1 := bs_size _
      rw [guardK_pos (by rw [hone]; unfold maxLen; omega), bs_app]
      refine hn _ ?_
      have : sh t y = t := by unfold sh; rw [if_neg (by simpa using h120)]
      rw [take_next hs, this]; rfl
  · rintro s nx rfl
    simp only [GsL11Shown.l0, unp2, letK, iteK_if, appK, GsL11Shown.e0]
    rw [if_neg (by simp), List.take_of_length_le (by omega)]; rfl
def shownRes (p : Postmark) : ByteArray × Bool := if okPm p = true then (shown p, true) else (⟨#[]⟩, false)
end Go.Proofs.YtgimcnpkngpmiaaDoor.Q11Show

/- Chapter 11: postmarks: the plain functions of the program and of the reference agree, and the laws answer true. (Q11ShownBy) No condition but those of each theorem. -/
namespace Go.Proofs.YtgimcnpkngpmiaaDoor.Q11ShownBy
set_option linter.unusedVariables false
set_option linter.unusedSimpArgs false
open Go.RowKit
open Go.Proofs.YtgimcnpkngpmiaaDoor.GoP Go.Proofs.YtgimcnpkngpmiaaDoor.PlainStamp Go.Proofs.YtgimcnpkngpmiaaDoor.QBase Go.Proofs.YtgimcnpkngpmiaaDoor.Q11Show Go.Proofs.YtgimcnpkngpmiaaDoor.Q11Mark Go.Proofs.YtgimcnpkngpmiaaDoor.QLoop Go.Proofs.YtgimcnpkngpmiaaDoor.PPostmark

theorem shownBy_impl (p : Postmark) (h : p.lost.size ≤ 9223372036854775807) : GiShownBy.P p = some (shownRes p) := by
  have h1 := isPostmark_eq p h
  unfold shownRes
  cases hc : okPm p with
  | false =>
    rw [hc] at h1
    obtain ⟨a, b, c, d, e, g⟩ := p
    simp [GiShownBy.P, unPostmark, h1, letK, iteK_if]
  | true =>
    rw [hc] at h1
    have hz := okPm_size hc
    have h2 := shown_impl hz.1 (by omega)
    obtain ⟨a, b, c, d, e, g⟩ := p
    simp [GiShownBy.P, unPostmark, h1, h2, letK, iteK_if]
theorem shownBy_spec (p : Postmark) (h : p.fits) (fuel : Nat) (hfu : 100 ≤ fuel) : GsShownBy.P fuel p = some (shownRes p) := by
  have h1 := l11One_eq p h fuel hfu
  unfold shownRes
  cases hc : okPm p with
  | false =>
    rw [hc] at h1
    obtain ⟨a, b, c, d, e, g⟩ := p
    simp [GsShownBy.P, unPostmark, h1, letK, iteK_if]
  | true =>
    rw [hc] at h1
    have hz := okPm_size hc
    have h2 := shown_spec hz.1 (by omega) fuel hfu
    obtain ⟨a, b, c, d, e, g⟩ := p
    simp [GsShownBy.P, unPostmark, h1, h2, letK, iteK_if]
end Go.Proofs.YtgimcnpkngpmiaaDoor.Q11ShownBy

/- Draws on tapes: each gives something within its bounds. (QDraw) No condition but those of each theorem. -/
namespace Go.Proofs.YtgimcnpkngpmiaaDoor.QDraw
set_option linter.unusedVariables false
set_option linter.unusedSimpArgs false
open Go.RowKit
open Go.Proofs.YtgimcnpkngpmiaaDoor.GoP Go.Proofs.YtgimcnpkngpmiaaDoor.PlainStamp Go.Proofs.YtgimcnpkngpmiaaDoor.QBase Go.Proofs.YtgimcnpkngpmiaaDoor.QLoop

/-- a tape that may be asked m times more -/
def good (t : GoC.Tape) (m : Nat) : Prop := m ≤ t.left ∧ ∀ i, 0 ≤ t.vals i ∧ t.vals i ≤ 255
theorem good_less {t : GoC.Tape} {m n : Nat} (h : good t m) (hn : n ≤ m) : good t n := ⟨Nat.le_trans hn h.1, h.2⟩
theorem good_of {tapes : List Int → GoC.Tape} (h : GoC.Tells tapes) (code : List Int) {m : Nat} (hm : m ≤ 4611686018427387904) : good (tapes code) m := ⟨by rw [h.1]; exact hm, h.2.1 code⟩
theorem next_ok {t : GoC.Tape} {m : Nat} (h : good t (m + 1)) : ∃ b t', GsL1CurNext.P t = some (b, t') ∧ (0 ≤ b ∧ b ≤ 255) ∧ good t' m := by
  unfold GsL1CurNext.P
  rw [if_pos (by have := h.1; omega)]
  exact ⟨_, _, rfl, h.2 0, by have := h.1; show m ≤ t.left - 1; omega, fun i => h.2 (i + 1)⟩
theorem pick_ok {t : GoC.Tape} {m : Nat} {n : Int} (h : good t (m + 2)) : ∃ x t', GsL1CurPick.P t n = some (x, t') ∧ 0 ≤ x ∧ (x < n ∨ n ≤ 1 ∧ x = 0) ∧ x ≤ 65535 ∧ good t' m := by
  simp only [GsL1CurPick.P, letK, iteK_if]
  by_cases hn : n ≤ 1
  · rw [if_pos (by simpa using hn)]
    exact ⟨0, t, rfl, by omega, by omega, by omega, good_less h (by omega)⟩
  · rw [if_neg (by simpa using hn)]
    obtain ⟨b, t1, e1, hb, h1⟩ := next_ok (m := m + 1) h
    rw [e1]
    simp only [bind2_some]
    by_cases h2 : 200 < n
    · rw [if_pos (by simpa using h2)]
      obtain ⟨b2, t2, e2, hb2, h3⟩ := next_ok (m := m) h1
      rw [e2]
      simp only [bind2_some, GsL1CurPick.j0, unp2, letK]
      rw [guardK_pos (by omega), wrap_in (x := b * 256) (by omega) (by omega), wrap_in (by omega) (by omega), Int.tmod_eq_emod_of_nonneg (by omega)]
      have k1 := Int.emod_nonneg (b * 256 + b2) (show n ≠ 0 by omega)
      have k2 := Int.emod_lt_of_pos (b * 256 + b2) (show 0 < n by omega)
      have k3 : (b * 256 + b2) % n ≤ 65535 := by
        by_cases hq : n ≤ 65536
        · omega
        · rw [Int.emod_eq_of_lt (by omega) (by omega)]; omega
      exact ⟨_, _, rfl, k1, .inl k2, by omega, h3⟩
    · rw [if_neg (by simpa using h2)]
      simp only [GsL1CurPick.j0, unp2, letK]
      rw [guardK_pos (by omega), Int.tmod_eq_emod_of_nonneg (by omega)]
      have k1 := Int.emod_nonneg b (show n ≠ 0 by omega)
      have k2 := Int.emod_lt_of_pos b (show 0 < n by omega)
      exact ⟨_, _, rfl, k1, .inl k2, by omega, good_less h1 (by omega)⟩
theorem among_ok {t : GoC.Tape} {m : Nat} {l : List Int} (h : good t (m + 2)) (h0 : 0 < l.length) : ∃ x t', GsL1CurAmong.P t l = some (x, t') ∧ x ∈ l ∧ good t' m := by
  obtain ⟨x, t', e, hx0, hx, _, hg⟩ := pick_ok (n := (l.length : Int)) h
  simp only [GsL1CurAmong.P, e, bind2_some]
  obtain ⟨y, hy, hyi⟩ := at_lt (l := l) (k := x.toNat) (by omega)
  rw [show ((x.toNat : Nat) : Int) = x by omega] at hyi
  exact ⟨y, t', by rw [hyi]; rfl, List.mem_of_getElem? hy, hg⟩
theorem one_ok {t : GoC.Tape} {m : Nat} {n : Int} (h : good t (m + 2)) : ∃ b t', GsL1CurOne.P t n = some (b, t') ∧ good t' m := by
  obtain ⟨x, t', e, _, _, _, hg⟩ := pick_ok (n := n) h
  exact ⟨x == 0, t', by simp only [GsL1CurOne.P, e, bind2_some, letK], hg⟩
end Go.Proofs.YtgimcnpkngpmiaaDoor.QDraw

/- Chapter 11: postmarks: the plain functions of the program and of the reference agree, and the laws answer true. (Q11Help) No condition but those of each theorem. -/
namespace Go.Proofs.YtgimcnpkngpmiaaDoor.Q11Help
set_option linter.unusedVariables false
set_option linter.unusedSimpArgs false
open Go.RowKit
open Go.Proofs.YtgimcnpkngpmiaaDoor.GoP Go.Proofs.YtgimcnpkngpmiaaDoor.PlainStamp Go.Proofs.YtgimcnpkngpmiaaDoor.QBase Go.Proofs.YtgimcnpkngpmiaaDoor.QLoop Go.Proofs.YtgimcnpkngpmiaaDoor.PPostmark

theorem most_eq (a b : Int) : GsL1Most.P a b = some (max a b) := by
  simp only [GsL1Most.P, letK, iteK_if]
  by_cases h : b < a
  · rw [if_pos (by simpa using h)]; congr 1; omega
  · rw [if_neg (by simpa using h)]; congr 1; omega
theorem least_eq (a b : Int) : GsL1Least.P a b = some (min a b) := by
  simp only [GsL1Least.P, letK, iteK_if]
  by_cases h : a < b
  · rw [if_pos (by simpa using h)]; congr 1; omega
  · rw [if_neg (by simpa using h)]; congr 1; omega
theorem clone_eq {l : List Postmark} (h : l.length ≤ 1000000) : GxSlicesCloneLoopExampleG01062ImplPostmarkLoopExampleG01062ImplPostmark.P l = some l := by
  simp only [GxSlicesCloneLoopExampleG01062ImplPostmarkLoopExampleG01062ImplPostmark.P, Go.Proofs.YtgimcnpkngpmiaaDoor.GoK.nilK, iteK_if, letK]
  rw [if_neg (by simp), guardK_pos (by simp; omega)]; simp
end Go.Proofs.YtgimcnpkngpmiaaDoor.Q11Help

/- What the named laws of postmarks draw: the draws answer, within bounds. (Q11Draws) No condition but those of each theorem. -/
namespace Go.Proofs.YtgimcnpkngpmiaaDoor.Q11Draws
set_option linter.unusedVariables false
set_option linter.unusedSimpArgs false
open Go.RowKit
open Go.Proofs.YtgimcnpkngpmiaaDoor.GoP Go.Proofs.YtgimcnpkngpmiaaDoor.PlainStamp Go.Proofs.YtgimcnpkngpmiaaDoor.QBase Go.Proofs.YtgimcnpkngpmiaaDoor.QDraw Go.Proofs.YtgimcnpkngpmiaaDoor.QUp Go.Proofs.YtgimcnpkngpmiaaDoor.QAll Go.Proofs.YtgimcnpkngpmiaaDoor.QByte Go.Proofs.YtgimcnpkngpmiaaDoor.Q11Help Go.Proofs.YtgimcnpkngpmiaaDoor.QLoop Go.Proofs.YtgimcnpkngpmiaaDoor.PPostmark

def smP (x : Postmark) : Prop := (-100000 ≤ x.id ∧ x.id ≤ 100000) ∧ x.town.size ≤ 20 ∧ (-100 ≤ x.kind_ ∧ x.kind_ ≤ 100) ∧ (-10000 ≤ x.first ∧ x.first ≤ 10000) ∧ (-10000 ≤ x.last ∧ x.last ≤ 10000) ∧ x.lost.size ≤ 40
theorem wf_sm {n : Int} (h1 : -100000 ≤ n) (h2 : n ≤ 100000) : (Lit.int .i64 n).wf = true := by
  simp only [Lit.wf, Bool.and_eq_true, decide_eq_true_eq]
  exact ⟨by show (-9223372036854775808 : Int) ≤ n; omega, by show n ≤ (9223372036854775807 : Int); omega⟩
theorem smP_fits {x : Postmark} (h : smP x) : x.fits := by
  obtain ⟨h1, h2, h3, h4, h5, h6⟩ := h
  exact ⟨wf_sm (by omega) (by omega), by unfold maxLen; omega, wf_sm (by omega) (by omega), wf_sm (by omega) (by omega), wf_sm (by omega) (by omega), by unfold maxLen; omega⟩
theorem of_ok {t : GoC.Tape} {m : Nat} {l : List ByteArray} (h : good t (m + 2)) (h0 : 0 < l.length) (h1 : l.length ≤ 1000) : ∃ x t', GsL1CurOf.P t l = some (x, t') ∧ x ∈ l ∧ good t' m := by
  obtain ⟨q, t1, e1, hq0, hq, _, hg⟩ := pick_ok (n := (l.length : Int)) (m := m) h
  obtain ⟨x, hx, _⟩ := at_lt (l := l) (k := q.toNat) (by omega)
  have hi : idx l q = some x := by rw [show q = ((q.toNat : Nat) : Int) by omega, idx_nat, hx]
  exact ⟨x, t1, by simp only [GsL1CurOf.P, e1, bind2_some, hi, Option.bind_some], List.mem_of_getElem? hx, hg⟩
theorem town_ok {t : GoC.Tape} {m : Nat} (h : good t (m + 2)) : ∃ x t', GsL1CurTown11.P t = some (x, t') ∧ x.size ≤ 5 ∧ good t' m := by
  obtain ⟨x, t1, e1, hx, hg⟩ := of_ok (l := [(⟨#[98, 97, 115, 101, 108]⟩ : ByteArray), (⟨#[98, 101, 114, 110]⟩ : ByteArray), (⟨#[98, 111, 110, 110]⟩ : ByteArray), (⟨#[103, 101, 110, 102]⟩ : ByteArray), (⟨#[98, 97, 115, 101, 108]⟩ : ByteArray)]) (m := m) h (by simp) (by simp)
  refine ⟨x, t1, by simp only [GsL1CurTown11.P, letK, e1, bind2_some], ?_, hg⟩
  simp only [List.mem_cons, List.not_mem_nil, or_false] at hx
  rcases hx with rfl | rfl | rfl | rfl | rfl <;> decide
abbrev St11 := Int × Int × ByteArray × Int × Int × Int × ByteArray × GoC.Tape
theorem end11 {m : Nat} (id k f la : Int) (tw lo : ByteArray) (i : Int) (hid : -90000 ≤ id ∧ id ≤ 90000) (hk : 0 ≤ k ∧ k ≤ 10) (hf : 0 ≤ f ∧ f ≤ 4000) (hla : 0 ≤ la ∧ la ≤ 8000) (htw : tw.size ≤ 5) (hlo : lo.size ≤ 5) {c : GoC.Tape} (h : good c (m + 4)) :
    ∃ r, GsL1CurPostmark11.e0 (i, id, tw, k, f, la, lo, c) = some r ∧ smP r.1 ∧ good r.2 m := by
  obtain ⟨p, t1, e1, hp0, hp, _, h1⟩ := pick_ok (n := 100) (m := m + 2) h
  have hw := wrap_in (x := la + 1) (by omega) (by omega)
  simp only [GsL1CurPostmark11.e0, unp8, e1, bind2_some, letK, iteK_if, hw]
  have base : smP ⟨id, tw, k, f, la, lo⟩ := ⟨⟨by dsimp only; omega, by dsimp only; omega⟩, by dsimp only; omega, ⟨by dsimp only; omega, by dsimp only; omega⟩, ⟨by dsimp only; omega, by dsimp only; omega⟩, ⟨by dsimp only; omega, by dsimp only; omega⟩, by dsimp only; omega⟩
  by_cases q0 : p = 0
  · obtain ⟨x, t2, e2, hx, h2⟩ := among_ok (l := [0, 999, 1000]) (m := m) h1 (by simp)
    simp only [List.mem_cons, List.not_mem_nil, or_false] at hx
    rw [if_pos (by simpa using q0), e2]
    exact ⟨_, rfl, ⟨⟨by dsimp only; omega, by dsimp only; omega⟩, base.2⟩, h2⟩
  rw [if_neg (by simpa using q0)]
  by_cases q1 : p = 1
  · obtain ⟨x, t2, e2, hx, h2⟩ := of_ok (l := [(⟨#[]⟩ : ByteArray), (⟨#[66, 101, 114, 110]⟩ : ByteArray), (⟨#[97, 98, 99, 100, 101, 102, 103, 104, 105, 106, 107]⟩ : ByteArray)]) (m := m) h1 (by simp) (by simp)
    simp only [List.mem_cons, List.not_mem_nil, or_false] at hx
    have hxs : x.size ≤ 20 := by rcases hx with rfl | rfl | rfl <;> decide
    rw [if_pos (by simpa using q1), e2]
    exact ⟨_, rfl, ⟨base.1, hxs, base.2.2⟩, h2⟩
  rw [if_neg (by simpa using q1)]
  by_cases q2 : p = 2
  · obtain ⟨x, t2, e2, hx, h2⟩ := among_ok (l := [0, 6]) (m := m) h1 (by simp)
    simp only [List.mem_cons, List.not_mem_nil, or_false] at hx
    rw [if_pos (by simpa using q2), e2]
    exact ⟨_, rfl, ⟨base.1, base.2.1, ⟨by dsimp only; omega, by dsimp only; omega⟩, base.2.2.2⟩, h2⟩
  rw [if_neg (by simpa using q2)]
  by_cases q3 : p = 3
  · obtain ⟨x, t2, e2, hx, h2⟩ := among_ok (l := [(-1), la + 1]) (m := m) h1 (by simp)
    simp only [List.mem_cons, List.not_mem_nil, or_false] at hx
    rw [if_pos (by simpa using q3), e2]
    exact ⟨_, rfl, ⟨base.1, base.2.1, base.2.2.1, ⟨by dsimp only; omega, by dsimp only; omega⟩, base.2.2.2.2⟩, h2⟩
  rw [if_neg (by simpa using q3)]
  by_cases q4 : p = 4
  · rw [if_pos (by simpa using q4)]
    exact ⟨_, rfl, ⟨base.1, base.2.1, base.2.2.1, base.2.2.2.1, ⟨by dsimp only; omega, by dsimp only; omega⟩, base.2.2.2.2.2⟩, good_less h1 (by omega)⟩
  rw [if_neg (by simpa using q4)]
  by_cases q5 : p = 5
  · obtain ⟨x, t2, e2, hx, h2⟩ := of_ok (l := [(⟨#[]⟩ : ByteArray), (⟨#[120, 120, 120, 120]⟩ : ByteArray), (⟨#[46, 46, 63, 46]⟩ : ByteArray), (⟨#[46, 46, 46, 46, 46]⟩ : ByteArray)]) (m := m) h1 (by simp) (by simp)
    simp only [List.mem_cons, List.not_mem_nil, or_false] at hx
    have hxs : x.size ≤ 40 := by rcases hx with rfl | rfl | rfl | rfl <;> decide
    rw [if_pos (by simpa using q5), e2]
    exact ⟨_, rfl, ⟨base.1, base.2.1, base.2.2.1, base.2.2.2.1, base.2.2.2.2.1, hxs⟩, h2⟩
  rw [if_neg (by simpa using q5)]
  exact ⟨_, rfl, base, good_less h1 (by omega)⟩
theorem mark11_ok {fuel : Nat} (hf : 1048577 ≤ fuel) {t : GoC.Tape} {m : Nat} (id : Int) (hid : -90000 ≤ id ∧ id ≤ 90000) (h : good t (m + 40)) : ∃ x t', GsL1CurPostmark11.P fuel t id = some (x, t') ∧ smP x ∧ good t' m := by
  obtain ⟨tw, t1, e1, htw, h1⟩ := town_ok (m := m + 38) h
  obtain ⟨k, t2, e2, hk0, hk, _, h2⟩ := pick_ok (n := 5) (m := m + 36) h1
  obtain ⟨f, t3, e3, hfm, h3⟩ := among_ok (l := [0, 100, 100, 200, 3990]) (m := m + 34) h2 (by simp)
  obtain ⟨a, t4, e4, ham, h4⟩ := among_ok (l := [0, 10, 99, 100, 4000]) (m := m + 32) h3 (by simp)
  simp only [List.mem_cons, List.not_mem_nil, or_false] at hfm ham
  have w1 := wrap_in (x := 1 + k) (by omega) (by omega)
  have w2 := wrap_in (x := f + a) (by omega) (by omega)
  simp only [GsL1CurPostmark11.P, letK, e1, e2, e3, e4, bind2_some, w1, w2, least_eq, Option.bind_some]
  obtain ⟨r, hr, hs, hg⟩ : ∃ r, loopK GsL1CurPostmark11.l0 fuel (0, id, tw, 1 + k, f, min 4000 (f + a), (⟨#[]⟩ : ByteArray), t4) GsL1CurPostmark11.e0 = some r ∧ smP r.1 ∧ good r.2 m := by
    refine lp_ex (Q := fun r : Postmark × GoC.Tape => smP r.1 ∧ good r.2 m) (n := tw.size) (fun j (s : St11) => ∃ lo c, s = ((j : Int), id, tw, 1 + k, f, min 4000 (f + a), lo, c) ∧ lo.size = j ∧ good c (m + 32 - 2 * j)) ?_ ?_ fuel 0 _ (by omega) (by omega) ⟨_, _, rfl, rfl, h4⟩
    · rintro j s nx hj ⟨lo, c, rfl, hlo, hgc⟩ hn
      have wj := wrap_in (x := (j : Int) + 1) (by omega) (by omega)
      have z1 : (⟨#[120]⟩ : ByteArray).size = 1 := rfl
      have z2 : (⟨#[46]⟩ : ByteArray).size = 1 := rfl
      have fin : ∀ (b : Bool) (c1 : GoC.Tape), good c1 (m + 32 - 2 * (j + 1)) → ∃ r, GsL1CurPostmark11.q0 nx (j : Int) id tw (1 + k) f (min 4000 (f + a)) lo (b, c1) = some r ∧ smP r.1 ∧ good r.2 m := by
        intro b c1 hc1
        simp only [GsL1CurPostmark11.q0, unp2, letK, iteK_if, wj, appK]
        cases b with
        | true =>
          rw [if_pos rfl, guardK_pos (by rw [z1]; unfold maxLen; omega)]
          exact hn _ ⟨_, _, by rw [show ((j + 1 : Nat) : Int) = (j : Int) + 1 by omega], by rw [ByteArray.size_append, z1]; omega, hc1⟩
        | false =>
          rw [if_neg (by simp), guardK_pos (by rw [z2]; unfold maxLen; omega)]
          exact hn _ ⟨_, _, by rw [show ((j + 1 : Nat) : Int) = (j : Int) + 1 by omega], by rw [ByteArray.size_append, z2]; omega, hc1⟩
      simp only [GsL1CurPostmark11.l0, unp8, letK, iteK_if]
      rw [if_pos (by simp; omega)]
      by_cases h0 : 0 < (j : Int)
      · obtain ⟨b, c1, eb, hc1⟩ := one_ok (n := 4) (m := m + 32 - 2 * (j + 1)) (good_less hgc (by omega))
        simp only [decide_eq_true h0, joinK, appK, if_true, eb, bind2_some, unp2]
        exact fin b c1 hc1
      · simp only [decide_eq_false h0, joinK, appK, Bool.false_eq_true, if_false, unp2]
        exact fin false c (good_less hgc (by omega))
    · rintro s nx ⟨lo, c, rfl, hlo, hgc⟩
      simp only [GsL1CurPostmark11.l0, unp8, letK, iteK_if, appK]
      rw [if_neg (by simp)]
      exact end11 id (1 + k) f (min 4000 (f + a)) tw lo _ hid (by omega) (by omega) (by omega) htw (by omega) (good_less hgc (by omega))
  exact ⟨r.1, r.2, hr, hs, hg⟩
end Go.Proofs.YtgimcnpkngpmiaaDoor.Q11Draws

/- What the named laws of postmarks draw: the draws answer, within bounds. (Q11DrawsL) No condition but those of each theorem. -/
namespace Go.Proofs.YtgimcnpkngpmiaaDoor.Q11DrawsL
set_option linter.unusedVariables false
set_option linter.unusedSimpArgs false
open Go.RowKit
open Go.Proofs.YtgimcnpkngpmiaaDoor.GoP Go.Proofs.YtgimcnpkngpmiaaDoor.PlainStamp Go.Proofs.YtgimcnpkngpmiaaDoor.QBase Go.Proofs.YtgimcnpkngpmiaaDoor.Q11Draws Go.Proofs.YtgimcnpkngpmiaaDoor.QDraw Go.Proofs.YtgimcnpkngpmiaaDoor.QUp Go.Proofs.YtgimcnpkngpmiaaDoor.QAll Go.Proofs.YtgimcnpkngpmiaaDoor.QByte Go.Proofs.YtgimcnpkngpmiaaDoor.Q11Help Go.Proofs.YtgimcnpkngpmiaaDoor.QLoop Go.Proofs.YtgimcnpkngpmiaaDoor.PPostmark

abbrev Re11 := List Postmark × GoC.Tape
def smL (l : List Postmark) : Prop := l.length ≤ 30 ∧ ∀ x ∈ l, smP x
theorem more11 {fuel : Nat} (hf : 1048577 ≤ fuel) {m : Nat} (e : List Postmark × Int × GoC.Tape → Option Re11) (he : ∀ o n c, smL o → good c m → ∃ r, e (o, n, c) = some r ∧ smL r.1 ∧ good r.2 m) {c : GoC.Tape} (h : good c (m + 40)) :
    ∃ r, loopK GsL1CurPostmarks11.l1 fuel ([], 0, c) e = some r ∧ smL r.1 ∧ good r.2 m := by
  refine lp_ex (Q := fun r : Re11 => smL r.1 ∧ good r.2 m) (n := 13) (fun k (s : List Postmark × Int × GoC.Tape) => s.2.1 = (k : Int) ∧ s.1.length = k ∧ (∀ x ∈ s.1, smP x) ∧ good s.2.2 (m + 40 - 2 * k)) ?_ ?_ fuel 0 _ (by omega) (by omega) ⟨rfl, rfl, by simp, h⟩
  · rintro k ⟨o, n, c⟩ nx hk ⟨h1, h2, h3, h4⟩ hn
    dsimp only at h1 h2 h3 h4
    subst h1
    obtain ⟨x, c1, e1, hx0, hx, _, hg⟩ := pick_ok (n := 2) (m := m + 40 - 2 * (k + 1)) (good_less h4 (by omega))
    have w1 := wrap_in (x := 12 + x) (by omega) (by omega)
    have w2 := wrap_in (x := (k : Int) + 1) (by omega) (by omega)
    have w3 := wrap_in (x := 20 * (k : Int)) (by omega) (by omega)
    have w4 := wrap_in (x := 20 * (k : Int) + 10) (by omega) (by omega)
    simp only [GsL1CurPostmarks11.l1, unp3, e1, bind2_some, letK, iteK_if, w1, w2, w3, w4, appK]
    by_cases hc : (k : Int) < 12 + x
    · rw [if_pos (by simpa using hc), guardK_pos (by omega)]
      refine hn _ ⟨by dsimp only; omega, by simp [h2], ?_, hg⟩
      intro y hy
      dsimp only at hy
      rcases List.mem_append.1 hy with hy | hy
      · exact h3 y hy
      · rw [List.mem_singleton] at hy
        subst hy
        exact ⟨⟨by dsimp only; omega, by dsimp only; omega⟩, by show (4 : Nat) ≤ 20; omega, ⟨by dsimp only; omega, by dsimp only; omega⟩, ⟨by dsimp only; omega, by dsimp only; omega⟩, ⟨by dsimp only; omega, by dsimp only; omega⟩, by show (4 : Nat) ≤ 40; omega⟩
    · rw [if_neg (by simpa using hc)]
      exact he _ _ _ ⟨by omega, h3⟩ (good_less hg (by omega))
  · rintro ⟨o, n, c⟩ nx ⟨h1, h2, h3, h4⟩
    dsimp only at h1 h2 h3 h4
    subst h1
    obtain ⟨x, c1, e1, hx0, hx, _, hg⟩ := pick_ok (n := 2) (m := m) (good_less h4 (by omega))
    have w1 := wrap_in (x := 12 + x) (by omega) (by omega)
    simp only [GsL1CurPostmarks11.l1, unp3, e1, bind2_some, letK, iteK_if, w1, appK]
    rw [if_neg (by simp; omega)]
    exact he _ _ _ ⟨by omega, h3⟩ hg
theorem marks11_ok {fuel : Nat} (hf : 1048577 ≤ fuel) {t : GoC.Tape} {m : Nat} (h : good t (m + 500)) : ∃ l t', GsL1CurPostmarks11.P fuel t = some (l, t') ∧ smL l ∧ good t' m := by
  obtain ⟨p, t1, e1, hp0, hp, _, h1⟩ := pick_ok (n := 8) (m := m + 498) h
  simp only [GsL1CurPostmarks11.P, e1, bind2_some]
  obtain ⟨r, hr, hs, hg⟩ : ∃ r, loopK (GsL1CurPostmarks11.l0 fuel) fuel (([] : List Postmark), 0, p, t1) (GsL1CurPostmarks11.e0 t fuel p t1) = some r ∧ smL r.1 ∧ good r.2 m := by
    refine lp_ex (Q := fun r : Re11 => smL r.1 ∧ good r.2 m) (n := p.toNat) (fun k (s : List Postmark × Int × Int × GoC.Tape) => s.2.2.1 = p - (k : Int) ∧ (-10 * (k : Int) ≤ s.2.1 ∧ s.2.1 ≤ 10 * (k : Int)) ∧ s.1.length = k ∧ (∀ x ∈ s.1, smP x) ∧ good s.2.2.2 (m + 498 - 44 * k)) ?_ ?_ fuel 0 _ (by omega) (by omega) ⟨by simp, by simp, rfl, by simp, h1⟩
    · rintro k ⟨o, id, n, c⟩ nx hk ⟨h2, h3, h4, h5, h6⟩ hn
      dsimp only at h2 h3 h4 h5 h6
      obtain ⟨x, c1, e2, hx0, hx, _, g1⟩ := pick_ok (n := 3) (m := m + 498 - 44 * k - 2) (good_less h6 (by omega))
      obtain ⟨y, c2, e3, hy0, hy, _, g2⟩ := pick_ok (n := 150) (m := m + 498 - 44 * k - 4) (good_less g1 (by omega))
      have hyd : Int.tdiv y 149 = y / 149 := Int.tdiv_eq_ediv_of_nonneg hy0
      have hyb : 0 ≤ y / 149 ∧ y / 149 ≤ 1 := by omega
      have w1 := wrap_in (x := id + 1) (by omega) (by omega)
      have w2 := wrap_in (x := id + 1 + x) (by omega) (by omega)
      have w3 := wrap_in (x := y / 149) (by omega) (by omega)
      have w4 := wrap_in (x := id + 1 + x - y / 149) (by omega) (by omega)
      have w5 := wrap_in (x := n - 1) (by omega) (by omega)
      obtain ⟨q, c3, e4, hq, g3⟩ := mark11_ok hf (m := m + 498 - 44 * k - 44) (id + 1 + x - y / 149) (by omega) (good_less g2 (by omega))
      simp only [GsL1CurPostmarks11.l0, unp4, letK, iteK_if, e2, e3, hyd, w1, w2, w3, w4, w5, e4, bind2_some, unPostmark, appK]
      rw [if_pos (by simp; omega), guardK_pos (by omega)]
      refine hn _ ⟨by dsimp only; omega, by dsimp only; omega, by simp [h4], ?_, good_less g3 (by omega)⟩
      intro z hz
      dsimp only at hz
      rcases List.mem_append.1 hz with hz | hz
      · exact h5 z hz
      · rw [List.mem_singleton] at hz
        subst hz; exact hq
    · rintro ⟨o, id, n, c⟩ nx ⟨h2, h3, h4, h5, h6⟩
      dsimp only at h2 h3 h4 h5 h6
      simp only [GsL1CurPostmarks11.l0, unp4, letK, iteK_if, appK]
      rw [if_neg (by simp; omega)]
      obtain ⟨b, c1, e2, g1⟩ := one_ok (n := 24) (m := m + 40) (good_less h6 (by omega))
      simp only [GsL1CurPostmarks11.e0, unp4, e2, bind2_some, iteK_if]
      cases b with
      | true =>
        rw [if_pos rfl]
        refine more11 hf _ (fun o' n' c' ho hc' => ?_) g1
        exact ⟨(o', c'), rfl, ho, hc'⟩
      | false =>
        rw [if_neg (by simp)]
        exact ⟨(o, c1), rfl, ⟨by dsimp only; omega, h5⟩, good_less g1 (by omega)⟩
  exact ⟨r.1, r.2, hr, hs, hg⟩
end Go.Proofs.YtgimcnpkngpmiaaDoor.Q11DrawsL

/- What the named laws of postmarks draw: the draws answer, within bounds. (Q11DrawsI) No condition but those of each theorem. -/
namespace Go.Proofs.YtgimcnpkngpmiaaDoor.Q11DrawsI
set_option linter.unusedVariables false
set_option linter.unusedSimpArgs false
open Go.RowKit
open Go.Proofs.YtgimcnpkngpmiaaDoor.GoP Go.Proofs.YtgimcnpkngpmiaaDoor.PlainStamp Go.Proofs.YtgimcnpkngpmiaaDoor.QBase Go.Proofs.YtgimcnpkngpmiaaDoor.Q11DrawsL Go.Proofs.YtgimcnpkngpmiaaDoor.Q11Draws Go.Proofs.YtgimcnpkngpmiaaDoor.QDraw Go.Proofs.YtgimcnpkngpmiaaDoor.QUp Go.Proofs.YtgimcnpkngpmiaaDoor.QAll Go.Proofs.YtgimcnpkngpmiaaDoor.QByte Go.Proofs.YtgimcnpkngpmiaaDoor.Q11Help Go.Proofs.YtgimcnpkngpmiaaDoor.QLoop Go.Proofs.YtgimcnpkngpmiaaDoor.PPostmark

theorem id_ok {t : GoC.Tape} {m : Nat} (l : List Postmark) (hl : smL l) (h : good t (m + 4)) : ∃ x t', GsL1CurPostmarkId.P t l = some (x, t') ∧ good t' m := by
  simp only [GsL1CurPostmarkId.P, letK, joinK, appK, iteK_if]
  have low : ∀ c, good c (m + 2) → ∃ x t', (bind2 (GsL1CurAmong.P c [0, 1, 500]) fun (t_10 : Int) (t_10_tp : GoC.Tape) => some (t_10, t_10_tp)) = some (x, t') ∧ good t' m := by
    intro c hc
    obtain ⟨x, t2, e2, _, h2⟩ := among_ok (l := [0, 1, 500]) (m := m) hc (by simp)
    exact ⟨x, t2, by rw [e2]; rfl, h2⟩
  by_cases h0 : (l.length : Int) = 0
  · rw [if_pos (by simpa using h0)]
    simp only [unp2, if_true]
    exact low _ (good_less h (by omega))
  · rw [if_neg (by simpa using h0)]
    obtain ⟨b, t1, e1, h1⟩ := one_ok (n := 10) (m := m + 2) h
    simp only [e1, bind2_some, unp2]
    cases b with
    | true => rw [if_pos rfl]; exact low _ h1
    | false =>
      rw [if_neg (by simp)]
      have hl30 := hl.1
      obtain ⟨q, t2, e2, hq0, hq, _, h2⟩ := pick_ok (n := (l.length : Int)) (m := m) h1
      obtain ⟨x, hx, _⟩ := at_lt (l := l) (k := q.toNat) (by omega)
      have hi : idx l q = some x := by rw [show q = ((q.toNat : Nat) : Int) by omega, idx_nat, hx]
      exact ⟨x.id, t2, by simp only [e2, bind2_some, hi, Option.bind_some, unPostmark], h2⟩
theorem day_ok {t : GoC.Tape} {m : Nat} (l : List Postmark) (hl : smL l) (h : good t (m + 6)) : ∃ x t', GsL1CurDay11.P t l = some (x, t') ∧ good t' m := by
  simp only [GsL1CurDay11.P, letK, joinK, appK, iteK_if]
  have cut : ∀ (q : Int), q = 4 ∨ q = 5 → ((0 : Int) ≤ q ∧ q ≤ (([0, 150, 4000, (-1), 4001] : List Int).length : Int)) ∧ 0 < (List.take (Int.toNat q) ([0, 150, 4000, (-1), 4001] : List Int)).length := by
    rintro q (rfl | rfl) <;> decide
  by_cases h0 : (l.length : Int) = 0
  · rw [if_pos (by simpa using h0)]
    simp only [unp2, if_true]
    obtain ⟨y, t1, e1, hy0, hy, _, g1⟩ := pick_ok (n := 24) (m := m + 2) (good_less h (by omega))
    have hyd : Int.tdiv y 12 = y / 12 := Int.tdiv_eq_ediv_of_nonneg hy0
    have w1 := wrap_in (x := y / 12) (by omega) (by omega)
    have w2 := wrap_in (x := 4 + y / 12) (by omega) (by omega)
    obtain ⟨c1, c2⟩ := cut (4 + y / 12) (by omega)
    obtain ⟨x, t2, e2, _, g2⟩ := among_ok (l := List.take (Int.toNat (4 + y / 12)) [0, 150, 4000, (-1), 4001]) (m := m) g1 c2
    exact ⟨x, t2, by simp only [e1, bind2_some, hyd, w1, w2]; rw [guardK_pos c1, e2]; rfl, g2⟩
  · rw [if_neg (by simpa using h0)]
    obtain ⟨b, t0, e0, g0⟩ := one_ok (n := 5) (m := m + 4) h
    simp only [e0, bind2_some, unp2]
    cases b with
    | true =>
      rw [if_pos rfl]
      obtain ⟨y, t1, e1, hy0, hy, _, g1⟩ := pick_ok (n := 24) (m := m + 2) g0
      have hyd : Int.tdiv y 12 = y / 12 := Int.tdiv_eq_ediv_of_nonneg hy0
      have w1 := wrap_in (x := y / 12) (by omega) (by omega)
      have w2 := wrap_in (x := 4 + y / 12) (by omega) (by omega)
      obtain ⟨c1, c2⟩ := cut (4 + y / 12) (by omega)
      obtain ⟨x, t2, e2, _, g2⟩ := among_ok (l := List.take (Int.toNat (4 + y / 12)) [0, 150, 4000, (-1), 4001]) (m := m) g1 c2
      exact ⟨x, t2, by simp only [e1, bind2_some, hyd, w1, w2]; rw [guardK_pos c1, e2]; rfl, g2⟩
    | false =>
      rw [if_neg (by simp)]
      have hl30 := hl.1
      obtain ⟨q, t2, e2, hq0, hq, _, g2⟩ := pick_ok (n := (l.length : Int)) (m := m + 2) g0
      obtain ⟨x, hx, _⟩ := at_lt (l := l) (k := q.toNat) (by omega)
      have hi : idx l q = some x := by rw [show q = ((q.toNat : Nat) : Int) by omega, idx_nat, hx]
      obtain ⟨_, _, _, hxf, hxl, _⟩ := hl.2 x (List.mem_of_getElem? hx)
      obtain ⟨z, t3, e3, _, g3⟩ := among_ok (l := [x.first, IntKind.i64.wrap (x.first - 1), x.last, IntKind.i64.wrap (x.last + 1), IntKind.i64.wrap (x.first + 5)]) (m := m) g2 (by simp)
      exact ⟨_, t3, by simp only [e2, bind2_some, hi, Option.bind_some, unPostmark, e3, Go.Proofs.YtgimcnpkngpmiaaDoor.Q11Help.most_eq, least_eq]; rfl, g3⟩
end Go.Proofs.YtgimcnpkngpmiaaDoor.Q11DrawsI

/- The named law of postmarks: what is shown reads as itself, a lost letter is still read, and no use is later than the latest one. (Q11DrawsG) No condition but those of each theorem. -/
namespace Go.Proofs.YtgimcnpkngpmiaaDoor.Q11DrawsG
set_option linter.unusedVariables false
set_option linter.unusedSimpArgs false
open Go.RowKit
open Go.Proofs.YtgimcnpkngpmiaaDoor.GoP Go.Proofs.YtgimcnpkngpmiaaDoor.PlainStamp Go.Proofs.YtgimcnpkngpmiaaDoor.QBase Go.Proofs.YtgimcnpkngpmiaaDoor.Q11ShownBy Go.Proofs.YtgimcnpkngpmiaaDoor.Q11Show Go.Proofs.YtgimcnpkngpmiaaDoor.Q11Mark Go.Proofs.YtgimcnpkngpmiaaDoor.Q11DrawsI Go.Proofs.YtgimcnpkngpmiaaDoor.Q11DrawsL Go.Proofs.YtgimcnpkngpmiaaDoor.Q11Draws Go.Proofs.YtgimcnpkngpmiaaDoor.QDraw Go.Proofs.YtgimcnpkngpmiaaDoor.QUp Go.Proofs.YtgimcnpkngpmiaaDoor.QAll Go.Proofs.YtgimcnpkngpmiaaDoor.QByte Go.Proofs.YtgimcnpkngpmiaaDoor.Q11Help Go.Proofs.YtgimcnpkngpmiaaDoor.QLoop Go.Proofs.YtgimcnpkngpmiaaDoor.PPostmark

theorem drawLose_ok {tapes : List Int → GoC.Tape} (HE : GoC.Tells tapes) {fuel : Nat} (hf : 1048577 ≤ fuel) (code : List Int) : ∃ l a b, GsDrawLoseLetter.P fuel tapes code = some (l, a, b) ∧ smL l := by
  obtain ⟨l, t1, e1, hl, h1⟩ := marks11_ok hf (m := 10) (good_of HE code (m := 510) (by omega))
  obtain ⟨a, t2, e2, h2⟩ := id_ok (m := 6) l hl h1
  obtain ⟨y, t3, e3, hy0, hy, _, h3⟩ := pick_ok (n := 24) (m := 4) h2
  have hyd : Int.tdiv y 12 = y / 12 := Int.tdiv_eq_ediv_of_nonneg hy0
  have w1 := wrap_in (x := y / 12) (by omega) (by omega)
  have w2 := wrap_in (x := 6 + y / 12) (by omega) (by omega)
  have cut : ∀ (q : Int), q = 6 ∨ q = 7 → ((0 : Int) ≤ q ∧ q ≤ (([0, 1, 2, 3, 4, (-1), 5] : List Int).length : Int)) ∧ 0 < (List.take (Int.toNat q) ([0, 1, 2, 3, 4, (-1), 5] : List Int)).length := by
    rintro q (rfl | rfl) <;> decide
  obtain ⟨c1, c2⟩ := cut (6 + y / 12) (by omega)
  obtain ⟨b, t4, e4, _, _⟩ := among_ok (l := List.take (Int.toNat (6 + y / 12)) [0, 1, 2, 3, 4, (-1), 5]) (m := 2) h3 c2
  exact ⟨l, a, b, by simp only [GsDrawLoseLetter.P, letK, e1, e2, e3, bind2_some, hyd, w1, w2]; rw [guardK_pos c1, e4]; rfl, hl⟩
theorem drawLatest_ok {tapes : List Int → GoC.Tape} (HE : GoC.Tells tapes) {fuel : Nat} (hf : 1048577 ≤ fuel) (code : List Int) : ∃ l town, GsDrawLatestUse.P fuel tapes code = some (l, town) ∧ smL l ∧ town.size ≤ 100 := by
  obtain ⟨l, t1, e1, hl, h1⟩ := marks11_ok hf (m := 10) (good_of HE code (m := 510) (by omega))
  obtain ⟨b, t2, e2, h2⟩ := one_ok (n := 10) (m := 8) h1
  simp only [GsDrawLatestUse.P, letK, e1, e2, bind2_some, iteK_if]
  cases b with
  | true =>
    obtain ⟨x, t3, e3, hx, _⟩ := of_ok (l := [(⟨#[122, 117, 103]⟩ : ByteArray), (⟨#[]⟩ : ByteArray), (⟨#[66, 101, 114, 110]⟩ : ByteArray)]) (m := 2) (good_less h2 (by omega)) (by simp) (by simp)
    simp only [List.mem_cons, List.not_mem_nil, or_false] at hx
    rw [if_pos rfl, e3]
    exact ⟨l, x, rfl, hl, by rcases hx with rfl | rfl | rfl <;> decide⟩
  | false =>
    obtain ⟨x, t3, e3, hx, _⟩ := town_ok (m := 2) (good_less h2 (by omega))
    rw [if_neg (by simp), e3]
    exact ⟨l, x, rfl, hl, by omega⟩
theorem drawSame_ok {tapes : List Int → GoC.Tape} (HE : GoC.Tells tapes) {fuel : Nat} (hf : 1048577 ≤ fuel) (code : List Int) : ∃ l a b, GsDrawSameTown.P fuel tapes code = some (l, a, b) ∧ smL l := by
  obtain ⟨l, t1, e1, hl, h1⟩ := marks11_ok hf (m := 10) (good_of HE code (m := 510) (by omega))
  obtain ⟨a, t2, e2, h2⟩ := id_ok (m := 6) l hl h1
  obtain ⟨b, t3, e3, h3⟩ := id_ok (m := 2) l hl h2
  exact ⟨l, a, b, by simp only [GsDrawSameTown.P, letK, e1, e2, e3, bind2_some], hl⟩
theorem drawIs_ok {tapes : List Int → GoC.Tape} (HE : GoC.Tells tapes) {fuel : Nat} (hf : 1048577 ≤ fuel) (code : List Int) : ∃ p, GsDrawIsPostmark.P fuel tapes code = some p ∧ smP p := by
  obtain ⟨i, t1, e1, hi, h1⟩ := among_ok (l := [1, 42, 999]) (m := 40) (good_of HE code (m := 42) (by omega)) (by simp)
  simp only [List.mem_cons, List.not_mem_nil, or_false] at hi
  obtain ⟨p, t2, e2, hp, _⟩ := mark11_ok hf (m := 0) i (by omega) h1
  refine ⟨p, ?_, hp⟩
  obtain ⟨a, b, c, d, e, g⟩ := p
  simp only [GsDrawIsPostmark.P, letK, e1, e2, bind2_some, unPostmark]
theorem drawShown_ok {tapes : List Int → GoC.Tape} (HE : GoC.Tells tapes) {fuel : Nat} (hf : 1048577 ≤ fuel) (code : List Int) : ∃ p, GsDrawShownBy.P fuel tapes code = some p ∧ smP p := by
  obtain ⟨p, e1, hp⟩ := drawIs_ok HE hf code
  refine ⟨p, ?_, hp⟩
  obtain ⟨a, b, c, d, e, g⟩ := p
  simp only [GsDrawShownBy.P, e1, Option.bind_some, unPostmark]
theorem shownRes_size (p : Postmark) : (shownRes p).1.size ≤ 10 := by
  unfold shownRes
  split
  · rename_i h
    have hz := okPm_size h
    dsimp only; rw [shown_size hz.1]; omega
  · show (0 : Nat) ≤ 10; omega
theorem readEnd_ok {l : List Postmark} (hl : smL l) {r : ByteArray} (hr : r.size ≤ 100) {c : GoC.Tape} (h : good c 6) : ∃ l' r' d, GsDrawReadMarks.j0 l (r, c) = some (l', r', d) ∧ smL l' ∧ r'.size ≤ 100 := by
  obtain ⟨d, t, e, _⟩ := day_ok (m := 0) l hl h
  exact ⟨l, r, d, by simp only [GsDrawReadMarks.j0, unp2, e, bind2_some], hl, hr⟩
theorem drawRead_ok {tapes : List Int → GoC.Tape} (HE : GoC.Tells tapes) {fuel : Nat} (hf : 1048577 ≤ fuel) (code : List Int) : ∃ l r d, GsDrawReadMarks.P fuel tapes code = some (l, r, d) ∧ smL l ∧ r.size ≤ 100 := by
  obtain ⟨l, t1, e1, hl, h1⟩ := marks11_ok hf (m := 30) (good_of HE code (m := 530) (by omega))
  obtain ⟨s, t2, e2, hs, h2⟩ := of_ok (l := [(⟨#[98, 63, 114, 110]⟩ : ByteArray), (⟨#[98, 63, 110, 63]⟩ : ByteArray), (⟨#[63, 63, 63, 63]⟩ : ByteArray), (⟨#[63, 63, 63, 63, 63]⟩ : ByteArray), (⟨#[103, 101, 110, 102]⟩ : ByteArray), (⟨#[]⟩ : ByteArray), (⟨#[66]⟩ : ByteArray), (⟨#[97, 98, 99, 100, 101, 102, 103, 104, 105, 106, 107]⟩ : ByteArray), (⟨#[98, 97, 115, 101, 108]⟩ : ByteArray)]) (m := 28) h1 (by simp) (by simp)
  have hsz : s.size ≤ 100 := by
    simp only [List.mem_cons, List.not_mem_nil, or_false] at hs
    rcases hs with rfl | rfl | rfl | rfl | rfl | rfl | rfl | rfl | rfl <;> decide
  simp only [GsDrawReadMarks.P, letK, e1, e2, bind2_some, joinK, appK, iteK_if]
  by_cases h0 : 0 < (l.length : Int)
  · rw [decide_eq_true h0, if_pos rfl]
    obtain ⟨b, t3, e3, h3⟩ := one_ok (n := 3) (m := 26) h2
    simp only [e3, bind2_some, unp2]
    cases b with
    | true => simp only [Bool.not_true, Bool.false_eq_true, if_false]; exact readEnd_ok hl hsz (good_less h3 (by omega))
    | false =>
      simp only [Bool.not_false, if_true]
      have hl30 := hl.1
      obtain ⟨q, t4, e4, hq0, hq, _, h4⟩ := pick_ok (n := (l.length : Int)) (m := 24) h3
      obtain ⟨x, hx, _⟩ := at_lt (l := l) (k := q.toNat) (by omega)
      have hi : idx l q = some x := by rw [show q = ((q.toNat : Nat) : Int) by omega, idx_nat, hx]
      have hsh := shownBy_spec x (smP_fits (hl.2 x (List.mem_of_getElem? hx))) fuel (by omega)
      have hss := shownRes_size x
      obtain ⟨⟨r, o⟩, hro⟩ : ∃ z, shownRes x = z := ⟨_, rfl⟩
      rw [hro] at hsh hss
      dsimp only at hss
      have hsh' : GsShownBy.P fuel (Postmark.mk x.id x.town x.kind_ x.first x.last x.lost) = some (r, o) := hsh
      obtain ⟨b2, t5, e5, h5⟩ := one_ok (n := 2) (m := 22) h4
      simp only [e4, bind2_some, hi, Option.bind_some, unPostmark, hsh', e5]
      cases b2 with
      | false => simp only [Bool.false_eq_true, if_false]; exact readEnd_ok hl (by omega) (good_less h5 (by omega))
      | true =>
        simp only [if_true]
        by_cases hr1 : (1 : Int) < (r.size : Int)
        · have z1 : (⟨#[63]⟩ : ByteArray).size = 1 := rfl
          have s1 : (r.extract 0 1).size = 1 := by rw [ByteArray.size_extract]; omega
          have s2 : (r.extract 2 r.size).size = r.size - 2 := by rw [ByteArray.size_extract]; omega
          have s3 : (r.extract 0 1 ++ (⟨#[63]⟩ : ByteArray)).size = 2 := by rw [ByteArray.size_append, s1, z1]
          rw [decide_eq_true hr1, if_pos rfl, guardK_pos (by omega), show Int.toNat 1 = 1 from rfl, show Int.toNat 2 = 2 from rfl, guardK_pos (by rw [s1, z1]; unfold maxLen; omega), guardK_pos (by omega), guardK_pos (by rw [s3, s2]; unfold maxLen; omega)]
          exact readEnd_ok hl (by rw [ByteArray.size_append, s3, s2]; omega) (good_less h5 (by omega))
        · rw [decide_eq_false hr1, if_neg (by simp)]
          exact readEnd_ok hl (by omega) (good_less h5 (by omega))
  · rw [decide_eq_false h0, if_neg (by simp)]
    simp only [unp2, Bool.false_eq_true, if_false]
    exact readEnd_ok hl hsz (good_less h2 (by omega))
end Go.Proofs.YtgimcnpkngpmiaaDoor.Q11DrawsG

/- Loops that count, that search, and that gather behind what is there already: the plain loops' answers. (QCount) No condition but those of each theorem. -/
namespace Go.Proofs.YtgimcnpkngpmiaaDoor.QCount
set_option linter.unusedVariables false
set_option linter.unusedSimpArgs false
open Go.RowKit
open Go.Proofs.YtgimcnpkngpmiaaDoor.GoP Go.Proofs.YtgimcnpkngpmiaaDoor.PlainStamp Go.Proofs.YtgimcnpkngpmiaaDoor.QBase Go.Proofs.YtgimcnpkngpmiaaDoor.QLoop

/-- the first place at which the test holds -/
def firstI {α : Type} (p : α → Bool) (l : List α) : Int := match l.findIdx? p with | some i => (i : Int) | none => -1
theorem find_loop {α R : Type} {l : List α} {p : α → Bool} {f : Nat → Unit → (Unit → Option R) → (Unit → Option R) → Option R} {fin : Unit → Option R} {yes : Nat → Option R}
    (step : ∀ k nx x, l[k]? = some x → f k () nx fin = if p x = true then yes k else nx ()) : cntK f l.length 0 () fin = match l.findIdx? p with | some i => yes i | none => fin () := by
  have key : ∀ m k, k + m = l.length → (∀ i x, i < k → l[i]? = some x → p x = false) → cntK f m k () fin = match l.findIdx? p with | some i => yes i | none => fin () := by
    intro m
    induction m with
    | zero =>
      intro k hk hu; obtain rfl : k = l.length := by omega
      have : l.findIdx? p = none := by
        rw [List.findIdx?_eq_none_iff]
        intro x hx
        obtain ⟨i, hi⟩ := List.getElem?_of_mem hx
        exact hu i x (List.getElem?_eq_some_iff.1 hi).1 hi
      rw [this]; rfl
    | succ m ih =>
      intro k hk hu
      obtain ⟨x, hx, _⟩ := at_lt (l := l) (k := k) (by omega)
      show f k () _ fin = _
      rw [step k _ x hx]
      cases hp : p x with
      | true =>
        have : l.findIdx? p = some k := by
          rw [List.findIdx?_eq_some_iff_getElem]
          obtain ⟨hlt, e⟩ := List.getElem?_eq_some_iff.1 hx
          refine ⟨hlt, by rw [e]; exact hp, fun j hj => ?_⟩
          rw [hu j l[j] hj (List.getElem?_eq_getElem (by omega))]; simp
        rw [this, if_pos rfl]
      | false =>
        rw [if_neg (by simp)]
        refine ih (k + 1) (by omega) (fun i y hi hy => ?_)
        by_cases he : i = k
        · subst he; rw [hx] at hy; obtain rfl := Option.some.inj hy; exact hp
        · exact hu i y (by omega) hy
  exact key l.length 0 (by omega) (fun i x hi _ => by omega)
end Go.Proofs.YtgimcnpkngpmiaaDoor.QCount

/- The named law of postmarks: what is shown reads as itself, a lost letter is still read, and no use is later than the latest one. (Q11RHelp) No condition but those of each theorem. -/
namespace Go.Proofs.YtgimcnpkngpmiaaDoor.Q11RHelp
set_option linter.unusedVariables false
set_option linter.unusedSimpArgs false
open Go.RowKit
open Go.Proofs.YtgimcnpkngpmiaaDoor.GoP Go.Proofs.YtgimcnpkngpmiaaDoor.PlainStamp Go.Proofs.YtgimcnpkngpmiaaDoor.QBase Go.Proofs.YtgimcnpkngpmiaaDoor.QCount Go.Proofs.YtgimcnpkngpmiaaDoor.QAll Go.Proofs.YtgimcnpkngpmiaaDoor.QLoop Go.Proofs.YtgimcnpkngpmiaaDoor.PPostmark

theorem rMarks_self (l : List Postmark) : GlRMarks.P l l = some true := by
  simp only [GlRMarks.P, letK, iteK_if]
  rw [if_neg (by simp)]
  refine cnt_is true (fun _ _ => True) ?_ (fun s _ => rfl) () trivial
  intro k s nx hk _ hn
  obtain ⟨x, hx, hi⟩ := at_lt (l := l) (k := k) hk
  simp only [GlRMarks.l0, hi, Option.bind_some, unPostmark, letK, appK, iteK_if, beq_self_eq_true, Bool.and_self, Bool.not_true, Bool.false_eq_true, if_false]
  exact hn () trivial
theorem rInts_self (l : List Int) : GlRInts.P l l = some true := by
  simp only [GlRInts.P, letK, iteK_if]
  rw [if_neg (by simp)]
  refine cnt_is true (fun _ _ => True) ?_ (fun s _ => rfl) () trivial
  intro k s nx hk _ hn
  obtain ⟨x, hx, hi⟩ := at_lt (l := l) (k := k) hk
  simp only [GlRInts.l0, hi, Option.bind_some, letK, appK, iteK_if, bne_self_eq_false, Bool.false_eq_true, if_false]
  exact hn () trivial
theorem rHas_yes {l : List Int} {x : Int} (h : x ∈ l) : GlRHas.P l x = some true := by
  simp only [GlRHas.P]
  rw [find_loop (p := fun y => y == x) (yes := fun _ => some true)]
  · cases hq : l.findIdx? (fun y => y == x) with
    | some i => rfl
    | none =>
      rw [List.findIdx?_eq_none_iff] at hq
      have := hq x h
      simp at this
  · intro k nx y hy
    have hi : idx l (k : Int) = some y := by rw [idx_nat, hy]
    simp only [GlRHas.l0, hi, Option.bind_some, letK, appK, iteK_if]
theorem rBig_eq (code : List Int) : GlRBig.P code = some (decide ((65536 : Int) < (code.length : Int))) := rfl
end Go.Proofs.YtgimcnpkngpmiaaDoor.Q11RHelp

/- Chapter 11: postmarks: the plain functions of the program and of the reference agree, and the laws answer true. (Q11List) No condition but those of each theorem. -/
namespace Go.Proofs.YtgimcnpkngpmiaaDoor.Q11List
set_option linter.unusedVariables false
set_option linter.unusedSimpArgs false
open Go.RowKit
open Go.Proofs.YtgimcnpkngpmiaaDoor.GoP Go.Proofs.YtgimcnpkngpmiaaDoor.PlainStamp Go.Proofs.YtgimcnpkngpmiaaDoor.QBase Go.Proofs.YtgimcnpkngpmiaaDoor.Q11Mark Go.Proofs.YtgimcnpkngpmiaaDoor.QUp Go.Proofs.YtgimcnpkngpmiaaDoor.QLoop Go.Proofs.YtgimcnpkngpmiaaDoor.PPostmark

def okPms (l : List Postmark) : Bool := upL 12 okPm Postmark.id l
theorem arePostmarks_eq (l : List Postmark) (hf : ∀ s ∈ l, s.fits) : GiArePostmarks.P l = some (okPms l) := by
  simp only [GiArePostmarks.P, GiAreByKeyPostmarkIntiIsPostmarkiIdOfPostmark.P, letK, iteK_if]
  by_cases hl : l.length ≤ 12
  · rw [if_neg (by simp; omega), up_loop (ok := okPm) (id := Postmark.id) (no := false)]
    · unfold okPms upL; cases upTo okPm Postmark.id l l.length <;> simp [hl, GiAreByKeyPostmarkIntiIsPostmarkiIdOfPostmark.e0]
    · intro k nx s hs
      have hi : idx l (k : Int) = some s := by rw [idx_nat, hs]
      have hk : k < l.length := (List.getElem?_eq_some_iff.1 hs).1
      have hm := isPostmark_eq s (fits_sz (hf s (List.mem_of_getElem? hs))).2
      simp only [GiAreByKeyPostmarkIntiIsPostmarkiIdOfPostmark.l0, hi, Option.bind_some, unPostmark, GiIdOfPostmark.P, letK, joinK, appK, iteK_if]
      rw [hm]
      refine ⟨fun h => by simp [h], fun h => ⟨fun h0 => by subst h0; simp [h], fun h0 r hr => ?_⟩⟩
      rw [idx_pred h0 (by omega) hr]
      have hk0 : (0 : Int) < (k : Int) := by omega
      have hk1 : ¬ k = 0 := by omega
      exact ⟨fun hlt => by (have hc : ¬ s.id ≤ r.id := by omega); simp [h, hk0, hk1, hc], fun hge => by simp [h, hk0, hk1, hge]⟩
  · rw [if_pos (by simp; omega)]; unfold okPms upL; simp [hl]
theorem l11Good_eq (fuel : Nat) (hfu : 100 ≤ fuel) (l : List Postmark) (hf : ∀ s ∈ l, s.fits) (hl : l.length ≤ 9223372036854775807) : GsL11Good.P fuel l = some (okPms l) := by
  simp only [GsL11Good.P]
  rw [up_loop (ok := okPm) (id := Postmark.id) (no := false)]
  · unfold okPms upL; cases upTo okPm Postmark.id l l.length <;> simp [GsL11Good.e0, letK]; omega
  · intro k nx s hs
    have hi : idx l (k : Int) = some s := by rw [idx_nat, hs]
    have hk : k < l.length := (List.getElem?_eq_some_iff.1 hs).1
    have hm := l11One_eq s (hf s (List.mem_of_getElem? hs)) fuel hfu
    simp only [GsL11Good.l0, hi, Option.bind_some, unPostmark, letK, joinK, appK, iteK_if]
    rw [hm]
    refine ⟨fun h => by simp [h], fun h => ⟨fun h0 => by subst h0; simp [h], fun h0 r hr => ?_⟩⟩
    rw [idx_pred h0 (by omega) hr]
    have hk0 : (0 : Int) < (k : Int) := by omega
    have hk1 : ¬ k = 0 := by omega
    exact ⟨fun hlt => by (have hc : ¬ s.id ≤ r.id := by omega); simp [h, hk0, hk1, hc], fun hge => by simp [h, hk0, hk1, hge]⟩
theorem pms_mem {l : List Postmark} (h : okPms l = true) {x : Postmark} (hx : x ∈ l) : okPm x = true := upL_mem h hx
end Go.Proofs.YtgimcnpkngpmiaaDoor.Q11List

/- Chapter 11: postmarks: the plain functions of the program and of the reference agree, and the laws answer true. (Q11Set) No condition but those of each theorem. -/
namespace Go.Proofs.YtgimcnpkngpmiaaDoor.Q11Set
set_option linter.unusedVariables false
set_option linter.unusedSimpArgs false
open Go.RowKit
open Go.Proofs.YtgimcnpkngpmiaaDoor.GoP Go.Proofs.YtgimcnpkngpmiaaDoor.PlainStamp Go.Proofs.YtgimcnpkngpmiaaDoor.QBase Go.Proofs.YtgimcnpkngpmiaaDoor.Q11List Go.Proofs.YtgimcnpkngpmiaaDoor.Q11Mark Go.Proofs.YtgimcnpkngpmiaaDoor.QUp Go.Proofs.YtgimcnpkngpmiaaDoor.QLoop Go.Proofs.YtgimcnpkngpmiaaDoor.PPostmark

theorem upL_set {l : List Postmark} (hc : okPms l = true) {i : Nat} {x y : Postmark} (hx : l[i]? = some x) (hid : y.id = x.id) : okPms (l.set i y) = okPm y := by
  have hil := (List.getElem?_eq_some_iff.1 hx).1
  have hto : upTo okPm Postmark.id l l.length = true := by unfold okPms upL at hc; simp only [Bool.and_eq_true] at hc; exact hc.2
  have hlen : l.length ≤ 12 := upL_len hc
  have hys : (l.set i y)[i]? = some y := List.getElem?_set_self hil
  cases hy : okPm y with
  | false =>
    rw [Bool.eq_false_iff]
    intro h
    have := pms_mem h (List.mem_of_getElem? hys)
    rw [hy] at this; exact absurd this (by simp)
  | true =>
    have hid2 : ∀ (k : Nat) (z : Postmark), (l.set i y)[k]? = some z → ∃ u : Postmark, l[k]? = some u ∧ u.id = z.id ∧ (okPm u = true → okPm z = true) := by
      intro k z hz
      by_cases h : i = k
      · subst h
        rw [hys] at hz; obtain rfl := Option.some.inj hz
        exact ⟨x, hx, hid.symm, fun _ => hy⟩
      · rw [List.getElem?_set_ne h] at hz
        exact ⟨z, hz, rfl, id⟩
    unfold okPms upL
    rw [List.length_set, decide_eq_true hlen, Bool.true_and]
    unfold upTo
    rw [List.all_eq_true]
    intro k hk
    rw [List.mem_range] at hk
    have hak := upTo_at hto hk
    unfold upAt
    cases hz : (l.set i y)[k]? with
    | none => rfl
    | some z =>
      obtain ⟨u, hu, hiu, hou⟩ := hid2 k z hz
      have hok := pms_mem hc (List.mem_of_getElem? hu)
      simp only [hou hok, Bool.true_and]
      by_cases h0 : k = 0
      · simp [h0]
      · rw [decide_eq_false h0, Bool.false_or]
        cases hr : (l.set i y)[k - 1]? with
        | none => simp
        | some r =>
          obtain ⟨v, hv, hiv, _⟩ := hid2 (k - 1) r hr
          have := up_less hto (i := k - 1) (j := k) (by omega) hv hu
          simp only [decide_eq_true_eq]
          omega
end Go.Proofs.YtgimcnpkngpmiaaDoor.Q11Set

/- Lists of valid records in strictly rising order of any kind; texts in the order of their bytes. (QOrd) No condition but those of each theorem. -/
namespace Go.Proofs.YtgimcnpkngpmiaaDoor.QOrd
set_option linter.unusedVariables false
set_option linter.unusedSimpArgs false
open Go.RowKit
open Go.Proofs.YtgimcnpkngpmiaaDoor.GoP Go.Proofs.YtgimcnpkngpmiaaDoor.PlainStamp Go.Proofs.YtgimcnpkngpmiaaDoor.QBase Go.Proofs.YtgimcnpkngpmiaaDoor.QLoop

/-- texts in the order of their bytes -/
def bl (a b : ByteArray) : Bool := Op.bytesLess a.toList b.toList
theorem list_inj {a b : ByteArray} (h : a.toList = b.toList) : a = b := by
  rw [Lib.toList_data, Lib.toList_data] at h
  cases a; cases b; congr 1; exact Array.toList_inj.1 h
theorem eq_list (a b : ByteArray) : (a.toList == b.toList) = decide (a = b) := by
  by_cases e : a = b
  · subst e; simp
  · rw [decide_eq_false e, beq_eq_false_iff_ne]; exact fun h => e (list_inj h)

/-- valid, and behind the one ahead of it -/
def riseAt {α : Type} (ok : α → Bool) (lt : α → α → Bool) (l : List α) (k : Nat) : Bool :=
  match l[k]? with
  | none => true
  | some s => ok s && (decide (k = 0) || (match l[k-1]? with | none => true | some r => lt r s))
def riseTo {α : Type} (ok : α → Bool) (lt : α → α → Bool) (l : List α) (k : Nat) : Bool := (List.range k).all (riseAt ok lt l)
def riseL {α : Type} (m : Nat) (ok : α → Bool) (lt : α → α → Bool) (l : List α) : Bool := decide (l.length ≤ m) && riseTo ok lt l l.length
end Go.Proofs.YtgimcnpkngpmiaaDoor.QOrd

/- Chapter 11: postmarks: the plain functions of the program and of the reference agree, and the laws answer true. (Q11Find) No condition but those of each theorem. -/
namespace Go.Proofs.YtgimcnpkngpmiaaDoor.Q11Find
set_option linter.unusedVariables false
set_option linter.unusedSimpArgs false
open Go.RowKit
open Go.Proofs.YtgimcnpkngpmiaaDoor.GoP Go.Proofs.YtgimcnpkngpmiaaDoor.PlainStamp Go.Proofs.YtgimcnpkngpmiaaDoor.QBase Go.Proofs.YtgimcnpkngpmiaaDoor.QCount Go.Proofs.YtgimcnpkngpmiaaDoor.QOrd Go.Proofs.YtgimcnpkngpmiaaDoor.Q11List Go.Proofs.YtgimcnpkngpmiaaDoor.Q11Mark Go.Proofs.YtgimcnpkngpmiaaDoor.QUp Go.Proofs.YtgimcnpkngpmiaaDoor.QLoop Go.Proofs.YtgimcnpkngpmiaaDoor.PPostmark

def isId (id : Int) (x : Postmark) : Bool := decide (x.id = id)
/-- the postmark with an id, and its place -/
def fnd (l : List Postmark) (id : Int) : Option (Nat × Postmark) := match l.findIdx? (isId id) with | none => none | some i => l[i]?.map fun x => (i, x)
theorem fnd_some {l : List Postmark} {id : Int} {i : Nat} {x : Postmark} (h : fnd l id = some (i, x)) : firstI (isId id) l = (i : Int) ∧ l[i]? = some x ∧ x.id = id ∧ i < l.length := by
  unfold fnd at h
  unfold firstI
  cases hq : l.findIdx? (isId id) with
  | none => rw [hq] at h; simp at h
  | some q =>
    rw [hq] at h
    simp only [Option.map_eq_some_iff, Prod.mk.injEq] at h
    obtain ⟨y, hy, rfl, rfl⟩ := h
    rw [List.findIdx?_eq_some_iff_getElem] at hq
    obtain ⟨hql, hqp, _⟩ := hq
    obtain ⟨h1, h2⟩ := List.getElem?_eq_some_iff.1 hy
    refine ⟨rfl, hy, ?_, hql⟩
    rw [h2] at hqp
    unfold isId at hqp; simpa using hqp
theorem fnd_none {l : List Postmark} {id : Int} (h : fnd l id = none) : firstI (isId id) l = -1 ∧ ∀ x ∈ l, x.id ≠ id := by
  unfold fnd at h
  unfold firstI
  cases hq : l.findIdx? (isId id) with
  | none =>
    refine ⟨rfl, fun x hx => ?_⟩
    rw [List.findIdx?_eq_none_iff] at hq
    have := hq x hx
    unfold isId at this; simpa using this
  | some q =>
    rw [hq] at h
    have hq2 := hq
    rw [List.findIdx?_eq_some_iff_getElem] at hq
    obtain ⟨hql, _⟩ := hq
    simp [List.getElem?_eq_getElem hql] at h
theorem find_impl (l : List Postmark) (id : Int) : GxSlicesIndexFuncLoopExampleG01062ImplPostmarkLoopExampleG01062ImplPostmarkiIndexOfPostmark1.P l id = some (firstI (isId id) l) := by
  simp only [GxSlicesIndexFuncLoopExampleG01062ImplPostmarkLoopExampleG01062ImplPostmarkiIndexOfPostmark1.P]
  rw [find_loop (p := isId id) (yes := fun i => some (i : Int))]
  · unfold firstI
    cases l.findIdx? (isId id) <;> rfl
  · intro k nx x hx
    have hi : idx l (k : Int) = some x := by rw [idx_nat, hx]
    simp only [GxSlicesIndexFuncLoopExampleG01062ImplPostmarkLoopExampleG01062ImplPostmarkiIndexOfPostmark1.l0, hi, Option.bind_some, unPostmark, GiIndexOfPostmark1.P, letK, appK, iteK_if]
    rfl
theorem indexOf_eq (l : List Postmark) (hf : ∀ s ∈ l, s.fits) (id : Int) : GiIndexOfPostmark.P l id = some (if okPms l = true then firstI (isId id) l else -1) := by
  simp only [GiIndexOfPostmark.P, arePostmarks_eq l hf, find_impl, Option.bind_some, letK, iteK_if]
  cases okPms l <;> simp
theorem l11Find_eq (l : List Postmark) (id : Int) : GsL11Find.P l id = some (firstI (isId id) l) := by
  simp only [GsL11Find.P]
  rw [find_loop (p := isId id) (yes := fun i => some (i : Int))]
  · unfold firstI
    cases l.findIdx? (isId id) <;> rfl
  · intro k nx x hx
    have hi : idx l (k : Int) = some x := by rw [idx_nat, hx]
    simp only [GsL11Find.l0, hi, Option.bind_some, unPostmark, letK, appK, iteK_if]
    rfl
end Go.Proofs.YtgimcnpkngpmiaaDoor.Q11Find

/- Chapter 11: postmarks: the plain functions of the program and of the reference agree, and the laws answer true. (Q11Lose) No condition but those of each theorem. -/
namespace Go.Proofs.YtgimcnpkngpmiaaDoor.Q11Lose
set_option linter.unusedVariables false
set_option linter.unusedSimpArgs false
open Go.RowKit
open Go.Proofs.YtgimcnpkngpmiaaDoor.GoP Go.Proofs.YtgimcnpkngpmiaaDoor.PlainStamp Go.Proofs.YtgimcnpkngpmiaaDoor.QBase Go.Proofs.YtgimcnpkngpmiaaDoor.Q11Set Go.Proofs.YtgimcnpkngpmiaaDoor.Q11Help Go.Proofs.YtgimcnpkngpmiaaDoor.Q11Show Go.Proofs.YtgimcnpkngpmiaaDoor.Q11Find Go.Proofs.YtgimcnpkngpmiaaDoor.QByte Go.Proofs.YtgimcnpkngpmiaaDoor.QCount Go.Proofs.YtgimcnpkngpmiaaDoor.QOrd Go.Proofs.YtgimcnpkngpmiaaDoor.Q11List Go.Proofs.YtgimcnpkngpmiaaDoor.Q11Mark Go.Proofs.YtgimcnpkngpmiaaDoor.QUp Go.Proofs.YtgimcnpkngpmiaaDoor.QLoop Go.Proofs.YtgimcnpkngpmiaaDoor.PPostmark

/-- the letter at a place is lost -/
def lostAt (x : Postmark) (q : Nat) : Postmark := ⟨x.id, x.town, x.kind_, x.first, x.last, bs (x.lost.toList.set q 120)⟩
def loseRes (l : List Postmark) (id place : Int) : List Postmark × Bool := if okPms l = true then (match fnd l id with | none => ([], false) | some (i, x) => if (inB place 0 ((x.lost.size : Int) - 1) && !(x.lost.toList.getD place.toNat 0 == 120) && okPm (lostAt x place.toNat)) = true then (l.set i (lostAt x place.toNat), true) else ([], false)) else ([], false)
theorem lostAt_size (x : Postmark) (q : Nat) : (lostAt x q).lost.size = x.lost.size := by
  unfold lostAt; dsimp only; rw [bs_size, List.length_set, toList_size]
theorem toI_set (l : List UInt8) (q : Nat) : (toI l).set q 120 = toI (l.set q 120) := by
  unfold toI; rw [List.map_set]; rfl
theorem toI_at {l : List UInt8} {q : Nat} {b : UInt8} (h : l[q]? = some b) : (toI l)[q]? = some (b.toNat : Int) := by
  unfold toI; rw [List.getElem?_map, h]; rfl
theorem lose_impl (l : List Postmark) (hf : ∀ s ∈ l, s.fits) (id place : Int) : GiLoseLetter.P l id place = some (loseRes l id place) := by
  simp only [GiLoseLetter.P, indexOf_eq l hf, Option.bind_some, letK, iteK_if, loseRes]
  cases hc : okPms l with
  | false => simp
  | true =>
    have h12 : l.length ≤ 12 := upL_len hc
    simp only [if_true]
    cases ha : fnd l id with
    | none => simp [(fnd_none ha).1]
    | some p =>
      obtain ⟨i, x⟩ := p
      obtain ⟨e1, hx, _, hil⟩ := fnd_some ha
      have hnx : ¬ ((i : Int) < 0) := by omega
      have hz := okPm_size (pms_mem hc (List.mem_of_getElem? hx))
      have hlen : (x.lost.toList.map fun b_ => (b_.toNat : Int)).length = x.lost.size := by rw [List.length_map, toList_size]
      have hw := wrap_in (x := (x.lost.size : Int) - 1) (by omega) (by omega)
      simp only [e1, decide_eq_false hnx, Bool.false_eq_true, if_false, idx_nat, hx, Option.bind_some, unPostmark]
      rw [guardK_pos (by omega)]
      simp only [hlen, hw, within_eq, Option.bind_some, joinK, appK]
      cases hp : inB place 0 ((x.lost.size : Int) - 1) with
      | false => simp
      | true =>
        have hp' := inB_of hp
        obtain ⟨q, rfl⟩ : ∃ q : Nat, place = (q : Int) := ⟨place.toNat, by omega⟩
        obtain ⟨b, hb, _⟩ := at_lt (l := x.lost.toList) (k := q) (by rw [toList_size]; omega)
        have hbI : idx (x.lost.toList.map fun b_ => (b_.toNat : Int)) (q : Int) = some (b.toNat : Int) := by rw [idx_nat]; exact toI_at hb
        have hgd : x.lost.toList.getD q 0 = b := by simp [List.getD, hb]
        have e120 : ((b.toNat : Int) == 120) = (b == 120) := byte_eq b 120
        simp only [hbI, Option.bind_some, e120, Bool.not_true, Bool.false_eq_true, if_false, Int.toNat_natCast, hgd, Bool.true_and]
        cases h120 : (b == 120) with
        | true => simp
        | false =>
          have hk : Go.Proofs.YtgimcnpkngpmiaaDoor.GoB.strK ((x.lost.toList.map fun b_ => (b_.toNat : Int)).set q 120) = bs (x.lost.toList.set q 120) := by
            rw [← strK_toI, ← toI_set]; rfl
          have hset : (l.set i (lostAt x q))[i]? = some (lostAt x q) := List.getElem?_set_self hil
          have hpm := isPostmark_eq (lostAt x q) (by rw [lostAt_size]; omega)
          have hst : (Postmark.mk x.id x.town x.kind_ x.first x.last (bs (x.lost.toList.set q 120))) = lostAt x q := rfl
          simp only [clone_eq (show l.length ≤ 1000000 by omega), hk, Option.bind_some, idx_nat, hx, hst, hset, Bool.not_false, Bool.true_and, Bool.false_eq_true, if_false]
          have hpm2 : GiIsPostmark.P (Postmark.mk (lostAt x q).id (lostAt x q).town (lostAt x q).kind_ (lostAt x q).first (lostAt x q).last (lostAt x q).lost) = some (okPm (lostAt x q)) := hpm
          rw [hpm2]
          cases okPm (lostAt x q) <;> simp
theorem cut_set {l : List UInt8} {q : Nat} (h : q < l.length) : l.take q ++ [120] ++ l.drop (q + 1) = l.set q 120 := by
  rw [List.set_eq_take_append_cons_drop, if_pos h]; simp
theorem lose_spec (fuel : Nat) (hfu : 100 ≤ fuel) (l : List Postmark) (hf : ∀ s ∈ l, s.fits) (hl : l.length ≤ 9223372036854775807) (id place : Int) : GsLoseLetter.P fuel l id place = some (loseRes l id place) := by
  simp only [GsLoseLetter.P, l11Good_eq fuel hfu l hf hl, l11Find_eq, Option.bind_some, letK, joinK, appK, iteK_if, loseRes, List.nil_append]
  cases hc : okPms l with
  | false => simp
  | true =>
    have h12 : l.length ≤ 12 := upL_len hc
    cases ha : fnd l id with
    | none => simp [(fnd_none ha).1]
    | some p =>
      obtain ⟨i, x⟩ := p
      obtain ⟨e1, hx, _, hil⟩ := fnd_some ha
      have hnx : ¬ ((i : Int) < 0) := by omega
      have hz := okPm_size (pms_mem hc (List.mem_of_getElem? hx))
      have hw := wrap_in (x := (x.lost.size : Int) - 1) (by omega) (by omega)
      simp only [e1, decide_eq_false hnx, Bool.not_true, Bool.false_eq_true, if_false, if_true, idx_nat, hx, Option.bind_some, unPostmark, hw, l1In_eq]
      cases hp : inB place 0 ((x.lost.size : Int) - 1) with
      | false => simp
      | true =>
        have hp' := inB_of hp
        obtain ⟨q, rfl⟩ : ∃ q : Nat, place = (q : Int) := ⟨place.toNat, by omega⟩
        obtain ⟨b, hb, hbi⟩ := at_lt (l := x.lost.toList) (k := q) (by rw [toList_size]; omega)
        have hgd : x.lost.toList.getD q 0 = b := by simp [List.getD, hb]
        have e120 : ((b.toNat : Int) == 120) = (b == 120) := byte_eq b 120
        have hbi' : idx x.lost.toList (q : Int) = some b := hbi
        rw [idx_nat] at hbi'
        simp only [idx_nat, hbi', Option.bind_some, e120, Bool.not_true, Bool.false_eq_true, if_false, Int.toNat_natCast, hgd, Bool.true_and]
        cases h120 : (b == 120) with
        | true => simp
        | false =>
          have hw2 := wrap_in (x := (q : Int) + 1) (by omega) (by omega)
          have hone : (⟨#[120]⟩ : ByteArray).size = 1 := rfl
          have hs1 : x.lost.extract 0 q = bs (x.lost.toList.take q) := by
            have h1 := bs_cut x.lost.toList 0 q
            rw [bs_of] at h1; simpa using h1
          have hs2 : x.lost.extract (q + 1) x.lost.size = bs (x.lost.toList.drop (q + 1)) := by
            have h1 := bs_cut x.lost.toList (q + 1) x.lost.size
            rw [bs_of, List.take_of_length_le (by rw [toList_size]; exact Nat.le_refl _)] at h1; exact h1
          have hsum : bs (x.lost.toList.take q) ++ (⟨#[120]⟩ : ByteArray) ++ bs (x.lost.toList.drop (q + 1)) = bs (x.lost.toList.set q 120) := by
            rw [show (⟨#[120]⟩ : ByteArray) = bs [120] from rfl, bs_app, bs_app, cut_set (by rw [toList_size]; omega)]
          have hl1 : (bs (x.lost.toList.take q)).size ≤ 10 := by rw [bs_size, List.length_take, toList_size]; omega
          have hl2 : (bs (x.lost.toList.drop (q + 1))).size ≤ 10 := by rw [bs_size, List.length_drop, toList_size]; omega
          have hl3 : (bs (x.lost.toList.take q) ++ (⟨#[120]⟩ : ByteArray)).size ≤ 11 := by
            rw [show (⟨#[120]⟩ : ByteArray) = bs [120] from rfl, bs_app, bs_size, List.length_append, List.length_take, toList_size, List.length_singleton]; omega
          simp only [Bool.false_eq_true, if_false]
          rw [guardK_pos (by simp; omega), guardK_pos (by omega), hw2, show Int.toNat ((q : Int) + 1) = q + 1 by omega, hs1, hs2, hsum, guardK_pos (by rw [hone]; unfold maxLen; omega), guardK_pos (by omega), guardK_pos (by unfold maxLen; omega)]
          have hst : (Postmark.mk x.id x.town x.kind_ x.first x.last (bs (x.lost.toList.set q 120))) = lostAt x q := rfl
          have hfit : ∀ s ∈ l.set i (lostAt x q), s.fits := by
            intro s hs
            rcases List.mem_or_eq_of_mem_set hs with h | rfl
            · exact hf s h
            · obtain ⟨f1, f2, f3, f4, f5, f6⟩ := hf x (List.mem_of_getElem? hx)
              exact ⟨f1, f2, f3, f4, f5, by rw [lostAt_size]; exact f6⟩
          have hg := l11Good_eq fuel hfu (l.set i (lostAt x q)) hfit (by rw [List.length_set]; exact hl)
          rw [hst, hg, upL_set (y := lostAt x q) hc hx rfl]
          simp only [Option.bind_some, Bool.not_false, Bool.true_and]
          cases okPm (lostAt x q) <;> simp
end Go.Proofs.YtgimcnpkngpmiaaDoor.Q11Lose

/- A loop that gathers what a test lets through: the plain loop's answer. (QGath) No condition but those of each theorem. -/
namespace Go.Proofs.YtgimcnpkngpmiaaDoor.QGath
set_option linter.unusedVariables false
open Go.RowKit
open Go.Proofs.YtgimcnpkngpmiaaDoor.GoP Go.Proofs.YtgimcnpkngpmiaaDoor.QBase Go.Proofs.YtgimcnpkngpmiaaDoor.QLoop

theorem gather {α β R : Type} {l : List α} {p : α → Bool} {g : α → β} {f : Nat → List β → (List β → Option R) → (List β → Option R) → Option R} {fin : List β → Option R} (hl : l.length ≤ 1099511627776)
    (step : ∀ k nx x s, l[k]? = some x → s.length ≤ 1099511627776 → f k s nx fin = nx (if p x then s ++ [g x] else s)) : cntK f l.length 0 [] fin = fin ((l.filter p).map g) := by
  have key : ∀ m k, k + m = l.length → cntK f m k (((l.take k).filter p).map g) fin = fin ((l.filter p).map g) := by
    intro m
    induction m with
    | zero => intro k hk; obtain rfl : k = l.length := by omega
              rw [List.take_of_length_le (Nat.le_refl _)]; rfl
    | succ m ih =>
      intro k hk
      obtain ⟨x, hx, _⟩ := at_lt (l := l) (k := k) (by omega)
      show f k _ _ fin = _
      have hle : (((l.take k).filter p).map g).length ≤ 1099511627776 := by
        rw [List.length_map]
        have := List.length_filter_le p (l.take k)
        rw [List.length_take] at this
        omega
      rw [step k _ x _ hx hle, ← ih (k + 1) (by omega), take_next hx, List.filter_append, List.map_append]
      cases hp : p x <;> simp [List.filter, hp]
  exact key l.length 0 (by omega)
end Go.Proofs.YtgimcnpkngpmiaaDoor.QGath

